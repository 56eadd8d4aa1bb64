import PyProof.Rows.All
import Wide.All
import OpenK.AllK
import Wide.FinOn
import HandS.ForMost
import HandS.Evl
import HandS.IsInst
import HandS.TupLe
import HandS.More
import HandS.Strs
import HandS.Walk
import HandS.Deep
import HandS.TupAny
import HandS.Conv
import HandS.ExcCtx
import HandS.CallSlots
import HandS.ExcInit
import HandS.ExcOwn
import HandS.WordsExc
import HandS.OwnEq
import KE.GoesMore
import HandS.TupMul
import HandS.Style
import HandS.ExcInitHot
import HandS.ExcField
import HandS.HotCalls
import HandS.TryMany
import HandS.CallLocal
import HandS.Rev
import PySem.Challenge.RW_merestone_k31_judged_configurations
set_option Elab.async false
section
set_option Elab.async false
set_option linter.all false
set_option maxRecDepth 100000
set_option maxHeartbeats 4000000
namespace Wv
open PySem PySem.Spec PyProof.Rows L2 Evl

/-! ### data, trees of what is owned -/
inductive D where
  | non | bool (b : Bool) | int (i : Int) | str (s : Str)
  | lst (ds : List D) | ro (ds : List D) | tup (ds : List D) | tpx (ds : List D) | fzl (ds : List D) | obj (c : Nat) (ds : List D) | dct (ks : List Key) (ds : List D) | fn (j : Nat) | exn (a dd : Addr) (c : Nat) (ds : List D) | cst (v : V) | any
/-- nm: a node whose address is told -/
inductive T where
  | dat (d : D) | lst (ts : List T) | obj (c : Nat) (ts : List T) | dct (ks : List Key) (ts : List T) | nm (a : Addr) (t : T)
structure Cs where
  at_ : Nat → Addr
  ly : Nat → List Str
  fn : Nat → Addr := fun _ => 0
mutual
inductive DR (K : PySem.W.Frag) (C : Cs) (G : Hp) : V → D → Prop
  | non : DR K C G .non .non
  | bool (b : Bool) : DR K C G (.bl b) (.bool b)
  | int (i : Int) : DR K C G (.int i) (.int i)
  | str (s : Str) : DR K C G (.str s) (.str s)
  | lst {a : Addr} {xs : List V} {ds : List D} (h : G a = some (.lst xs)) (r : DRs K C G xs ds) : DR K C G (.ref a) (.lst ds)
  | ro {a : Addr} {xs : List V} {ds : List D} (h : SqL K G a xs) (r : DRs K C G xs ds) : DR K C G (.ref a) (.ro ds)
  | tup {a : Addr} {xs : List V} {ds : List D} (h : SqT K G a xs) (r : DRs K C G xs ds) : DR K C G (.ref a) (.tup ds)
  | tpx {a : Addr} {o : Obj} {xs : List V} {ds : List D} (h : G a = some (.frz o (.tup xs))) (n : o.dict = none) (r : DRs K C G xs ds) : DR K C G (.ref a) (.tpx ds)
  | fzl {a : Addr} {o : Obj} {xs : List V} {ds : List D} (h : G a = some (.frz o (.lst xs))) (r : DRs K C G xs ds) : DR K C G (.ref a) (.fzl ds)
  | obj {a dx : Addr} {fs : List (Str × V)} {c : Nat} {ds : List D} (h : G a = some (.ins (C.at_ c) dx fs)) (n : fs.map Prod.fst = (C.ly c).take fs.length) (r : DRs K C G (fs.map Prod.snd) ds) : DR K C G (.ref a) (.obj c ds)
  | dct {a : Addr} {kvs : List (Key × V)} {ks : List Key} {ds : List D} (h : G a = some (.dK kvs)) (n : kvs.map Prod.fst = ks) (r : DRs K C G (kvs.map Prod.snd) ds) : DR K C G (.ref a) (.dct ks ds)
  | fn (j : Nat) : DR K C G (.ref (C.fn j)) (.fn j)
  | exn {a dd : Addr} {fs : List (Str × V)} {c : Nat} {ds : List D} (h : G dd = some (.xd fs)) (n : fs.map Prod.fst = (C.ly c).take fs.length) (r : DRs K C G (fs.map Prod.snd) ds) : DR K C G (.ref a) (.exn a dd c ds)
  | cst (v : V) : DR K C G v (.cst v)
  | any (v : V) : DR K C G v .any
inductive DRs (K : PySem.W.Frag) (C : Cs) (G : Hp) : List V → List D → Prop
  | nil : DRs K C G [] []
  | cons {v : V} {d : D} {vs : List V} {ds : List D} (h : DR K C G v d) (r : DRs K C G vs ds) : DRs K C G (v :: vs) (d :: ds)
end
mutual
inductive TR (K : PySem.W.Frag) (C : Cs) (G H : Hp) : V → T → List Addr → Prop
  | dat {v : V} {d : D} (h : DR K C G v d) : TR K C G H v (.dat d) []
  | lst {a : Addr} {xs : List V} {ts : List T} {fp : List Addr} (h : H a = some (.lst xs)) (r : TRs K C G H xs ts fp) : TR K C G H (.ref a) (.lst ts) (a :: fp)
  | obj {a dx : Addr} {fs : List (Str × V)} {c : Nat} {ts : List T} {fp : List Addr} (h : H a = some (.ins (C.at_ c) dx fs)) (n : fs.map Prod.fst = (C.ly c).take fs.length) (r : TRs K C G H (fs.map Prod.snd) ts fp) : TR K C G H (.ref a) (.obj c ts) (a :: fp)
  | dct {a : Addr} {kvs : List (Key × V)} {ks : List Key} {ts : List T} {fp : List Addr} (h : H a = some (.dK kvs)) (n : kvs.map Prod.fst = ks) (r : TRs K C G H (kvs.map Prod.snd) ts fp) : TR K C G H (.ref a) (.dct ks ts) (a :: fp)
  | nm {a : Addr} {t : T} {fp : List Addr} (h : TR K C G H (.ref a) t fp) : TR K C G H (.ref a) (.nm a t) fp
inductive TRs (K : PySem.W.Frag) (C : Cs) (G H : Hp) : List V → List T → List Addr → Prop
  | nil : TRs K C G H [] [] []
  | cons {v : V} {t : T} {vs : List V} {ts : List T} {fp fq : List Addr} (h : TR K C G H v t fp) (r : TRs K C G H vs ts fq) : TRs K C G H (v :: vs) (t :: ts) (fp ++ fq)
end
section
variable {K : PySem.W.Frag} {C : Cs} {G H G' H' : Hp}
mutual
theorem DR.up (e : Ex G G') : ∀ (d : D) (v : V), DR K C G v d → DR K C G' v d
  | .non, _, h => by cases h; exact .non
  | .bool b, _, h => by cases h; exact .bool b
  | .int i, _, h => by cases h; exact .int i
  | .str x, _, h => by cases h; exact .str x
  | .lst ds, _, h => by
    cases h with
    | lst hs ha => exact .lst (e _ _ hs) (DRs.up e ds _ ha)
  | .ro ds, _, h => by
    cases h with
    | ro hs ha => exact .ro (ex_l e hs) (DRs.up e ds _ ha)
  | .tup ds, _, h => by
    cases h with
    | tup hs ha => exact .tup (ex_t e hs) (DRs.up e ds _ ha)
  | .tpx ds, _, h => by
    cases h with
    | tpx hs n ha => exact .tpx (e _ _ hs) n (DRs.up e ds _ ha)
  | .fzl ds, _, h => by
    cases h with
    | fzl hs ha => exact .fzl (e _ _ hs) (DRs.up e ds _ ha)
  | .obj c ds, _, h => by
    cases h with
    | obj hs n ha => exact .obj (e _ _ hs) n (DRs.up e ds _ ha)
  | .dct ks ds, _, h => by
    cases h with
    | dct hs n ha => exact .dct (e _ _ hs) n (DRs.up e ds _ ha)
  | .fn j, _, h => by cases h; exact .fn j
  | .exn a dd c ds, _, h => by
    cases h with
    | exn hs n ha => exact .exn (e _ _ hs) n (DRs.up e ds _ ha)
  | .cst v, _, h => by cases h; exact .cst v
  | .any, v, h => .any v
theorem DRs.up (e : Ex G G') : ∀ (ds : List D) (vs : List V), DRs K C G vs ds → DRs K C G' vs ds
  | [], _, h => by cases h; exact .nil
  | d :: ds, _, h => by
    cases h with
    | cons h1 h2 => exact .cons (DR.up e d _ h1) (DRs.up e ds _ h2)
end
theorem DRs.len : ∀ {ds : List D} {vs : List V}, DRs K C G vs ds → vs.length = ds.length
  | [], _, .nil => rfl
  | _ :: _, _, .cons _ h => by rw [List.length_cons, List.length_cons, DRs.len h]
theorem DRs.get : ∀ {ds : List D} {vs : List V} {i : Nat} {d : D}, DRs K C G vs ds → ds[i]? = some d → ∃ v, vs[i]? = some v ∧ DR K C G v d
  | _, _, i, _, .nil, e => by simp at e
  | _, _, 0, _, .cons h _, e => by
    cases (Option.some.inj e)
    exact ⟨_, rfl, h⟩
  | _, _, i + 1, _, .cons _ h, e => DRs.get (i := i) h e
theorem DRs.app : ∀ {ds es : List D} {vs us : List V}, DRs K C G vs ds → DRs K C G us es → DRs K C G (vs ++ us) (ds ++ es)
  | _, _, _, _, .nil, h => h
  | _, _, _, _, .cons h1 h2, h => .cons h1 (DRs.app h2 h)
theorem DRs.ints : ∀ {ns : List Int} {vs : List V}, DRs K C G vs (ns.map .int) → vs = ns.map V.int
  | [], _, .nil => rfl
  | _ :: _, _, .cons h1 h2 => by
    cases h1
    rw [DRs.ints h2]
    rfl
theorem DRs.strs : ∀ {ns : List Str} {vs : List V}, DRs K C G vs (ns.map .str) → vs = ns.map V.str
  | [], _, .nil => rfl
  | _ :: _, _, .cons h1 h2 => by
    cases h1
    rw [DRs.strs h2]
    rfl
theorem DRs.bools : ∀ {ns : List Bool} {vs : List V}, DRs K C G vs (ns.map .bool) → vs = ns.map V.bl
  | [], _, .nil => rfl
  | _ :: _, _, .cons h1 h2 => by
    cases h1
    rw [DRs.bools h2]
    rfl
theorem DRs.of_ints : ∀ (ns : List Int), DRs K C G (ns.map V.int) (ns.map .int)
  | [] => .nil
  | s :: ss => .cons (.int s) (DRs.of_ints ss)
theorem DRs.of_strs : ∀ (ns : List Str), DRs K C G (ns.map V.str) (ns.map .str)
  | [] => .nil
  | s :: ss => .cons (.str s) (DRs.of_strs ss)
theorem TRs.len : ∀ {ts : List T} {vs : List V} {fp : List Addr}, TRs K C G H vs ts fp → vs.length = ts.length
  | [], _, _, .nil => rfl
  | _ :: _, _, _, .cons _ h => by rw [List.length_cons, List.length_cons, TRs.len h]
/-! a tree stays where its own objects stay -/
mutual
theorem TR.stay (e : Ex G G') : ∀ (t : T) (v : V) (fp : List Addr), TR K C G H v t fp → (∀ a ∈ fp, H' a = H a) → TR K C G' H' v t fp
  | .dat d, _, _, h, _ => by
    cases h with
    | dat h => exact .dat (DR.up e d _ h)
  | .lst ts, _, _, h, s => by
    cases h with
    | lst h r => exact .lst ((s _ List.mem_cons_self).trans h) (TRs.stay e ts _ _ r fun a ha => s a (List.mem_cons_of_mem _ ha))
  | .obj c ts, _, _, h, s => by
    cases h with
    | obj h n r => exact .obj ((s _ List.mem_cons_self).trans h) n (TRs.stay e ts _ _ r fun a ha => s a (List.mem_cons_of_mem _ ha))
  | .dct ks ts, _, _, h, s => by
    cases h with
    | dct h n r => exact .dct ((s _ List.mem_cons_self).trans h) n (TRs.stay e ts _ _ r fun a ha => s a (List.mem_cons_of_mem _ ha))
  | .nm a t, _, _, h, s => by
    cases h with
    | nm h => exact .nm (TR.stay e t _ _ h s)
theorem TRs.stay (e : Ex G G') : ∀ (ts : List T) (vs : List V) (fp : List Addr), TRs K C G H vs ts fp → (∀ a ∈ fp, H' a = H a) → TRs K C G' H' vs ts fp
  | [], _, _, h, _ => by cases h; exact .nil
  | t :: ts, _, _, h, s => by
    cases h with
    | cons h r => exact .cons (TR.stay e t _ _ h fun a ha => s a (List.mem_append_left _ ha)) (TRs.stay e ts _ _ r fun a ha => s a (List.mem_append_right _ ha))
end
/-! a tree becomes data -/
mutual
def T.toD : T → D
  | .dat d => d
  | .lst ts => .lst (T.toDs ts)
  | .obj c ts => .obj c (T.toDs ts)
  | .dct ks ts => .dct ks (T.toDs ts)
  | .nm _ t => t.toD
def T.toDs : List T → List D
  | [] => []
  | t :: ts => t.toD :: T.toDs ts
end
theorem toDs_map : ∀ ds : List D, T.toDs (ds.map .dat) = ds
  | [] => rfl
  | d :: ds => by
    show d :: T.toDs (ds.map .dat) = _
    rw [toDs_map ds]
mutual
theorem TR.frz (e : Ex G G') : ∀ (t : T) (v : V) (fp : List Addr), TR K C G H v t fp → (∀ a ∈ fp, G' a = H a) → DR K C G' v t.toD
  | .dat d, _, _, h, _ => by
    cases h with
    | dat h => exact DR.up e d _ h
  | .lst ts, _, _, h, s => by
    cases h with
    | lst h r => exact .lst ((s _ List.mem_cons_self).trans h) (TRs.frz e ts _ _ r fun a ha => s a (List.mem_cons_of_mem _ ha))
  | .obj c ts, _, _, h, s => by
    cases h with
    | obj h n r => exact .obj ((s _ List.mem_cons_self).trans h) n (TRs.frz e ts _ _ r fun a ha => s a (List.mem_cons_of_mem _ ha))
  | .dct ks ts, _, _, h, s => by
    cases h with
    | dct h n r => exact .dct ((s _ List.mem_cons_self).trans h) n (TRs.frz e ts _ _ r fun a ha => s a (List.mem_cons_of_mem _ ha))
  | .nm a t, _, _, h, s => by
    cases h with
    | nm h => exact TR.frz e t _ _ h s
theorem TRs.frz (e : Ex G G') : ∀ (ts : List T) (vs : List V) (fp : List Addr), TRs K C G H vs ts fp → (∀ a ∈ fp, G' a = H a) → DRs K C G' vs (T.toDs ts)
  | [], _, _, h, _ => by cases h; exact .nil
  | t :: ts, _, _, h, s => by
    cases h with
    | cons h r => exact .cons (TR.frz e t _ _ h fun a ha => s a (List.mem_append_left _ ha)) (TRs.frz e ts _ _ r fun a ha => s a (List.mem_append_right _ ha))
end
/-- the heap of data with the objects at fp -/
def mix (G H : Hp) (fp : List Addr) : Hp := fun a => if a ∈ fp then H a else G a
theorem mix_in {fp : List Addr} {a : Addr} (h : a ∈ fp) : mix G H fp a = H a := if_pos h
theorem mix_out {fp : List Addr} {a : Addr} (h : a ∉ fp) : mix G H fp a = G a := if_neg h
theorem mix_ex {fp : List Addr} (h : ∀ a ∈ fp, G a = none) : Ex G (mix G H fp) := fun a o e => by
  rw [mix_out fun z => by rw [h a z] at e; cases e]
  exact e
theorem mix_sub {fp : List Addr} (s : Ex G H) : Ex (mix G H fp) H := fun a o e => by
  by_cases z : a ∈ fp
  · rw [mix_in z] at e
    exact e
  · rw [mix_out z] at e
    exact s a o e

/-! ### places -/
def fol (H : Hp) : List Nat → V → Option V
  | [], v => some v
  | i :: p, .ref a => match H a with
    | some (.lst xs) => (xs[i]?).bind (fol H p)
    | some (.ins _ _ fs) => ((fs.map Prod.snd)[i]?).bind (fol H p)
    | some (.dK kvs) => ((kvs.map Prod.snd)[i]?).bind (fol H p)
    | _ => none
  | _ :: _, _ => none
def T.kids : T → List T
  | .dat _ => []
  | .lst ts => ts
  | .obj _ ts => ts
  | .dct _ ts => ts
  | .nm _ t => t.kids
/-- the node itself -/
def T.strip : T → T
  | .dat d => .dat d
  | .lst ts => .lst ts
  | .obj c ts => .obj c ts
  | .dct ks ts => .dct ks ts
  | .nm _ t => t.strip
def T.isD : T → Bool
  | .dat _ => true
  | .lst _ => false
  | .obj _ _ => false
  | .dct _ _ => false
  | .nm _ t => t.isD
/-- the node becomes another, its name stays -/
def T.over (f : T → T) : T → T
  | .dat d => f (.dat d)
  | .lst ts => f (.lst ts)
  | .obj c ts => f (.obj c ts)
  | .dct ks ts => f (.dct ks ts)
  | .nm a t => .nm a (T.over f t)
def T.at : List Nat → T → Option T
  | [], t => some t
  | i :: p, t => (t.kids[i]?).bind (T.at p)
def T.withKids : T → List T → T
  | .dat d, _ => .dat d
  | .lst _, ts => .lst ts
  | .obj c _, ts => .obj c ts
  | .dct ks _, ts => .dct ks ts
  | .nm a t, ts => .nm a (T.withKids t ts)
def T.put (u : T) : List Nat → T → T
  | [] => T.over fun _ => u.strip
  | i :: p => T.over fun t => match t.kids[i]? with
    | some x => t.withKids (t.kids.set i (T.put u p x))
    | none => t
theorem TR.strip {K : PySem.W.Frag} {C : Cs} {G H : Hp} : ∀ {t : T} {v : V} {fp : List Addr}, TR K C G H v t fp → TR K C G H v t.strip fp
  | .dat _, _, _, h => h
  | .lst _, _, _, h => h
  | .obj _ _, _, _, h => h
  | .dct _ _, _, _, h => h
  | .nm _ t, _, _, h => by
    cases h with
    | nm h => exact TR.strip (t := t) h
theorem T.strip_nm {a : Addr} {u : T} : ∀ t : T, t.strip ≠ .nm a u
  | .dat _, h => nomatch h
  | .lst _, h => nomatch h
  | .obj _ _, h => nomatch h
  | .dct _ _, h => nomatch h
  | .nm _ t, h => T.strip_nm t h
theorem T.strip_strip : ∀ t : T, t.strip.strip = t.strip
  | .dat _ => rfl
  | .lst _ => rfl
  | .obj _ _ => rfl
  | .dct _ _ => rfl
  | .nm _ t => T.strip_strip t
theorem TR.over {K : PySem.W.Frag} {C : Cs} {G H G' H' : Hp} {f : T → T} {fq : List Addr} : ∀ {t : T} {v : V} {fp : List Addr}, TR K C G H v t fp → TR K C G' H' v (f t.strip) fq → TR K C G' H' v (T.over f t) fq
  | .dat _, _, _, _, h => h
  | .lst _, _, _, _, h => h
  | .obj _ _, _, _, _, h => h
  | .dct _ _, _, _, _, h => h
  | .nm _ t, _, _, h, h' => by
    cases h with
    | nm h => exact .nm (TR.over (t := t) h h')
def NodeV (H : Hp) (w : V) : Prop := ∃ a, w = .ref a ∧ ((∃ xs, H a = some (.lst xs)) ∨ (∃ c dx fs, H a = some (.ins c dx fs)) ∨ ∃ kvs, H a = some (.dK kvs))
theorem TRs.split : ∀ {ts : List T} {vs : List V} {fp : List Addr} {i : Nat} {t : T}, TRs K C G H vs ts fp → ts[i]? = some t → ∃ v L fu R, vs[i]? = some v ∧ TR K C G H v t fu ∧ fp = L ++ (fu ++ R) ∧
    ∀ (G' H' : Hp) (t' : T) (fu' : List Addr), Ex G G' → (∀ a ∈ L ++ R, H' a = H a) → TR K C G' H' v t' fu' → TRs K C G' H' vs (ts.set i t') (L ++ (fu' ++ R))
  | _, _, _, _, _, .nil, e => by simp at e
  | _, _, _, 0, _, .cons (fp := fp) (fq := fq) h r, e => by
    cases Option.some.inj e
    exact ⟨_, [], fp, fq, rfl, h, rfl, fun G' H' t' fu' eg s h' => TRs.cons (fp := fu') (fq := fq) h' (TRs.stay eg _ _ _ r fun a ha => s a ha)⟩
  | _, _, _, i + 1, _, .cons (fp := fp) (fq := fq) h r, e => by
    obtain ⟨v, L, fu, R, h1, h2, h3, h4⟩ := TRs.split (i := i) r e
    refine ⟨v, fp ++ L, fu, R, h1, h2, by rw [h3, List.append_assoc], fun G' H' t' fu' eg s h' => ?_⟩
    rw [List.append_assoc]
    refine .cons (TR.stay eg _ _ _ h fun a ha => s a (by simp [ha])) (h4 G' H' t' fu' eg (fun a ha => s a ?_) h')
    rcases List.mem_append.mp ha with z | z <;> simp [z]
/-- the node at a place, and what may stand there -/
theorem TR.node : ∀ {p : List Nat} {t u : T} {v : V} {fp : List Addr}, TR K C G H v t fp → T.at p t = some u → ∃ w L fu R, fol H p v = some w ∧ TR K C G H w u fu ∧ fp = L ++ (fu ++ R) ∧
    ∀ (G' H' : Hp) (u' : T) (fu' : List Addr), Ex G G' → (∀ a ∈ L ++ R, H' a = H a) → TR K C G' H' w u' fu' → TR K C G' H' v (T.put u' p t) (L ++ (fu' ++ R))
  | [], t, u, v, fp, h, e => by
    cases Option.some.inj e
    exact ⟨v, [], fp, [], rfl, h, by simp, fun G' H' u' fu' eg s h' => by
      show TR K C G' H' v (T.over (fun _ => u'.strip) t) ([] ++ (fu' ++ []))
      have := TR.over (f := fun _ => u'.strip) h h'.strip
      simpa using this⟩
  | i :: p, t, u, v, fp, h, e => by
    cases h with
    | @nm a t _ h =>
      obtain ⟨w, L, fu, R, h1, h2, h3, h4⟩ := TR.node (p := i :: p) (t := t) h (show T.at (i :: p) t = some u from e)
      exact ⟨w, L, fu, R, h1, h2, h3, fun G' H' u' fu' eg s h' => .nm (h4 G' H' u' fu' eg s h')⟩
    | dat h => simp [T.at, T.kids] at e
    | @lst a xs ts fq h r =>
      cases q : ts[i]? with
      | none => simp [T.at, T.kids, q] at e
      | some x =>
        have e : T.at p x = some u := by simpa [T.at, T.kids, q] using e
        obtain ⟨w, L, fu, R, h1, h2, h3, h4⟩ := TRs.split r q
        obtain ⟨w2, L2, fu2, R2, k1, k2, k3, k4⟩ := TR.node (p := p) h2 e
        refine ⟨w2, a :: (L ++ L2), fu2, R2 ++ R, ?_, k2, by rw [h3, k3]; simp, fun G' H' u' fu' eg s h' => ?_⟩
        · show (match H a with | some (.lst xs) => (xs[i]?).bind (fol H p) | some (.ins _ _ fs) => ((fs.map Prod.snd)[i]?).bind (fol H p) | some (.dK kvs) => ((kvs.map Prod.snd)[i]?).bind (fol H p) | _ => none) = _
          rw [h]
          show (xs[i]?).bind (fol H p) = _
          rw [h1]
          exact k1
        · have z := h4 G' H' (T.put u' p x) (L2 ++ (fu' ++ R2)) eg (fun b hb => s b (by rcases List.mem_append.mp hb with y | y <;> simp [y])) (k4 G' H' u' fu' eg (fun b hb => s b (by rcases List.mem_append.mp hb with y | y <;> simp [y])) h')
          have y : T.put u' (i :: p) (.lst ts) = .lst (ts.set i (T.put u' p x)) := by simp [T.put, T.over, T.kids, q, T.withKids]
          rw [y]
          have := TR.lst (C := C) ((s a (by simp)).trans h) z
          simpa using this
    | @obj a dx fs c ts fq h n r =>
      cases q : ts[i]? with
      | none => simp [T.at, T.kids, q] at e
      | some x =>
        have e : T.at p x = some u := by simpa [T.at, T.kids, q] using e
        obtain ⟨w, L, fu, R, h1, h2, h3, h4⟩ := TRs.split r q
        obtain ⟨w2, L2, fu2, R2, k1, k2, k3, k4⟩ := TR.node (p := p) h2 e
        refine ⟨w2, a :: (L ++ L2), fu2, R2 ++ R, ?_, k2, by rw [h3, k3]; simp, fun G' H' u' fu' eg s h' => ?_⟩
        · show (match H a with | some (.lst xs) => (xs[i]?).bind (fol H p) | some (.ins _ _ fs) => ((fs.map Prod.snd)[i]?).bind (fol H p) | some (.dK kvs) => ((kvs.map Prod.snd)[i]?).bind (fol H p) | _ => none) = _
          rw [h]
          show ((fs.map Prod.snd)[i]?).bind (fol H p) = _
          rw [h1]
          exact k1
        · have z := h4 G' H' (T.put u' p x) (L2 ++ (fu' ++ R2)) eg (fun b hb => s b (by rcases List.mem_append.mp hb with y | y <;> simp [y])) (k4 G' H' u' fu' eg (fun b hb => s b (by rcases List.mem_append.mp hb with y | y <;> simp [y])) h')
          have y : T.put u' (i :: p) (.obj c ts) = .obj c (ts.set i (T.put u' p x)) := by simp [T.put, T.over, T.kids, q, T.withKids]
          rw [y]
          have := TR.obj (C := C) ((s a (by simp)).trans h) n z
          simpa using this
    | @dct a kvs ks ts fq h n r =>
      cases q : ts[i]? with
      | none => simp [T.at, T.kids, q] at e
      | some x =>
        have e : T.at p x = some u := by simpa [T.at, T.kids, q] using e
        obtain ⟨w, L, fu, R, h1, h2, h3, h4⟩ := TRs.split r q
        obtain ⟨w2, L2, fu2, R2, k1, k2, k3, k4⟩ := TR.node (p := p) h2 e
        refine ⟨w2, a :: (L ++ L2), fu2, R2 ++ R, ?_, k2, by rw [h3, k3]; simp, fun G' H' u' fu' eg s h' => ?_⟩
        · show (match H a with | some (.lst xs) => (xs[i]?).bind (fol H p) | some (.ins _ _ fs) => ((fs.map Prod.snd)[i]?).bind (fol H p) | some (.dK kvs) => ((kvs.map Prod.snd)[i]?).bind (fol H p) | _ => none) = _
          rw [h]
          show ((kvs.map Prod.snd)[i]?).bind (fol H p) = _
          rw [h1]
          exact k1
        · have z := h4 G' H' (T.put u' p x) (L2 ++ (fu' ++ R2)) eg (fun b hb => s b (by rcases List.mem_append.mp hb with y | y <;> simp [y])) (k4 G' H' u' fu' eg (fun b hb => s b (by rcases List.mem_append.mp hb with y | y <;> simp [y])) h')
          have y : T.put u' (i :: p) (.dct ks ts) = .dct ks (ts.set i (T.put u' p x)) := by simp [T.put, T.over, T.kids, q, T.withKids]
          rw [y]
          have := TR.dct (C := C) ((s a (by simp)).trans h) n z
          simpa using this
/-- no place to a node is lost -/
def Idn (H H' : Hp) : Prop := ∀ w : V, NodeV H w → NodeV H' w
theorem Idn.refl (H : Hp) : Idn H H := fun _ n => n
theorem Idn.trans {H1 H2 : Hp} (a : Idn H H1) (b : Idn H1 H2) : Idn H H2 := fun w h => b w (a w h)
/-- an object is laid, or a node gets other contents, its nodes in their places -/
theorem Idn.of (n : ∀ w, NodeV H w → NodeV H' w) : Idn H H' := n
end
end Wv
end

section
set_option Elab.async false
set_option linter.all false
set_option maxRecDepth 100000
set_option maxHeartbeats 4000000
namespace Wv
open PySem PySem.Spec PyProof.Rows L2 Evl

inductive Val where | dat (d : D) | ref (r : Nat) (p : List Nat)
abbrev Slots := List (Option Val)
/-- an error of the program's own: its class, its fields -/
structure Exn where
  c : Nat
  ds : List D
abbrev Roots := List T
def VR (K : PySem.W.Frag) (C : Cs) (G H : Hp) (ρ : List Addr) : Val → V → Prop
  | .dat d, v => DR K C G v d
  | .ref r p, v => ∃ a, ρ[r]? = some a ∧ fol H p (.ref a) = some v ∧ NodeV H v ∧ p = []
inductive VRs (K : PySem.W.Frag) (C : Cs) (G H : Hp) (ρ : List Addr) : List Val → List V → Prop
  | nil : VRs K C G H ρ [] []
  | cons {x : Val} {v : V} {xs : List Val} {vs : List V} (h : VR K C G H ρ x v) (r : VRs K C G H ρ xs vs) : VRs K C G H ρ (x :: xs) (v :: vs)
inductive Rts (K : PySem.W.Frag) (C : Cs) (G H : Hp) : List T → List Addr → List (List Addr) → Prop
  | nil : Rts K C G H [] [] []
  | cons {t : T} {a : Addr} {fp : List Addr} {ts : List T} {as : List Addr} {fps : List (List Addr)} (h : TR K C G H (.ref a) t fp) (r : Rts K C G H ts as fps) : Rts K C G H (t :: ts) (a :: as) (fp :: fps)
structure RSt (K : PySem.W.Frag) (C : Cs) (rt : Roots) (ρ : List Addr) (fps : List (List Addr)) (G H : Hp) : Prop where
  sub : Ex G H
  root : Rts K C G H rt ρ fps
  nd : fps.flatten.Nodup
  fr : ∀ a ∈ fps.flatten, G a = none
structure St (K : PySem.W.Frag) (C : Cs) (sl : Slots) (rt : Roots) (σ : L2.St) (ρ : List Addr) (fps : List (List Addr)) (G H : Hp) : Prop extends RSt K C rt ρ fps G H where
  len : σ.length = sl.length
  slot : ∀ (i : Nat) x, sl[i]? = some (some x) → ∃ v, σ[i]? = some (some v) ∧ VR K C G H ρ x v
structure Nx (fp : List Addr) (G H G' H' : Hp) (fp' : List Addr) : Prop where
  g : Ex G G'
  keep : ∀ l o, H l = some o → l ∉ fp → H' l = some o ∧ (G l = none → G' l = none)
  dom : ∀ l, H' l = none → H l = none
  new : ∀ l ∈ fp', l ∈ fp ∨ H l = none
  idn : Idn H H'
section
variable {K : PySem.W.Frag} {C : Cs} {G H G' H' G1 H1 G2 H2 : Hp} {sl : Slots} {rt rt' : Roots} {σ : L2.St} {ρ ρ' : List Addr} {fps fps' : List (List Addr)} {fp fp1 fp2 : List Addr}
theorem Nx.refl (fp : List Addr) (G H : Hp) : Nx fp G H G H fp := ⟨Ex.refl G, fun _ _ h _ => ⟨h, fun g => g⟩, fun _ h => h, fun _ h => .inl h, Idn.refl H⟩
theorem Nx.trans (a : Nx fp G H G1 H1 fp1) (b : Nx fp1 G1 H1 G2 H2 fp2) : Nx fp G H G2 H2 fp2 where
  g := a.g.trans b.g
  keep := fun l o h n => by
    obtain ⟨h1, g1⟩ := a.keep l o h n
    have n1 : l ∉ fp1 := fun z => by
      rcases a.new l z with q | q
      · exact n q
      · rw [q] at h; cases h
    obtain ⟨h2, g2⟩ := b.keep l o h1 n1
    exact ⟨h2, fun g => g2 (g1 g)⟩
  dom := fun l h => a.dom l (b.dom l h)
  new := fun l h => by
    rcases b.new l h with q | q
    · exact a.new l q
    · exact .inr (a.dom l q)
  idn := a.idn.trans b.idn
theorem Nx.less (a : Nx fp G H G' H' fp1) (h : ∀ l ∈ fp2, l ∈ fp1) : Nx fp G H G' H' fp2 := ⟨a.g, a.keep, a.dom, fun l z => a.new l (h l z), a.idn⟩
theorem VR.up (n : Nx fp G H G' H' fp1) (q : ∀ (i : Nat) (a : Addr), ρ[i]? = some a → ρ'[i]? = some a) : ∀ {x : Val} {v : V}, VR K C G H ρ x v → VR K C G' H' ρ' x v
  | .dat d, _, h => DR.up n.g d _ h
  | .ref r p, v, ⟨a, h1, h2, h3, h4⟩ => by
    subst h4
    exact ⟨a, q r a h1, h2, n.idn v h3, rfl⟩
theorem VRs.up (n : Nx fp G H G' H' fp1) (q : ∀ (i : Nat) (a : Addr), ρ[i]? = some a → ρ'[i]? = some a) : ∀ {x : List Val} {v : List V}, VRs K C G H ρ x v → VRs K C G' H' ρ' x v
  | _, _, .nil => .nil
  | _, _, .cons h r => .cons (h.up n q) (VRs.up n q r)
theorem VRs.len : ∀ {x : List Val} {v : List V}, VRs K C G H ρ x v → v.length = x.length
  | _, _, .nil => rfl
  | _, _, .cons h r => by rw [List.length_cons, List.length_cons, VRs.len r]
theorem VRs.get : ∀ {xs : List Val} {vs : List V} {i : Nat} {x : Val}, VRs K C G H ρ xs vs → xs[i]? = some x → ∃ v, vs[i]? = some v ∧ VR K C G H ρ x v
  | _, _, i, _, .nil, e => by simp at e
  | _, _, 0, _, .cons h _, e => by
    cases (Option.some.inj e)
    exact ⟨_, rfl, h⟩
  | _, _, i + 1, _, .cons _ h, e => VRs.get (i := i) h e
theorem St.step (s : St K C sl rt σ ρ fps G H) (r : RSt K C rt' ρ' fps' G' H') (n : Nx fp G H G' H' fp1) (q : ∀ (i : Nat) (a : Addr), ρ[i]? = some a → ρ'[i]? = some a) : St K C sl rt' σ ρ' fps' G' H' :=
  { toRSt := r
    len := s.len
    slot := fun i x e => by
      obtain ⟨v, h1, h2⟩ := s.slot i x e
      exact ⟨v, h1, h2.up n q⟩ }
theorem Rts.lens : ∀ {rt : Roots} {ρ : List Addr} {fps : List (List Addr)}, Rts K C G H rt ρ fps → ρ.length = rt.length ∧ fps.length = rt.length
  | _, _, _, .nil => ⟨rfl, rfl⟩
  | _, _, _, .cons _ r => by
    obtain ⟨h1, h2⟩ := Rts.lens r
    simp [h1, h2]
theorem Rts.stay (e : Ex G G') : ∀ {rt : Roots} {ρ : List Addr} {fps : List (List Addr)}, Rts K C G H rt ρ fps → (∀ a ∈ fps.flatten, H' a = H a) → Rts K C G' H' rt ρ fps
  | _, _, _, .nil, _ => .nil
  | _, _, _, .cons h r, s => .cons (TR.stay e _ _ _ h fun a ha => s a (by simp [ha])) (Rts.stay e r fun a ha => s a (by simp only [List.flatten_cons, List.mem_append]; exact .inr ha))
theorem Rts.split : ∀ {rt : Roots} {ρ : List Addr} {fps : List (List Addr)} {i : Nat} {t : T}, Rts K C G H rt ρ fps → rt[i]? = some t → ∃ a L fu R, ρ[i]? = some a ∧ TR K C G H (.ref a) t fu ∧ fps.flatten = L ++ (fu ++ R) ∧
    ∀ (G' H' : Hp) (t' : T) (fu' : List Addr), Ex G G' → (∀ a ∈ L ++ R, H' a = H a) → TR K C G' H' (.ref a) t' fu' → ∃ fps', Rts K C G' H' (rt.set i t') ρ fps' ∧ fps'.flatten = L ++ (fu' ++ R)
  | _, _, _, _, _, .nil, e => by simp at e
  | _, _, _, 0, _, .cons (fp := fp) (fps := fps) h r, e => by
    cases Option.some.inj e
    exact ⟨_, [], fp, fps.flatten, rfl, h, rfl, fun G' H' t' fu' eg s h' => ⟨fu' :: fps, Rts.cons h' (Rts.stay eg r fun a ha => s a ha), rfl⟩⟩
  | _, _, _, i + 1, _, .cons (fp := fp) (fps := fps) h r, e => by
    obtain ⟨a, L, fu, R, h1, h2, h3, h4⟩ := Rts.split (i := i) r e
    refine ⟨a, fp ++ L, fu, R, h1, h2, by simp [h3], fun G' H' t' fu' eg s h' => ?_⟩
    obtain ⟨fps', k1, k2⟩ := h4 G' H' t' fu' eg (fun a ha => s a (by rcases List.mem_append.mp ha with z | z <;> simp [z])) h'
    exact ⟨fp :: fps', .cons (TR.stay eg _ _ _ h fun a ha => s a (by simp [ha])) k1, by simp [k2]⟩
theorem Rts.app {t : T} {a : Addr} {fq : List Addr} (h2 : TR K C G H (.ref a) t fq) : ∀ {rt : Roots} {ρ : List Addr} {fps : List (List Addr)}, Rts K C G H rt ρ fps → Rts K C G H (rt ++ [t]) (ρ ++ [a]) (fps ++ [fq])
  | _, _, _, .nil => .cons h2 .nil
  | _, _, _, .cons h r => .cons h (Rts.app h2 r)
/-- the tree at a place, with its name -/
def tatN (rt : Roots) (r : Nat) (p : List Nat) : Option T := (rt[r]?).bind (T.at p)
/-- the tree at a place -/
def tat (rt : Roots) (r : Nat) (p : List Nat) : Option T := (tatN rt r p).map T.strip
def Val.of (r : Nat) (p : List Nat) : T → Val
  | .dat d => .dat d
  | .lst _ => .ref r p
  | .obj _ _ => .ref r p
  | .dct _ _ => .ref r p
  | .nm _ t => Val.of r p t
/-- a place that is told: what stands there, the rest around it -/
theorem RSt.atN (s : RSt K C rt ρ fps G H) {r : Nat} {p : List Nat} {t : T} {a : Addr} (h : tatN rt r p = some t) (ha : ρ[r]? = some a) : ∃ w L fu R, fol H p (.ref a) = some w ∧ TR K C G H w t fu ∧ fps.flatten = L ++ (fu ++ R) ∧
    ∀ (G' H' : Hp) (t' : T) (fu' : List Addr), Ex G G' → (∀ a ∈ L ++ R, H' a = H a) → TR K C G' H' w t' fu' → ∃ fps', Rts K C G' H' (rt.modify r (T.put t' p)) ρ fps' ∧ fps'.flatten = L ++ (fu' ++ R) := by
  unfold tatN at h
  cases q : rt[r]? with
  | none => rw [q] at h; cases h
  | some u =>
    rw [q] at h
    obtain ⟨b, L, fu, R, h1, h2, h3, h4⟩ := s.root.split q
    rw [ha] at h1
    cases h1
    obtain ⟨w, L2, fu2, R2, k1, k2, k3, k4⟩ := h2.node h
    refine ⟨w, L ++ L2, fu2, R2 ++ R, k1, k2, by rw [h3, k3]; simp, fun G' H' t' fu' eg st h' => ?_⟩
    have e : rt.modify r (T.put t' p) = rt.set r (T.put t' p u) := by
      refine List.ext_getElem? fun i => ?_
      rw [List.getElem?_modify, List.getElem?_set]
      by_cases z : r = i
      · subst z
        have := (List.getElem?_eq_some_iff.mp q).1
        have e2 : rt[r] = u := by rw [List.getElem?_eq_getElem this] at q; exact Option.some.inj q
        simp [this, e2]
      · simp [z]
    rw [e]
    obtain ⟨fps', y1, y2⟩ := h4 G' H' (T.put t' p u) (L2 ++ (fu' ++ R2)) eg (fun b hb => st b (by rcases List.mem_append.mp hb with y | y <;> simp [y])) (k4 G' H' t' fu' eg (fun b hb => st b (by rcases List.mem_append.mp hb with y | y <;> simp [y])) h')
    exact ⟨fps', y1, by rw [y2]; simp⟩
theorem RSt.at (s : RSt K C rt ρ fps G H) {r : Nat} {p : List Nat} {t : T} {a : Addr} (h : tat rt r p = some t) (ha : ρ[r]? = some a) : ∃ w L fu R, fol H p (.ref a) = some w ∧ TR K C G H w t fu ∧ fps.flatten = L ++ (fu ++ R) ∧
    ∀ (G' H' : Hp) (t' : T) (fu' : List Addr), Ex G G' → (∀ a ∈ L ++ R, H' a = H a) → TR K C G' H' w t' fu' → ∃ fps', Rts K C G' H' (rt.modify r (T.put t' p)) ρ fps' ∧ fps'.flatten = L ++ (fu' ++ R) := by
  unfold tat at h
  obtain ⟨t0, h0, rfl⟩ := Option.map_eq_some_iff.mp h
  obtain ⟨w, L, fu, R, h1, h2, h3, h4⟩ := s.atN h0 ha
  exact ⟨w, L, fu, R, h1, h2.strip, h3, h4⟩
theorem VR.ofN {r : Nat} {p : List Nat} {v : V} {a : Addr} (h1 : ρ[r]? = some a) (h2 : fol H p (.ref a) = some v) (hp : p = []) : ∀ {t : T} {fu : List Addr}, TR K C G H v t fu → VR K C G H ρ (Val.of r p t) v
  | .dat d, _, h => by
    cases h with
    | dat q => exact q
  | .lst ts, _, h => by
    cases h with
    | lst h _ => exact ⟨a, h1, h2, ⟨_, rfl, .inl ⟨_, h⟩⟩, hp⟩
  | .obj c ts, _, h => by
    cases h with
    | obj h _ _ => exact ⟨a, h1, h2, ⟨_, rfl, .inr (.inl ⟨_, _, _, h⟩)⟩, hp⟩
  | .dct c ts, _, h => by
    cases h with
    | dct h _ _ => exact ⟨a, h1, h2, ⟨_, rfl, .inr (.inr ⟨_, h⟩)⟩, hp⟩
  | .nm _ t, _, h => by
    cases h with
    | nm h => exact VR.ofN h1 h2 hp (t := t) h
/-- a value that is a place -/
theorem RSt.val (s : RSt K C rt ρ fps G H) {r : Nat} {p : List Nat} {t : T} {v : V} (h : tat rt r p = some t) (hv : VR K C G H ρ (.ref r p) v) : VR K C G H ρ (Val.of r p t) v ∧ ∃ fu, TR K C G H v t fu ∧ ∀ a ∈ fu, a ∈ fps.flatten := by
  obtain ⟨a, h1, h2, h3⟩ := hv
  obtain ⟨w, L, fu, R, k1, k2, k3, _⟩ := s.at h h1
  rw [h2] at k1
  cases k1
  exact ⟨VR.ofN h1 h2 h3.2 k2, fu, k2, fun b hb => by rw [k3]; simp [hb]⟩

/-! ### readings -/
def Pre (ρ ρ' : List Addr) : Prop := ∀ (i : Nat) (a : Addr), ρ[i]? = some a → ρ'[i]? = some a
theorem Pre.refl (ρ : List Addr) : Pre ρ ρ := fun _ _ h => h
theorem Pre.trans {ρ ρ1 ρ2 : List Addr} (a : Pre ρ ρ1) (b : Pre ρ1 ρ2) : Pre ρ ρ2 := fun i x h => b i x (a i x h)
theorem Pre.app (ρ more : List Addr) : Pre ρ (ρ ++ more) := fun i a h => by
  rw [List.getElem?_append_left (List.getElem?_eq_some_iff.mp h).1]
  exact h
/-- what is wanted of an error, by its class, its dict, the slots and the heap -/
abbrev UX := Value → Option Addr → L2.St → Hp → Prop
/-- an error as it leaves -/
def XR (K : PySem.W.Frag) (C : Cs) (H0 G H : Hp) (x : Exn) (cls : Value) (d : Option Addr) : Prop := cls = .ref (C.at_ x.c) ∧ ∃ dd fs, d = some dd ∧ H0 dd = none ∧ H dd = some (.xd fs) ∧ fs.map Prod.fst = (C.ly x.c).take fs.length ∧ DRs K C G (fs.map Prod.snd) x.ds
/-- what is wanted of an error -/
def Xf (K : PySem.W.Frag) (C : Cs) (U : UX) (ρ : List Addr) (fps : List (List Addr)) (G H : Hp) (ex : Exn → Slots → Roots → Prop) : Prop := ∀ x sl' rt' σ' ρ' fps' G' H' cls d, St K C sl' rt' σ' ρ' fps' G' H' → Nx fps.flatten G H G' H' fps'.flatten → Pre ρ ρ' → XR K C H G' H' x cls d → ex x sl' rt' → U cls d σ' H'
theorem XR.early {H0 : Hp} {x : Exn} {cls : Value} {d : Option Addr} (n : ∀ l, H1 l = none → H0 l = none) (h : XR K C H1 G' H' x cls d) : XR K C H0 G' H' x cls d := by
  obtain ⟨h1, dd, fs, h2, h3, h4⟩ := h
  exact ⟨h1, dd, fs, h2, n _ h3, h4⟩
theorem Xf.later {U : UX} {ex : Exn → Slots → Roots → Prop} {ρ1 : List Addr} {fps1 : List (List Addr)} (f : Xf K C U ρ fps G H ex) (n : Nx fps.flatten G H G1 H1 fps1.flatten) (p : Pre ρ ρ1) : Xf K C U ρ1 fps1 G1 H1 ex :=
  fun x sl' rt' σ' ρ' fps' G' H' cls d s n' p' xr => f x sl' rt' σ' ρ' fps' G' H' cls d s (n.trans n') (p.trans p') (xr.early n.dom)
theorem Xf.no {U : UX} : Xf K C U ρ fps G H fun _ _ _ => False := fun _ _ _ _ _ _ _ _ _ _ _ _ _ _ h => h.elim
/-- the slots, and what is wanted of an error -/
structure Cxt where
  sl : Slots
  ex : Exn → Slots → Roots → Prop
abbrev WE := Cxt → Roots → (Val → Roots → Prop) → Prop
abbrev WT := Cxt → Roots → (Bool → Roots → Prop) → Prop
abbrev WA := Cxt → Roots → (List Val → Roots → Prop) → Prop
abbrev WO := Cxt → Roots → (T → Roots → Prop) → Prop
variable (K C)
variable (U : UX)
def tE (w : WE) : TE := fun σ H Q => ∃ sl rt ρ fps G k, St K C sl.sl rt σ ρ fps G H ∧ Xf K C U ρ fps G H sl.ex ∧ w sl rt k ∧ ∀ x rt' fps' G' H' v, RSt K C rt' ρ fps' G' H' → Nx fps.flatten G H G' H' fps'.flatten → VR K C G' H' ρ x v → k x rt' → Q v H'
def tT (w : WT) : TT := fun σ H Q => ∃ sl rt ρ fps G k, St K C sl.sl rt σ ρ fps G H ∧ Xf K C U ρ fps G H sl.ex ∧ w sl rt k ∧ ∀ b rt' fps' G' H', RSt K C rt' ρ fps' G' H' → Nx fps.flatten G H G' H' fps'.flatten → k b rt' → Q b H'
def tA (w : WA) : TA := fun σ H Q => ∃ sl rt ρ fps G k, St K C sl.sl rt σ ρ fps G H ∧ Xf K C U ρ fps G H sl.ex ∧ w sl rt k ∧ ∀ xs rt' fps' G' H' vs, RSt K C rt' ρ fps' G' H' → Nx fps.flatten G H G' H' fps'.flatten → VRs K C G' H' ρ xs vs → k xs rt' → Q vs H'
/-- a new tree, owned by nobody yet -/
structure Own (fps : List (List Addr)) (G H : Hp) (t : T) (v : V) (fp : List Addr) : Prop where
  tr : TR K C G H v t fp
  nd : fp.Nodup
  ap : ∀ a ∈ fp, a ∉ fps.flatten
  fr : ∀ a ∈ fp, G a = none
def tO (w : WO) : TE := fun σ H Q => ∃ sl rt ρ fps G k, St K C sl.sl rt σ ρ fps G H ∧ Xf K C U ρ fps G H sl.ex ∧ w sl rt k ∧ ∀ t rt' fps' fp G' H' v, RSt K C rt' ρ fps' G' H' → Nx fps.flatten G H G' H' fps'.flatten → Own K C fps' G' H' t v fp → (∀ a ∈ fp, a ∈ fps.flatten ∨ H a = none) → k t rt' → Q v H'
variable {K C}
variable {U}

theorem pe_imp {X : Cx} {e : Expr} {t t' : TE} (h : PE X e t) (i : ∀ σ H Q, t' σ H Q → t σ H Q) : PE X e t' := ⟨fun pins s σ H Q I q => h.run pins s σ H Q I (i σ H Q q)⟩
theorem pt_imp {X : Cx} {e : Expr} {t t' : TT} (h : PT X e t) (i : ∀ σ H Q, t' σ H Q → t σ H Q) : PT X e t' := ⟨fun pins s σ H Q I q => h.run pins s σ H Q I (i σ H Q q)⟩
theorem pw_imp {X : Cx} {e : Expr} {t t' : TT} (h : PW X e t) (i : ∀ σ H Q, t' σ H Q → t σ H Q) : PW X e t' := ⟨fun wh pins s σ H Q I q => h.run wh pins s σ H Q I (i σ H Q q)⟩
theorem pa_imp {X : Cx} {e : List Expr} {t t' : TA} (h : PA X e t) (i : ∀ σ H Q, t' σ H Q → t σ H Q) : PA X e t' := ⟨fun pos pins s σ H Q I q => h.run pos pins s σ H Q I (i σ H Q q)⟩

/-! names and constants -/
def wVar (i : Nat) : WE := fun sl rt k => match sl.sl[i]? with
  | some (some (.dat d)) => k (.dat d) rt
  | some (some (.ref r p)) => match tat rt r p with
    | some t => k (Val.of r p t) rt
    | none => False
  | _ => False
theorem e_var {i : Nat} : ∀ σ H Q, tE K C U (wVar i) σ H Q → tVar i σ H Q := fun σ H Q ⟨sl, rt, ρ, fps, G, k, s, xf, w, q⟩ => by
  unfold wVar at w
  split at w
  · rename_i d e
    obtain ⟨v, h1, h2⟩ := s.slot i _ e
    exact ⟨v, h1, q _ rt fps G H v s.toRSt (Nx.refl _ G H) h2 w⟩
  · rename_i r p e
    obtain ⟨v, h1, h2⟩ := s.slot i _ e
    split at w
    · rename_i t ht
      exact ⟨v, h1, q _ rt fps G H v s.toRSt (Nx.refl _ G H) (s.toRSt.val ht h2).1 w⟩
    · exact w.elim
  · exact w.elim
def wC (d : D) : WE := fun _ rt k => k (.dat d) rt
theorem e_c {v : V} {d : D} (h : ∀ G, DR K C G v d) : ∀ σ H Q, tE K C U (wC d) σ H Q → tC v σ H Q := fun σ H Q ⟨sl, rt, ρ, fps, G, k, s, xf, w, q⟩ => q (.dat d) rt fps G H v s.toRSt (Nx.refl _ G H) (h G) w
theorem we_int {X : Cx} {i : Int} {j pos} : PE X (.Constant (.int i) j pos) (tE K C U (wC (.int i))) := pe_imp pe_int (e_c fun _ => .int i)
theorem we_bl {X : Cx} {i : Bool} {j pos} : PE X (.Constant (.bool i) j pos) (tE K C U (wC (.bool i))) := pe_imp pe_bl (e_c fun _ => .bool i)
theorem we_str {X : Cx} {i : Str} {j pos} : PE X (.Constant (.str i) j pos) (tE K C U (wC (.str i))) := pe_imp pe_str (e_c fun _ => .str i)
theorem we_non {X : Cx} {j pos} : PE X (.Constant .none j pos) (tE K C U (wC .non)) := pe_imp pe_non (e_c fun _ => .non)
theorem we_var {X : Cx} {e : Expr} {i : Nat} (h : PE X e (tVar i)) : PE X e (tE K C U (wVar i)) := pe_imp h e_var
theorem we_c {X : Cx} {e : Expr} {v : V} {d : D} (h : PE X e (tC v)) (hd : ∀ G, DR K C G v d) : PE X e (tE K C U (wC d)) := pe_imp h (e_c hd)

/-! operations on values that make nothing -/
abbrev Sem2 := Val → Val → Roots → (D → Prop) → Prop
def wBin (f : Sem2) (wa wb : WE) : WE := fun sl rt k => wa sl rt fun x rt1 => wb sl rt1 fun y rt2 => f x y rt2 fun d => k (.dat d) rt2
def S2 (K : PySem.W.Frag) (C : Cs) (f : Sem2) (r : R2) : Prop := ∀ rt ρ fps G H x y v u, RSt K C rt ρ fps G H → VR K C G H ρ x v → VR K C G H ρ y u → ∀ (k : D → Prop) (Q : VK), f x y rt k → (∀ d w, k d → DR K C G w d → Q w H) → r v u H Q
theorem e_bin {f : Sem2} {r : R2} {wa wb : WE} (h : S2 K C f r) : ∀ σ H Q, tE K C U (wBin f wa wb) σ H Q → tOp r (tE K C U wa) (tE K C U wb) σ H Q := fun σ H Q ⟨sl, rt, ρ, fps, G, k, s, xf, w, q⟩ =>
  ⟨sl, rt, ρ, fps, G, _, s, xf, w, fun x rt1 fps1 G1 H1 v r1 n1 v1 w1 => ⟨sl, rt1, ρ, fps1, G1, _, s.step r1 n1 fun _ _ e => e, xf.later n1 (Pre.refl _), w1, fun y rt2 fps2 G2 H2 u r2 n2 v2 w2 =>
    h rt2 ρ fps2 G2 H2 x y v u r2 (v1.up n2 fun _ _ e => e) v2 _ Q w2 fun d w' kd dr => q (.dat d) rt2 fps2 G2 H2 w' r2 (n1.trans n2) dr kd⟩⟩
theorem OpR.or' {X : Cx} {f : Value → Value → Sem Value} {r r' : R2} (h : OpR X f r) (h' : OpR X f r') : OpR X f (fun x y H Q => r x y H Q ∨ r' x y H Q) := fun pins s σ H x y v u Q I rx ry q => q.elim (h pins s σ H x y v u Q I rx ry) (h' pins s σ H x y v u Q I rx ry)
theorem S2.l {f : Sem2} {r r' : R2} (h : S2 K C f r) : S2 K C f (fun x y H Q => r x y H Q ∨ r' x y H Q) := fun rt ρ fps G H x y v u s a b k Q w q => .inl (h rt ρ fps G H x y v u s a b k Q w q)
def sInt (c : Int → Int → Prop) (g : Int → Int → D) : Sem2 := fun x y _ k => match x, y with
  | .dat (.int i), .dat (.int j) => c i j ∧ k (g i j)
  | _, _ => False
def sInt0 (g : Int → Int → D) : Sem2 := fun x y _ k => match x, y with
  | .dat (.int i), .dat (.int j) => k (g i j)
  | _, _ => False
theorem s_int {c : Int → Int → Prop} {g : Int → Int → V} {gd : Int → Int → D} (h : ∀ G i j, DR K C G (g i j) (gd i j)) : S2 K C (sInt c gd) (rI c g) := fun rt ρ fps G H x y v u s a b k Q w q => by
  unfold sInt at w
  split at w
  · cases a
    cases b
    exact ⟨_, _, rfl, rfl, w.1, q _ _ w.2 (h G _ _)⟩
  · exact w.elim
theorem s_int0 {g : Int → Int → V} {gd : Int → Int → D} (h : ∀ G i j, DR K C G (g i j) (gd i j)) : S2 K C (sInt0 gd) (rI0 g) := fun rt ρ fps G H x y v u s a b k Q w q => by
  unfold sInt0 at w
  split at w
  · cases a
    cases b
    exact ⟨_, _, rfl, rfl, q _ _ w (h G _ _)⟩
  · exact w.elim
def sAdd : Sem2 := fun x y _ k => match x, y with
  | .dat (.int i), .dat (.int j) => k (.int (i + j))
  | .dat (.str i), .dat (.str j) => i.length + j.length ≤ sizeLine ∧ k (.str (i ++ j))
  | _, _ => False
def rAdd2 : R2 := fun x y H Q => rI0 (fun i j => .int (i + j)) x y H Q ∨ ∃ i j, x = .str i ∧ y = .str j ∧ i.length + j.length ≤ sizeLine ∧ Q (.str (i ++ j)) H
theorem s_add : S2 K C sAdd rAdd2 := fun rt ρ fps G H x y v u s a b k Q w q => by
  unfold sAdd at w
  split at w
  · cases a
    cases b
    exact .inl ⟨_, _, rfl, rfl, q _ _ w (.int _)⟩
  · cases a
    cases b
    exact .inr ⟨_, _, rfl, rfl, w.1, q _ _ w.2 (.str _)⟩
  · exact w.elim
section
variable {X : Cx} {a b : Expr} {wa wb : WE} {pos : Pos}
abbrev wAdd := wBin sAdd
abbrev wSub := wBin (sInt0 fun i j => .int (i - j))
abbrev wMul := wBin (sInt CMul fun i j => .int (i * j))
abbrev wDiv := wBin (sInt CDiv fun i j => .int (i / j))
abbrev wMod := wBin (sInt (fun _ j => 0 < j) fun i j => .int (i % j))
abbrev wPow := wBin (sInt CPow fun i j => .int (i ^ j.toNat))
abbrev wShl := wBin (sInt CPow fun i j => .int (i * 2 ^ j.toNat))
abbrev wShr := wBin (sInt (fun _ j => 0 ≤ j) fun i j => .int (i / 2 ^ j.toNat))
abbrev wAnd := wBin (sInt0 fun i j => .int (Builtin.bitAnd i j))
abbrev wOr := wBin (sInt0 fun i j => .int (Builtin.bitOr i j))
abbrev wXor := wBin (sInt0 fun i j => .int (Builtin.bitXor i j))
theorem we_add (ha : PE X a (tE K C U wa)) (hb : PE X b (tE K C U wb)) : PE X (.BinOp a .Add b pos) (tE K C U (wAdd wa wb)) := pe_imp (pe_op (OpR.or' op_add op_add_str) ha hb) (e_bin s_add)
theorem we_sub (ha : PE X a (tE K C U wa)) (hb : PE X b (tE K C U wb)) : PE X (.BinOp a .Sub b pos) (tE K C U (wSub wa wb)) := pe_imp (pe_op op_sub ha hb) (e_bin (s_int0 fun _ _ _ => .int _))
theorem we_mul (ha : PE X a (tE K C U wa)) (hb : PE X b (tE K C U wb)) : PE X (.BinOp a .Mult b pos) (tE K C U (wMul wa wb)) := pe_imp (pe_op op_mul ha hb) (e_bin (s_int fun _ _ _ => .int _))
theorem we_fdiv (ha : PE X a (tE K C U wa)) (hb : PE X b (tE K C U wb)) : PE X (.BinOp a .FloorDiv b pos) (tE K C U (wDiv wa wb)) := pe_imp (pe_op op_fdiv ha hb) (e_bin (s_int fun _ _ _ => .int _))
theorem we_mod (ha : PE X a (tE K C U wa)) (hb : PE X b (tE K C U wb)) : PE X (.BinOp a .Mod b pos) (tE K C U (wMod wa wb)) := pe_imp (pe_op op_mod ha hb) (e_bin (s_int fun _ _ _ => .int _))
theorem we_pow (ha : PE X a (tE K C U wa)) (hb : PE X b (tE K C U wb)) : PE X (.BinOp a .Pow b pos) (tE K C U (wPow wa wb)) := pe_imp (pe_op op_pow ha hb) (e_bin (s_int fun _ _ _ => .int _))
theorem we_shl (ha : PE X a (tE K C U wa)) (hb : PE X b (tE K C U wb)) : PE X (.BinOp a .LShift b pos) (tE K C U (wShl wa wb)) := pe_imp (pe_op op_shl ha hb) (e_bin (s_int fun _ _ _ => .int _))
theorem we_shr (ha : PE X a (tE K C U wa)) (hb : PE X b (tE K C U wb)) : PE X (.BinOp a .RShift b pos) (tE K C U (wShr wa wb)) := pe_imp (pe_op op_shr ha hb) (e_bin (s_int fun _ _ _ => .int _))
theorem we_and (ha : PE X a (tE K C U wa)) (hb : PE X b (tE K C U wb)) : PE X (.BinOp a .BitAnd b pos) (tE K C U (wAnd wa wb)) := pe_imp (pe_op op_and ha hb) (e_bin (s_int0 fun _ _ _ => .int _))
theorem we_or (ha : PE X a (tE K C U wa)) (hb : PE X b (tE K C U wb)) : PE X (.BinOp a .BitOr b pos) (tE K C U (wOr wa wb)) := pe_imp (pe_op op_or ha hb) (e_bin (s_int0 fun _ _ _ => .int _))
theorem we_xor (ha : PE X a (tE K C U wa)) (hb : PE X b (tE K C U wb)) : PE X (.BinOp a .BitXor b pos) (tE K C U (wXor wa wb)) := pe_imp (pe_op op_xor ha hb) (e_bin (s_int0 fun _ _ _ => .int _))
end
end
end Wv
end

section
set_option Elab.async false
set_option linter.all false
set_option maxRecDepth 100000
set_option maxHeartbeats 4000000
namespace Wv
open PySem PySem.Spec PyProof.Rows L2 Evl
section
variable {K : PySem.W.Frag} {C : Cs} {U : UX} {G H G' H' G1 H1 G2 H2 : Hp} {sl : Slots} {rt rt' : Roots} {σ : L2.St} {ρ ρ' : List Addr} {fps fps' : List (List Addr)}
theorem fol_snoc (p : List Nat) (j : Nat) : ∀ v, fol H (p ++ [j]) v = (fol H p v).bind (fol H [j]) := by
  induction p with
  | nil => exact fun v => rfl
  | cons i p ih =>
    intro v
    cases v with
    | ref a =>
      show (match H a with | some (.lst xs) => (xs[i]?).bind (fol H (p ++ [j])) | some (.ins _ _ fs) => ((fs.map Prod.snd)[i]?).bind (fol H (p ++ [j])) | some (.dK kvs) => ((kvs.map Prod.snd)[i]?).bind (fol H (p ++ [j])) | _ => none) = (match H a with | some (.lst xs) => (xs[i]?).bind (fol H p) | some (.ins _ _ fs) => ((fs.map Prod.snd)[i]?).bind (fol H p) | some (.dK kvs) => ((kvs.map Prod.snd)[i]?).bind (fol H p) | _ => none).bind (fol H [j])
      split
      · rename_i xs _
        cases xs[i]? with
        | none => rfl
        | some w => exact ih w
      · rename_i fs _
        cases (fs.map Prod.snd)[i]? with
        | none => rfl
        | some w => exact ih w
      · rename_i fs _
        cases (fs.map Prod.snd)[i]? with
        | none => rfl
        | some w => exact ih w
      · rfl
    | _ => rfl
theorem TRs.get {ts : List T} {vs : List V} {fp : List Addr} {i : Nat} {t : T} (h : TRs K C G H vs ts fp) (e : ts[i]? = some t) : ∃ v fu, vs[i]? = some v ∧ TR K C G H v t fu ∧ ∀ a ∈ fu, a ∈ fp := by
  obtain ⟨v, L, fu, R, h1, h2, h3, _⟩ := h.split e
  exact ⟨v, fu, h1, h2, fun a ha => by rw [h3]; simp [ha]⟩
theorem TR.nodeB {v : V} : ∀ {t : T} {fu : List Addr}, TR K C G H v t fu → t.isD = false → NodeV H v
  | .dat d, _, _, n => by cases n
  | .lst ts, _, h, _ => by
    cases h with
    | lst h _ => exact ⟨_, rfl, .inl ⟨_, h⟩⟩
  | .obj c ts, _, h, _ => by
    cases h with
    | obj h _ _ => exact ⟨_, rfl, .inr (.inl ⟨_, _, _, h⟩)⟩
  | .dct c ts, _, h, _ => by
    cases h with
    | dct h _ _ => exact ⟨_, rfl, .inr (.inr ⟨_, h⟩)⟩
  | .nm _ t, _, h, n => by
    cases h with
    | nm h => exact TR.nodeB (t := t) h n
theorem T.isD_of : ∀ {t : T}, (∀ d, t.strip ≠ .dat d) → t.isD = false
  | .dat d, n => absurd rfl (n d)
  | .lst _, _ => rfl
  | .obj _ _, _ => rfl
  | .dct _ _, _ => rfl
  | .nm _ t, n => T.isD_of (t := t) n
theorem TR.nodeV {v : V} {t : T} {fu : List Addr} (h : TR K C G H v t fu) (n : ∀ d, t.strip ≠ .dat d) : NodeV H v := h.nodeB (T.isD_of n)
theorem VR.of {r : Nat} {p : List Nat} {t : T} {v : V} {a : Addr} {fu : List Addr} (h1 : ρ[r]? = some a) (h2 : fol H p (.ref a) = some v) (h : TR K C G H v t fu) (hp : p = []) : VR K C G H ρ (Val.of r p t) v := VR.ofN h1 h2 hp h
theorem VR.ofD {d : D} {v : V} {fu : List Addr} (h : TR K C G H v (.dat d) fu) : VR K C G H ρ (.dat d) v := by
  cases h with
  | dat q => exact q
/-- what a place is really -/
theorem RSt.get (s : RSt K C rt ρ fps G H) {r : Nat} {p : List Nat} {t : T} {v : V} (h : tat rt r p = some t) (hv : VR K C G H ρ (.ref r p) v) : ∃ a fu, ρ[r]? = some a ∧ fol H p (.ref a) = some v ∧ TR K C G H v t fu ∧ ∀ b ∈ fu, b ∈ fps.flatten := by
  obtain ⟨a, h1, h2, h3⟩ := hv
  obtain ⟨w, L, fu, R, k1, k2, k3, _⟩ := s.at h h1
  rw [h2] at k1
  cases k1
  exact ⟨a, fu, h1, h2, k2, fun b hb => by rw [k3]; simp [hb]⟩
theorem ints_dat {ns : List Int} {vs : List V} (h : DRs K C G vs (ns.map .int)) : vs = ns.map V.int := DRs.ints h
theorem TRs.dats : ∀ {ds : List D} {vs : List V} {fp : List Addr}, TRs K C G H vs (ds.map .dat) fp → DRs K C G vs ds ∧ fp = []
  | [], _, _, .nil => ⟨.nil, rfl⟩
  | d :: ds, _, _, .cons h r => by
    obtain ⟨h1, h2⟩ := TRs.dats (ds := ds) r
    cases h with
    | dat h => exact ⟨.cons h h1, by rw [h2]; rfl⟩
theorem DRs.trs : ∀ {ds : List D} {vs : List V}, DRs K C G vs ds → TRs K C G H vs (ds.map .dat) []
  | [], _, .nil => .nil
  | d :: ds, _, .cons h r => TRs.cons (fp := []) (fq := []) (.dat h) (DRs.trs r)
def dats : List T → Option (List D)
  | [] => some []
  | .dat d :: ts => (dats ts).map (d :: ·)
  | _ :: _ => none
theorem dats_map : ∀ {ts : List T} {ds : List D}, dats ts = some ds → ts = ds.map .dat
  | [], _, h => by cases h; rfl
  | .dat d :: ts, ds, h => by
    cases q : dats ts with
    | none => simp [dats, q] at h
    | some es =>
      simp [dats, q] at h
      subst h
      rw [dats_map q]
      rfl
  | .lst _ :: _, _, h => by cases h
  | .obj _ _ :: _, _, h => by cases h
  | .dct _ _ :: _, _, h => by cases h
theorem map_dats : ∀ ds : List D, dats (ds.map .dat) = some ds
  | [] => rfl
  | d :: ds => by
    show (dats (ds.map .dat)).map (d :: ·) = _
    rw [map_dats ds]
    rfl

/-! ### one place -/
def wUn (f : D → (D → Prop) → Prop) (wa : WE) : WE := fun sl rt k => wa sl rt fun x rt1 => match x with
  | .dat d => f d fun e => k (.dat e) rt1
  | _ => False
def S1 (K : PySem.W.Frag) (C : Cs) (f : D → (D → Prop) → Prop) (r : V → Hp → VK → Prop) : Prop := ∀ G H d v, Ex G H → DR K C G v d → ∀ (k : D → Prop) (Q : VK), f d k → (∀ e w, k e → DR K C G w e → Q w H) → r v H Q
theorem e_un {f : D → (D → Prop) → Prop} {r : V → Hp → VK → Prop} {wa : WE} (h : S1 K C f r) : ∀ σ H Q, tE K C U (wUn f wa) σ H Q → tUn r (tE K C U wa) σ H Q := fun σ H Q ⟨sl, rt, ρ, fps, G, k, s, xf, w, q⟩ =>
  ⟨sl, rt, ρ, fps, G, _, s, xf, w, fun x rt1 fps1 G1 H1 v r1 n1 v1 w1 => by
    cases x with
    | dat d => exact h G1 H1 d v r1.sub v1 _ Q w1 fun e w2 ke dr => q (.dat e) rt1 fps1 G1 H1 w2 r1 n1 dr ke
    | ref r p => exact w1.elim⟩
def fNeg : D → (D → Prop) → Prop := fun d k => match d with
  | .int i => k (.int (-i))
  | _ => False
def fNot : D → (D → Prop) → Prop := fun d k => match d with
  | .bool b => k (.bool (!b))
  | _ => False
abbrev wNeg := wUn fNeg
abbrev wNot := wUn fNot
section
variable {X : Cx} {a b c e : Expr} {es rest : List Expr} {wa wb wc : WE} {pos p : Pos}
theorem we_neg (ha : PE X a (tE K C U wa)) : PE X (.UnaryOp .USub a pos) (tE K C U (wNeg wa)) := pe_imp (pe_un un_neg ha) (e_un fun G H d v _ dr k Q w q => by
  unfold fNeg at w
  split at w
  · cases dr
    exact ⟨_, rfl, q _ _ w (.int _)⟩
  · exact w.elim)
theorem we_not (ha : PE X a (tE K C U wa)) : PE X (.UnaryOp .Not a pos) (tE K C U (wNot wa)) := pe_imp (pe_not ha) (e_un fun G H d v _ dr k Q w q => by
  unfold fNot at w
  split at w
  · cases dr
    exact ⟨_, rfl, q _ _ w (.bool _)⟩
  · exact w.elim)

/-! ### comparisons -/
def D.sc : D → D → Option Bool
  | .int i, .int j => some (decide (i = j))
  | .str i, .str j => some (decide (i = j))
  | .bool i, .bool j => some (decide (i = j))
  | .non, .non => some true
  | .non, .int _ => some false
  | .int _, .non => some false
  | .non, .bool _ => some false
  | .bool _, .non => some false
  | .non, .str _ => some false
  | .str _, .non => some false
  | .int _, .str _ => some false
  | .str _, .int _ => some false
  | .bool _, .str _ => some false
  | .str _, .bool _ => some false
  | _, _ => none
theorem sc_ok {x y : D} {v u : V} {b : Bool} (h : D.sc x y = some b) (hx : DR K C G v x) (hy : DR K C G u y) : scal v u = true ∧ decide (v = u) = b := by
  unfold D.sc at h
  split at h
  · cases hx; cases hy; cases h
    exact ⟨rfl, decide_eq_decide.mpr ⟨fun z => V.int.inj z, fun z => by rw [z]⟩⟩
  · cases hx; cases hy; cases h
    exact ⟨rfl, decide_eq_decide.mpr ⟨fun z => V.str.inj z, fun z => by rw [z]⟩⟩
  · cases hx; cases hy; cases h
    exact ⟨rfl, decide_eq_decide.mpr ⟨fun z => V.bl.inj z, fun z => by rw [z]⟩⟩
  all_goals first
    | (cases hx; cases hy; cases h; exact ⟨rfl, rfl⟩)
    | cases h
mutual
def D.py : D → Option PyData
  | .non => some .none
  | .bool b => some (.bool b)
  | .int i => some (.int i)
  | .str s => some (.str s)
  | .lst ds => (D.pys ds).map .list
  | .ro ds => (D.pys ds).map .list
  | .fzl _ => none
  | .tup ds => (D.pys ds).map .tuple
  | .tpx ds => (D.pys ds).map .tuple
  | .obj _ _ => none
  | .dct _ _ => none
  | .fn _ => none
  | .exn _ _ _ _ => none
  | .cst _ => none
  | .any => none
def D.pys : List D → Option (List PyData)
  | [] => some []
  | d :: ds => match d.py, D.pys ds with
    | some x, some xs => some (x :: xs)
    | _, _ => none
end
mutual
theorem DR.py (e : Ex G H) : ∀ (d : D) (v : V) (x : PyData), DR K C G v d → d.py = some x → Dp K H v x
  | .non, _, _, h, q => by cases h; cases q; exact .non
  | .bool b, _, _, h, q => by cases h; cases q; exact .bl b
  | .int b, _, _, h, q => by cases h; cases q; exact .int b
  | .str b, _, _, h, q => by cases h; cases q; exact .str b
  | .lst ds, _, x, h, q => by
    cases h with
    | lst hs r =>
      cases z : D.pys ds with
      | none => simp [D.py, z] at q
      | some xs =>
        simp [D.py, z] at q
        subst q
        exact .lst (sq_of (e _ _ hs)) (DRs.py e ds _ _ r z)
  | .fzl ds, _, x, h, q => by cases q
  | .ro ds, _, x, h, q => by
    cases h with
    | ro hs r =>
      cases z : D.pys ds with
      | none => simp [D.py, z] at q
      | some xs =>
        simp [D.py, z] at q
        subst q
        exact .lst (ex_l e hs) (DRs.py e ds _ _ r z)
  | .tup ds, _, x, h, q => by
    cases h with
    | tup hs r =>
      cases z : D.pys ds with
      | none => simp [D.py, z] at q
      | some xs =>
        simp [D.py, z] at q
        subst q
        exact .tup (ex_t e hs) (DRs.py e ds _ _ r z)
  | .tpx ds, _, x, h, q => by
    cases h with
    | tpx hs _ r =>
      cases z : D.pys ds with
      | none => simp [D.py, z] at q
      | some xs =>
        simp [D.py, z] at q
        subst q
        exact .tup (.inl (.inr ⟨_, e _ _ hs⟩)) (DRs.py e ds _ _ r z)
  | .obj _ _, _, _, _, q => by cases q
  | .dct _ _, _, _, _, q => by cases q
  | .fn _, _, _, _, q => by cases q
  | .exn _ _ _ _, _, _, _, q => by cases q
  | .cst _, _, _, _, q => by cases q
  | .any, _, _, _, q => by cases q
theorem DRs.py (e : Ex G H) : ∀ (ds : List D) (vs : List V) (xs : List PyData), DRs K C G vs ds → D.pys ds = some xs → DpAll K H vs xs
  | [], _, _, h, q => by cases h; cases q; exact .nil
  | d :: ds, _, xs, h, q => by
    cases h with
    | cons h r =>
      cases z1 : d.py with
      | none => simp [D.pys, z1] at q
      | some x =>
        cases z2 : D.pys ds with
        | none => simp [D.pys, z1, z2] at q
        | some ys =>
          simp [D.pys, z1, z2] at q
          subst q
          exact .cons (DR.py e d _ _ h z1) (DRs.py e ds _ _ r z2)
end
/-- ==, of scalars, of data -/
def sEq (neg : Bool) : Sem2 := fun x y _ k => match x, y with
  | .dat dx, .dat dy => match D.sc dx dy with
    | some b => k (.bool (if neg then !b else b))
    | none => ∃ px py, dx.py = some px ∧ dy.py = some py ∧ SeqAt.shaped px = true ∧ SeqAt.shaped py = true ∧ k (.bool (if neg then !PyData.eqv px py else PyData.eqv px py))
  | _, _ => False
theorem s_eq : S2 K C (sEq false) (fun x y H Q => rEq x y H Q ∨ rEqD K x y H Q) := fun rt ρ fps G H x y v u s a b k Q w q => by
  unfold sEq at w
  split at w
  · rename_i dx dy
    split at w
    · rename_i b' e
      obtain ⟨h1, h2⟩ := sc_ok e a b
      exact .inl ⟨h1, by rw [h2]; exact q _ _ w (.bool _)⟩
    · obtain ⟨px, py, h1, h2, h3, h4, w⟩ := w
      exact .inr ⟨px, py, DR.py s.sub _ _ _ a h1, DR.py s.sub _ _ _ b h2, h3, h4, q _ _ w (.bool _)⟩
  · exact w.elim
theorem s_ne : S2 K C (sEq true) (fun x y H Q => rNe x y H Q ∨ rNeD K x y H Q) := fun rt ρ fps G H x y v u s a b k Q w q => by
  unfold sEq at w
  split at w
  · rename_i dx dy
    split at w
    · rename_i b' e
      obtain ⟨h1, h2⟩ := sc_ok e a b
      exact .inl ⟨h1, by rw [h2]; exact q _ _ w (.bool _)⟩
    · obtain ⟨px, py, h1, h2, h3, h4, w⟩ := w
      exact .inr ⟨px, py, DR.py s.sub _ _ _ a h1, DR.py s.sub _ _ _ b h2, h3, h4, q _ _ w (.bool _)⟩
  · exact w.elim
abbrev sLt : Sem2 := sInt0 fun i j => .bool (decide (i < j))
abbrev sLe : Sem2 := sInt0 fun i j => .bool (decide (i ≤ j))
abbrev sGt : Sem2 := sInt0 fun i j => .bool (decide (j < i))
abbrev sGe : Sem2 := sInt0 fun i j => .bool (decide (j ≤ i))
def D.isNon : D → Bool
  | .non => true
  | _ => false
def sIs (neg : Bool) : Sem2 := fun x y _ k => match x, y with
  | .dat (.cst _), _ => False
  | .dat .any, _ => False
  | .dat d, .dat .non => k (.bool (if neg then !d.isNon else d.isNon))
  | .ref _ _, .dat .non => k (.bool neg)
  | _, _ => False
theorem dec_non {v : V} {d : D} (h : DR K C G v d) (n : ∀ c, d ≠ .cst c) (n2 : d ≠ .any) : decide (v = .non) = d.isNon := by
  cases h <;> first | rfl | exact absurd rfl (n _) | exact absurd rfl n2
theorem s_is : S2 K C (sIs false) (fun x y H Q => y = .non ∧ Q (.bl (decide (x = .non))) H) := fun rt ρ fps G H x y v u s a b k Q w q => by
  unfold sIs at w
  split at w
  · exact w.elim
  · exact w.elim
  · cases b
    exact ⟨rfl, by rw [dec_non a (by intro c z; subst z; simp_all) (by intro z; subst z; simp_all)]; exact q _ _ w (.bool _)⟩
  · cases b
    obtain ⟨_, _, _, ⟨_, rfl, _⟩, _⟩ := a
    exact ⟨rfl, q _ _ w (.bool _)⟩
  · exact w.elim
theorem s_isnt : S2 K C (sIs true) (fun x y H Q => y = .non ∧ Q (.bl (!decide (x = .non))) H) := fun rt ρ fps G H x y v u s a b k Q w q => by
  unfold sIs at w
  split at w
  · exact w.elim
  · exact w.elim
  · cases b
    exact ⟨rfl, by rw [dec_non a (by intro c z; subst z; simp_all) (by intro z; subst z; simp_all)]; exact q _ _ w (.bool _)⟩
  · cases b
    obtain ⟨_, _, _, ⟨_, rfl, _⟩, _⟩ := a
    exact ⟨rfl, q _ _ w (.bool _)⟩
  · exact w.elim
end
end
end Wv
end

section
set_option Elab.async false
set_option linter.all false
set_option maxRecDepth 100000
set_option maxHeartbeats 4000000
namespace Wv
open PySem PySem.Spec PyProof.Rows L2 Evl
section
variable {K : PySem.W.Frag} {C : Cs} {U : UX} {G H G' H' G1 H1 G2 H2 : Hp} {sl : Slots} {rt rt' : Roots} {σ : L2.St} {ρ ρ' : List Addr} {fps fps' : List (List Addr)}
variable {X : Cx} {a b c e : Expr} {es rest : List Expr} {wa wb wc : WE} {ta tb : WT} {pos p : Pos}

/-! ### compare as a value, as a test -/
theorem we_cmp {op : CmpOp} {r : R2} {f : Sem2} (ho : OpR X (compareOp op) r) (hs : S2 K C f r) (ha : PE X a (tE K C U wa)) (hb : PE X b (tE K C U wb)) (hm : behindInMarks op b = false) : PE X (.Compare a [op] [b] pos) (tE K C U (wBin f wa wb)) := pe_imp (pe_cmpR ho ha hb hm) (e_bin hs)
def wB (wa : WE) : WT := fun sl rt k => wa sl rt fun x rt1 => match x with
  | .dat (.bool b) => k b rt1
  | _ => False
theorem t_test {w : WE} : ∀ σ H Q, tT K C U (wB w) σ H Q → tE K C U w σ H fun x H' => ∃ k, x = .bl k ∧ Q k H' := fun σ H Q ⟨sl, rt, ρ, fps, G, k, s, xf, w, q⟩ =>
  ⟨sl, rt, ρ, fps, G, _, s, xf, w, fun x rt1 fps1 G1 H1 v r1 n1 v1 w1 => by
    split at w1
    · cases v1
      exact ⟨_, rfl, q _ rt1 fps1 G1 H1 r1 n1 w1⟩
    · exact w1.elim⟩
theorem wt_cmp {op : CmpOp} {r : R2} {f : Sem2} (ho : OpR X (compareOp op) r) (hs : S2 K C f r) (ha : PE X a (tE K C U wa)) (hb : PE X b (tE K C U wb)) (hm : behindInMarks op b = false) : PT X (.Compare a [op] [b] pos) (tT K C U (wB (wBin f wa wb))) :=
  pt_imp (pt_cmpR ho ha hb hm) fun σ H Q h => e_bin hs σ H _ (t_test σ H Q h)
theorem wt_val {w : WE} (h : PE X e (tE K C U w)) (he : ∀ whole, isTrue e X.env whole = (do let v ← whole; standAt e.pos; holding [v] (truthy v)) := by intro _; rfl) : PT X e (tT K C U (wB w)) := pt_imp (pt_val h he) fun σ H Q h => t_test σ H Q h
/-- both, the second without a trace -/
def wAndT (ta tb : WT) : WT := fun sl rt k => ta sl rt fun a rt1 => ∃ b, (a = true → tb sl rt1 fun b' rt2 => b' = b ∧ rt2 = rt1) ∧ k (a && b) rt1
def wOrT (ta tb : WT) : WT := fun sl rt k => ta sl rt fun a rt1 => ∃ b, (a = false → tb sl rt1 fun b' rt2 => b' = b ∧ rt2 = rt1) ∧ k (a || b) rt1
def wNotT (ta : WT) : WT := fun sl rt k => ta sl rt fun a rt1 => k (!a) rt1
theorem t_and : ∀ σ H Q, tT K C U (wAndT ta tb) σ H Q → tAnd (tT K C U ta) (tT K C U tb) σ H Q := fun σ H Q ⟨sl, rt, ρ, fps, G, k, s, xf, w, q⟩ =>
  ⟨sl, rt, ρ, fps, G, _, s, xf, w, fun a rt1 fps1 G1 H1 r1 n1 ⟨b, w1, w2⟩ => by
    cases a with
    | true => exact ⟨sl, rt1, ρ, fps1, G1, _, s.step r1 n1 fun _ _ e => e, xf.later n1 (Pre.refl _), w1 rfl, fun b' rt2 fps2 G2 H2 r2 n2 ⟨e1, e2⟩ => q b' rt2 fps2 G2 H2 r2 (n1.trans n2) (by rw [e1, e2]; exact w2)⟩
    | false => exact q false rt1 fps1 G1 H1 r1 n1 w2⟩
theorem t_or : ∀ σ H Q, tT K C U (wOrT ta tb) σ H Q → tOr (tT K C U ta) (tT K C U tb) σ H Q := fun σ H Q ⟨sl, rt, ρ, fps, G, k, s, xf, w, q⟩ =>
  ⟨sl, rt, ρ, fps, G, _, s, xf, w, fun a rt1 fps1 G1 H1 r1 n1 ⟨b, w1, w2⟩ => by
    cases a with
    | false => exact ⟨sl, rt1, ρ, fps1, G1, _, s.step r1 n1 fun _ _ e => e, xf.later n1 (Pre.refl _), w1 rfl, fun b' rt2 fps2 G2 H2 r2 n2 ⟨e1, e2⟩ => q b' rt2 fps2 G2 H2 r2 (n1.trans n2) (by rw [e1, e2]; exact w2)⟩
    | true => exact q true rt1 fps1 G1 H1 r1 n1 w2⟩
theorem wt_not (ha : PT X a (tT K C U ta)) : PT X (.UnaryOp .Not a pos) (tT K C U (wNotT ta)) := pt_imp (pt_not ha) fun σ H Q ⟨sl, rt, ρ, fps, G, k, s, xf, w, q⟩ => ⟨sl, rt, ρ, fps, G, _, s, xf, w, fun a rt1 fps1 G1 H1 r1 n1 w1 => q _ rt1 fps1 G1 H1 r1 n1 w1⟩
theorem ww_and (ha : PT X a (tT K C U ta)) (hb : PW X (.BoolOp .And (b :: rest) pos) (tT K C U tb)) : PW X (.BoolOp .And (a :: b :: rest) pos) (tT K C U (wAndT ta tb)) := pw_imp (pw_and ha hb) t_and
theorem ww_or (ha : PT X a (tT K C U ta)) (hb : PW X (.BoolOp .Or (b :: rest) pos) (tT K C U tb)) : PW X (.BoolOp .Or (a :: b :: rest) pos) (tT K C U (wOrT ta tb)) := pw_imp (pw_or ha hb) t_or
/-- .. as values -/
def wAndV (wa wb : WE) : WE := fun sl rt k => wa sl rt fun x rt1 => match x with
  | .dat (.bool a) => ∃ b, (a = true → wb sl rt1 fun y rt2 => y = .dat (.bool b) ∧ rt2 = rt1) ∧ k (.dat (.bool (a && b))) rt1
  | _ => False
def wOrV (wa wb : WE) : WE := fun sl rt k => wa sl rt fun x rt1 => match x with
  | .dat (.bool a) => ∃ b, (a = false → wb sl rt1 fun y rt2 => y = .dat (.bool b) ∧ rt2 = rt1) ∧ k (.dat (.bool (a || b))) rt1
  | _ => False
theorem e_andV : ∀ σ H Q, tE K C U (wAndV wa wb) σ H Q → tAndV (tE K C U wa) (tE K C U wb) σ H Q := fun σ H Q ⟨sl, rt, ρ, fps, G, k, s, xf, w, q⟩ =>
  ⟨sl, rt, ρ, fps, G, _, s, xf, w, fun x rt1 fps1 G1 H1 v r1 n1 v1 w1 => by
    split at w1
    · rename_i a
      obtain ⟨b, w1, w2⟩ := w1
      cases v1
      refine ⟨a, rfl, ?_⟩
      cases a with
      | true => exact ⟨sl, rt1, ρ, fps1, G1, _, s.step r1 n1 fun _ _ e => e, xf.later n1 (Pre.refl _), w1 rfl, fun y rt2 fps2 G2 H2 u r2 n2 v2 ⟨e1, e2⟩ => q y rt2 fps2 G2 H2 u r2 (n1.trans n2) v2 (by rw [e1, e2]; exact w2)⟩
      | false => exact q (.dat (.bool false)) rt1 fps1 G1 H1 _ r1 n1 (.bool _) w2
    · exact w1.elim⟩
theorem e_orV : ∀ σ H Q, tE K C U (wOrV wa wb) σ H Q → tOrV (tE K C U wa) (tE K C U wb) σ H Q := fun σ H Q ⟨sl, rt, ρ, fps, G, k, s, xf, w, q⟩ =>
  ⟨sl, rt, ρ, fps, G, _, s, xf, w, fun x rt1 fps1 G1 H1 v r1 n1 v1 w1 => by
    split at w1
    · rename_i a
      obtain ⟨b, w1, w2⟩ := w1
      cases v1
      refine ⟨a, rfl, ?_⟩
      cases a with
      | false => exact ⟨sl, rt1, ρ, fps1, G1, _, s.step r1 n1 fun _ _ e => e, xf.later n1 (Pre.refl _), w1 rfl, fun y rt2 fps2 G2 H2 u r2 n2 v2 ⟨e1, e2⟩ => q y rt2 fps2 G2 H2 u r2 (n1.trans n2) v2 (by rw [e1, e2]; exact w2)⟩
      | true => exact q (.dat (.bool true)) rt1 fps1 G1 H1 _ r1 n1 (.bool _) w2
    · exact w1.elim⟩
theorem we_andV (ha : PE X a (tE K C U wa)) (hb : PE X (.BoolOp .And (b :: rest) pos) (tE K C U wb)) : PE X (.BoolOp .And (a :: b :: rest) pos) (tE K C U (wAndV wa wb)) := pe_imp (pe_and ha hb) e_andV
theorem we_orV (ha : PE X a (tE K C U wa)) (hb : PE X (.BoolOp .Or (b :: rest) pos) (tE K C U wb)) : PE X (.BoolOp .Or (a :: b :: rest) pos) (tE K C U (wOrV wa wb)) := pe_imp (pe_or ha hb) e_orV
/-- a if t else b -/
def wIfE (t : WT) (wa wb : WE) : WE := fun sl rt k => t sl rt fun a rt1 => (a = true → wa sl rt1 k) ∧ (a = false → wb sl rt1 k)
theorem we_ifExp (hc : PT X c (tT K C U ta)) (ha : PE X a (tE K C U wa)) (hb : PE X b (tE K C U wb)) : PE X (.IfExp c a b pos) (tE K C U (wIfE ta wa wb)) := pe_imp (pe_ifExp hc ha hb) fun σ H Q ⟨sl, rt, ρ, fps, G, k, s, xf, w, q⟩ =>
  ⟨sl, rt, ρ, fps, G, _, s, xf, w, fun a rt1 fps1 G1 H1 r1 n1 w1 => by
    cases a with
    | true => exact ⟨sl, rt1, ρ, fps1, G1, k, s.step r1 n1 fun _ _ e => e, xf.later n1 (Pre.refl _), w1.1 rfl, fun x rt2 fps2 G2 H2 v r2 n2 v2 k2 => q x rt2 fps2 G2 H2 v r2 (n1.trans n2) v2 k2⟩
    | false => exact ⟨sl, rt1, ρ, fps1, G1, k, s.step r1 n1 fun _ _ e => e, xf.later n1 (Pre.refl _), w1.2 rfl, fun x rt2 fps2 G2 H2 v r2 n2 v2 k2 => q x rt2 fps2 G2 H2 v r2 (n1.trans n2) v2 k2⟩⟩
/-- a < b < c, the third without a trace -/
def wChain (f g : Sem2) (wa wb wc : WE) : WE := fun sl rt k => wa sl rt fun x rt1 => wb sl rt1 fun y rt2 => f x y rt2 fun d => ∃ p q, d = .bool p ∧ (p = true → wc sl rt2 fun z rt3 => rt3 = rt2 ∧ g y z rt3 fun d' => d' = .bool q) ∧ k (.dat (.bool (p && q))) rt2
theorem e_chain {f g : Sem2} {r r' : R2} (hf : S2 K C f r) (hg : S2 K C g r') : ∀ σ H Q, tE K C U (wChain f g wa wb wc) σ H Q → tChain r r' (tE K C U wa) (tE K C U wb) (tE K C U wc) σ H Q := fun σ H Q ⟨sl, rt, ρ, fps, G, k, s, xf, w, q⟩ =>
  ⟨sl, rt, ρ, fps, G, _, s, xf, w, fun x rt1 fps1 G1 H1 v r1 n1 v1 w1 => ⟨sl, rt1, ρ, fps1, G1, _, s.step r1 n1 fun _ _ e => e, xf.later n1 (Pre.refl _), w1, fun y rt2 fps2 G2 H2 u r2 n2 v2 w2 =>
    hf rt2 ρ fps2 G2 H2 x y v u r2 (v1.up n2 fun _ _ e => e) v2 _ _ w2 fun d w' ⟨p, q', e, w3, w4⟩ dr => by
      subst e
      cases dr
      refine ⟨p, rfl, ?_⟩
      cases p with
      | true => exact ⟨sl, rt2, ρ, fps2, G2, _, (s.step r1 n1 fun _ _ e => e).step r2 n2 fun _ _ e => e, xf.later (n1.trans n2) (Pre.refl _), w3 rfl, fun z rt3 fps3 G3 H3 w5 r3 n3 v3 ⟨e3, k3⟩ =>
          hg rt3 ρ fps3 G3 H3 y z u w5 r3 (v2.up n3 fun _ _ e => e) v3 _ _ k3 fun d' w6 e4 dr' => q (.dat d') rt3 fps3 G3 H3 w6 r3 (n1.trans (n2.trans n3)) dr' (by rw [e3, e4]; exact w4)⟩
      | false => exact q (.dat (.bool false)) rt2 fps2 G2 H2 _ r2 (n1.trans n2) (.bool _) w4⟩⟩
theorem we_chain {op op' : CmpOp} {f g : Sem2} {r r' : R2} (ho : OpR X (compareOp op) r) (ho' : OpR X (compareOp op') r') (hf : S2 K C f r) (hg : S2 K C g r') (ha : PE X a (tE K C U wa)) (hb : PE X b (tE K C U wb)) (hc : PE X c (tE K C U wc))
    (P : PE X (.Compare a [op, op'] [b, c] pos) (tChain r r' (tE K C U wa) (tE K C U wb) (tE K C U wc))) : PE X (.Compare a [op, op'] [b, c] pos) (tE K C U (wChain f g wa wb wc)) := pe_imp P (e_chain hf hg)
theorem wt_chain {op op' : CmpOp} {f g : Sem2} {r r' : R2} (hf : S2 K C f r) (hg : S2 K C g r')
    (P : PT X (.Compare a [op, op'] [b, c] pos) (tTest (tChain r r' (tE K C U wa) (tE K C U wb) (tE K C U wc)))) : PT X (.Compare a [op, op'] [b, c] pos) (tT K C U (wB (wChain f g wa wb wc))) := pt_imp P fun σ H Q h => e_chain hf hg σ H _ (t_test σ H Q h)

/-! ### argument lists -/
def wNil : WA := fun _ rt k => k [] rt
def wCons (w : WE) (r : WA) : WA := fun sl rt k => w sl rt fun x rt1 => r sl rt1 fun xs rt2 => k (x :: xs) rt2
theorem wa_nil : PA X [] (tA K C U wNil) := pa_imp pa_nil fun σ H Q ⟨sl, rt, ρ, fps, G, k, s, xf, w, q⟩ => q [] rt fps G H [] s.toRSt (Nx.refl _ G H) .nil w
theorem wa_cons {w : WE} {r : WA} (h : PE X e (tE K C U w)) (hr : PA X es (tA K C U r)) (hs : starEach (e :: es) X.env = (false, eval e X.env) :: starEach es X.env := by rfl) : PA X (e :: es) (tA K C U (wCons w r)) := pa_imp (pa_cons h hr hs) fun σ H Q ⟨sl, rt, ρ, fps, G, k, s, xf, w, q⟩ =>
  ⟨sl, rt, ρ, fps, G, _, s, xf, w, fun x rt1 fps1 G1 H1 v r1 n1 v1 w1 => ⟨sl, rt1, ρ, fps1, G1, _, s.step r1 n1 fun _ _ e => e, xf.later n1 (Pre.refl _), w1, fun xs rt2 fps2 G2 H2 vs r2 n2 v2 w2 =>
    q _ rt2 fps2 G2 H2 _ r2 (n1.trans n2) (.cons (v1.up n2 fun _ _ e => e) v2) w2⟩⟩
/-- all of them data -/
def datsV : List Val → Option (List D)
  | [] => some []
  | .dat d :: xs => (datsV xs).map (d :: ·)
  | _ :: _ => none
theorem VRs.dats : ∀ {xs : List Val} {vs : List V} {ds : List D}, VRs K C G H ρ xs vs → datsV xs = some ds → DRs K C G vs ds
  | [], _, _, .nil, e => by cases e; exact .nil
  | .dat d :: xs, _, ds, .cons h r, e => by
    cases q : datsV xs with
    | none => simp [datsV, q] at e
    | some es =>
      simp [datsV, q] at e
      subst e
      exact .cons h (VRs.dats r q)
  | .ref _ _ :: _, _, _, _, e => by cases e
/-- a new object laid as data -/
theorem RSt.laid (s : RSt K C rt ρ fps G H) {p : Addr} {o : HO} (hp : H p = none) : RSt K C rt ρ fps (upd G p o) (upd H p o) := by
  have gp : G p = none := fresh_back s.sub hp
  have ne : ∀ a ∈ fps.flatten, a ≠ p := fun a ha z => by
    obtain ⟨l, h1, h2⟩ := List.mem_flatten.mp ha
    subst z
    -- an owned object is in the heap
    have : ∀ {rt : Roots} {ρ : List Addr} {fps : List (List Addr)}, Rts K C G H rt ρ fps → ∀ a ∈ fps.flatten, H a ≠ none := by
      intro rt ρ fps r
      have tr : ∀ (t : T) (v : V) (fp : List Addr), TR K C G H v t fp → ∀ a ∈ fp, H a ≠ none := by
        intro t v fp h
        refine TR.rec (motive_1 := fun v t fp _ => ∀ a ∈ fp, H a ≠ none) (motive_2 := fun vs ts fp _ => ∀ a ∈ fp, H a ≠ none) (fun _ _ z => nomatch z) (fun h _ ih a ha => ?_) (fun h _ _ ih a ha => ?_) (fun h _ _ ih a ha => ?_) (fun _ ih => ih) (fun _ z => nomatch z) (fun _ _ i1 i2 a ha => ?_) h
        · rcases List.mem_cons.mp ha with z | z
          · rw [z, h]; exact fun q => nomatch q
          · exact ih a z
        · rcases List.mem_cons.mp ha with z | z
          · rw [z, h]; exact fun q => nomatch q
          · exact ih a z
        · rcases List.mem_cons.mp ha with z | z
          · rw [z, h]; exact fun q => nomatch q
          · exact ih a z
        · rcases List.mem_append.mp ha with z | z
          · exact i1 a z
          · exact i2 a z
      induction r with
      | nil => exact fun _ z => nomatch z
      | cons h _ ih =>
        intro a ha
        rw [List.flatten_cons] at ha
        rcases List.mem_append.mp ha with z | z
        · exact tr _ _ _ h a z
        · exact ih a z
    exact this s.root a ha hp
  refine ⟨fun a u e => ?_, s.root.stay (Ex.new gp) (fun a ha => upd_ne (ne a ha)), s.nd, fun a ha => by rw [upd_ne (ne a ha)]; exact s.fr a ha⟩
  by_cases h : a = p
  · rw [h, upd_same] at e ⊢
    exact e
  · rw [upd_ne h] at e ⊢
    exact s.sub a u e
theorem idn_new {p : Addr} {o : HO} (hp : H p = none) : Idn H (upd H p o) := by
  have up : ∀ a, H a ≠ none → upd H p o a = H a := fun a h => upd_ne fun z => h (by rw [z]; exact hp)
  refine Idn.of (fun w hw => ?_)
  · obtain ⟨a, rfl, h⟩ := hw
    refine ⟨a, rfl, ?_⟩
    rcases h with ⟨xs, h⟩ | ⟨c, dx, fs, h⟩ | ⟨kvs, h⟩
    · exact .inl ⟨xs, by rw [up a (by rw [h]; exact fun z => nomatch z)]; exact h⟩
    · exact .inr (.inl ⟨c, dx, fs, by rw [up a (by rw [h]; exact fun z => nomatch z)]; exact h⟩)
    · exact .inr (.inr ⟨kvs, by rw [up a (by rw [h]; exact fun z => nomatch z)]; exact h⟩)
theorem upd_none {p l : Addr} {o : HO} (h : upd H p o l = none) : H l = none := by
  by_cases e : l = p
  · rw [e, upd_same] at h
    cases h
  · rw [upd_ne e] at h
    exact h
theorem Nx.laid (s : Ex G H) {p : Addr} {o : HO} (hp : H p = none) (fp : List Addr) : Nx fp G H (upd G p o) (upd H p o) fp where
  g := Ex.new (fresh_back s hp)
  keep := fun l u h _ => by
    have ne : l ≠ p := fun z => by rw [z, hp] at h; cases h
    exact ⟨by rw [upd_ne ne]; exact h, fun g => by rw [upd_ne ne]; exact g⟩
  dom := fun l h => upd_none h
  new := fun _ h => .inl h
  idn := idn_new hp
/-- (a, b): data -/
def wTup (w : WA) : WE := fun sl rt k => w sl rt fun xs rt1 => match datsV xs with
  | some ds => ds.length ≤ 1000 ∧ k (.dat (.tup ds)) rt1
  | none => False
theorem sz_le {n m : Nat} (h : n ≤ m) (hm : m ≤ 100000 := by decide) : n ≤ sizeLine := sz_of (Nat.le_trans h hm)
theorem we_tup {x1} {w : WA} (h : PA X es (tA K C U w)) : PE X (.Tuple es x1 pos) (tE K C U (wTup w)) := pe_imp (pe_tup h) fun σ H Q ⟨sl, rt, ρ, fps, G, k, s, xf, w, q⟩ =>
  ⟨sl, rt, ρ, fps, G, _, s, xf, w, fun xs rt1 fps1 G1 H1 vs r1 n1 v1 w1 => by
    split at w1
    · rename_i ds e
      have dr := v1.dats e
      refine ⟨sz_le (by rw [dr.len]; exact w1.1), fun p hp => q (.dat (.tup ds)) rt1 fps1 _ _ _ (r1.laid hp) (n1.trans (Nx.laid r1.sub hp _)) ?_ w1.2⟩
      exact .tup (st_of upd_same) (DRs.up (Ex.new (fresh_back r1.sub hp)) _ _ dr)
    · exact w1.elim⟩
end
end Wv
end

section
set_option Elab.async false
set_option linter.all false
set_option maxRecDepth 100000
set_option maxHeartbeats 4000000
namespace Wv
open PySem PySem.Spec PyProof.Rows L2 Evl
section
variable {K : PySem.W.Frag} {C : Cs} {U : UX} {G H G' H' G1 H1 G2 H2 : Hp} {sl : Slots} {rt rt' : Roots} {σ : L2.St} {ρ ρ' : List Addr} {fps fps' : List (List Addr)}
variable {X : Cx} {a b c e : Expr} {es rest : List Expr} {wa wb wc : WE} {ta tb : WT} {pos p : Pos}

/-! ### what is owned is in the heap -/
theorem TR.inH {t : T} {v : V} {fp : List Addr} (h : TR K C G H v t fp) : ∀ a ∈ fp, H a ≠ none := by
  refine TR.rec (motive_1 := fun v t fp _ => ∀ a ∈ fp, H a ≠ none) (motive_2 := fun vs ts fp _ => ∀ a ∈ fp, H a ≠ none) (fun _ _ z => nomatch z) (fun h _ ih a ha => ?_) (fun h _ _ ih a ha => ?_) (fun h _ _ ih a ha => ?_) (fun _ ih => ih) (fun _ z => nomatch z) (fun _ _ i1 i2 a ha => ?_) h
  · rcases List.mem_cons.mp ha with z | z
    · rw [z, h]; exact fun q => nomatch q
    · exact ih a z
  · rcases List.mem_cons.mp ha with z | z
    · rw [z, h]; exact fun q => nomatch q
    · exact ih a z
  · rcases List.mem_cons.mp ha with z | z
    · rw [z, h]; exact fun q => nomatch q
    · exact ih a z
  · rcases List.mem_append.mp ha with z | z
    · exact i1 a z
    · exact i2 a z
theorem Rts.inH : ∀ {rt : Roots} {ρ : List Addr} {fps : List (List Addr)}, Rts K C G H rt ρ fps → ∀ a ∈ fps.flatten, H a ≠ none
  | _, _, _, .nil => fun _ z => nomatch z
  | _, _, _, .cons h r => fun a ha => by
    rw [List.flatten_cons] at ha
    rcases List.mem_append.mp ha with z | z
    · exact h.inH a z
    · exact Rts.inH r a z
theorem Own.inH {t : T} {v : V} {fp : List Addr} (h : Own K C fps G H t v fp) : ∀ a ∈ fp, H a ≠ none := h.tr.inH
/-- the heap grows -/
theorem RSt.grow (s : RSt K C rt ρ fps G H) (e : Ex H H') : RSt K C rt ρ fps G H' := ⟨s.sub.trans e, s.root.stay (Ex.refl G) fun a ha => by
    cases q : H a with
    | none => exact absurd q (s.root.inH a ha)
    | some o => exact e a o q, s.nd, s.fr⟩
theorem Own.grow {t : T} {v : V} {fp : List Addr} (s : Own K C fps G H t v fp) (e : Ex H H') : Own K C fps G H' t v fp := ⟨s.tr.stay (Ex.refl G) _ _ _ fun a ha => by
    cases q : H a with
    | none => exact absurd q (s.inH a ha)
    | some o => exact e a o q, s.nd, s.ap, s.fr⟩
/-- what is owned by nobody stays while a piece of the program runs -/
theorem Own.past {t : T} {v : V} {fp : List Addr} (s : Own K C fps G H t v fp) (n : Nx fps.flatten G H G' H' fps'.flatten) : Own K C fps' G' H' t v fp where
  tr := s.tr.stay n.g _ _ _ fun a ha => by
    cases q : H a with
    | none => exact absurd q (s.inH a ha)
    | some o => exact (n.keep a o q (s.ap a ha)).1
  nd := s.nd
  ap := fun a ha z => by
    rcases n.new a z with y | y
    · exact s.ap a ha y
    · exact s.inH a ha y
  fr := fun a ha => by
    cases q : H a with
    | none => exact absurd q (s.inH a ha)
    | some o => exact (n.keep a o q (s.ap a ha)).2 (s.fr a ha)
theorem Nx.grow {fp : List Addr} {p : Addr} {o : HO} (hp : H p = none) : Nx fp G H G (upd H p o) fp where
  g := Ex.refl G
  keep := fun l u h _ => ⟨Ex.new hp l u h, fun g => g⟩
  dom := fun l h => upd_none h
  new := fun _ h => .inl h
  idn := idn_new hp
/-- a new list of what is owned -/
theorem RSt.newL (s : RSt K C rt ρ fps G H) {p : Addr} {vs : List V} {ts : List T} {fp : List Addr} (hp : H p = none) (r : TRs K C G H vs ts fp) (nd : fp.Nodup) (ap : ∀ a ∈ fp, a ∉ fps.flatten) (fr : ∀ a ∈ fp, G a = none) (ih : ∀ a ∈ fp, H a ≠ none) :
    RSt K C rt ρ fps G (upd H p (.lst vs)) ∧ Own K C fps G (upd H p (.lst vs)) (.lst ts) (.ref p) (p :: fp) := by
  refine ⟨s.grow (Ex.new hp), .lst upd_same (TRs.stay (Ex.refl G) _ _ _ r fun a ha => upd_ne fun z => ih a ha (by rw [z]; exact hp)), ?_, fun a ha => ?_, fun a ha => ?_⟩
  · exact List.nodup_cons.mpr ⟨fun z => ih p z hp, nd⟩
  · rcases List.mem_cons.mp ha with z | z
    · exact fun y => s.root.inH a y (by rw [z]; exact hp)
    · exact ap a z
  · rcases List.mem_cons.mp ha with z | z
    · rw [z]; exact fresh_back s.sub hp
    · exact fr a z
/-- what is owned by nobody becomes data -/
theorem RSt.frz (s : RSt K C rt ρ fps G H) {t : T} {v : V} {fp : List Addr} (o : Own K C fps G H t v fp) : RSt K C rt ρ fps (mix G H fp) H ∧ DR K C (mix G H fp) v t.toD := by
  have eg := mix_ex (G := G) (H := H) o.fr
  refine ⟨⟨mix_sub s.sub, s.root.stay eg fun _ _ => rfl, s.nd, fun a ha => ?_⟩, o.tr.frz eg _ _ _ fun a ha => mix_in ha⟩
  rw [mix_out fun z => o.ap a z ha]
  exact s.fr a ha
theorem Nx.frz {fp fu : List Addr} {t : T} (n : Nx fp G H G' H' fps.flatten) (fr : ∀ a ∈ fu, G' a = none) (new : ∀ a ∈ fu, a ∈ fp ∨ H a = none) : Nx fp G H (mix G' H' fu) H' fps.flatten where
  g := n.g.trans (mix_ex fr)
  keep := fun l o h z => by
    obtain ⟨h1, g1⟩ := n.keep l o h z
    refine ⟨h1, fun g => ?_⟩
    rw [mix_out fun y => by
      rcases new l y with q | q
      · exact z q
      · rw [q] at h; cases h]
    exact g1 g
  dom := n.dom
  new := n.new
  idn := n.idn
/-- a new thing taken as data -/
def wFrz (w : WO) : WE := fun sl rt k => w sl rt fun t rt1 => k (.dat t.toD) rt1
theorem e_frz {w : WO} : ∀ σ H Q, tE K C U (wFrz w) σ H Q → tO K C U w σ H Q := fun σ H Q ⟨sl, rt, ρ, fps, G, k, s, xf, w, q⟩ =>
  ⟨sl, rt, ρ, fps, G, _, s, xf, w, fun t rt1 fps1 fp G1 H1 v r1 n1 o1 new w1 => by
    obtain ⟨r2, d⟩ := r1.frz o1
    exact q (.dat t.toD) rt1 fps1 _ H1 v r2 (n1.frz (t := t) o1.fr new) d w1⟩
theorem we_frz {w : WO} (h : PE X e (tO K C U w)) : PE X e (tE K C U (wFrz w)) := pe_imp h e_frz
/-- data as a tree -/
def wLift (w : WE) : WO := fun sl rt k => w sl rt fun x rt1 => match x with
  | .dat d => k (.dat d) rt1
  | _ => False
theorem Own.dat {v : V} {d : D} (h : DR K C G v d) : Own K C fps G H (.dat d) v [] := ⟨.dat h, List.nodup_nil, fun _ z => (nomatch z), fun _ z => (nomatch z)⟩
theorem o_lift {w : WE} : ∀ σ H Q, tO K C U (wLift w) σ H Q → tE K C U w σ H Q := fun σ H Q ⟨sl, rt, ρ, fps, G, k, s, xf, w, q⟩ =>
  ⟨sl, rt, ρ, fps, G, _, s, xf, w, fun x rt1 fps1 G1 H1 v r1 n1 v1 w1 => by
    cases x with
    | dat d => exact q _ rt1 fps1 [] G1 H1 v r1 n1 (Own.dat v1) (fun _ z => nomatch z) w1
    | ref _ _ => exact w1.elim⟩
theorem wo_lift {w : WE} (h : PE X e (tE K C U w)) : PE X e (tO K C U (wLift w)) := pe_imp h o_lift
/-- a root that is held by a name becomes data -/
def wFz (wa : WE) : WE := fun sl rt k => wa sl rt fun x rt1 => match x with
  | .dat d => k (.dat d) rt1
  | .ref r [] => match rt1[r]? with
    | some t => k (.dat t.toD) (rt1.set r (.dat t.toD))
    | none => False
  | _ => False
theorem e_fz : ∀ σ H Q, tE K C U (wFz wa) σ H Q → tE K C U wa σ H Q := fun σ H Q ⟨sl, rt, ρ, fps, G, k, s, xf, w, q⟩ =>
  ⟨sl, rt, ρ, fps, G, _, s, xf, w, fun x rt1 fps1 G1 H1 v r1 n1 v1 w1 => by
    split at w1
    · exact q _ rt1 fps1 G1 H1 v r1 n1 v1 w1
    · rename_i r
      split at w1
      · rename_i t ht
        obtain ⟨a, h1, h2, h3⟩ := v1
        cases Option.some.inj h2
        obtain ⟨a', L, fu, R, k1, k2, k3, k4⟩ := r1.root.split ht
        rw [h1] at k1
        cases k1
        have nd := r1.nd
        rw [k3] at nd
        have fr : ∀ b ∈ fu, G1 b = none := fun b hb => r1.fr b (by rw [k3]; simp [hb])
        have eg := mix_ex (G := G1) (H := H1) fr
        obtain ⟨fps2, y1, y2⟩ := k4 (mix G1 H1 fu) H1 (.dat t.toD) [] eg (fun _ _ => rfl) (.dat (k2.frz eg _ _ _ fun b hb => mix_in hb))
        have sub2 : ∀ b ∈ fps2.flatten, b ∈ fps1.flatten ∧ b ∉ fu := fun b hb => by
          rw [y2] at hb
          rw [k3]
          have nd2 := List.nodup_append.mp nd
          have nd3 := List.nodup_append.mp nd2.2.1
          rcases List.mem_append.mp hb with z | z
          · exact ⟨by simp [z], fun y => nd2.2.2 b z b (by simp [y]) rfl⟩
          · have z : b ∈ R := by simpa using z
            exact ⟨by simp [z], fun y => nd3.2.2 b y b z rfl⟩
        have nd' : fps2.flatten.Nodup := by
          rw [y2]
          refine List.Nodup.sublist ?_ nd
          exact List.Sublist.append (List.Sublist.refl L) (List.Sublist.append (List.nil_sublist fu) (List.Sublist.refl R))
        refine q (.dat t.toD) _ fps2 (mix G1 H1 fu) H1 _ ⟨mix_sub r1.sub, y1, nd', fun b hb => ?_⟩ ?_ (k2.frz eg _ _ _ fun b hb => mix_in hb) w1
        · rw [mix_out (sub2 b hb).2]
          exact r1.fr b (sub2 b hb).1
        · refine n1.trans ⟨eg, fun l o h z => ⟨h, fun g => ?_⟩, fun _ h => h, fun l h => .inl (sub2 l h).1, Idn.refl _⟩
          rw [mix_out fun y => z (by rw [k3]; simp [y])]
          exact g
      · exact w1.elim
    · exact w1.elim⟩
theorem we_fz (h : PE X e (tE K C U wa)) : PE X e (tE K C U (wFz wa)) := pe_imp h e_fz

/-! ### lists made -/
/-- [a, b] of data -/
def wLst (w : WA) : WO := fun sl rt k => w sl rt fun xs rt1 => match datsV xs with
  | some ds => ds.length ≤ 1000 ∧ k (.lst (ds.map .dat)) rt1
  | none => False
theorem wo_lst {w : WA} (h : PA X es (tA K C U w)) : PE X (.List es pos) (tO K C U (wLst w)) := pe_imp (pe_lst h) fun σ H Q ⟨sl, rt, ρ, fps, G, k, s, xf, w, q⟩ =>
  ⟨sl, rt, ρ, fps, G, _, s, xf, w, fun xs rt1 fps1 G1 H1 vs r1 n1 v1 w1 => by
    split at w1
    · rename_i ds e
      have dr := v1.dats e
      refine ⟨sz_le (by rw [dr.len]; exact w1.1), fun p hp => ?_⟩
      obtain ⟨r2, o2⟩ := r1.newL hp (dr.trs (H := H1)) List.nodup_nil (fun _ z => nomatch z) (fun _ z => nomatch z) (fun _ z => nomatch z)
      exact q _ rt1 fps1 _ G1 _ _ r2 (n1.trans (Nx.grow hp)) o2 (fun b hb => by
        have : b = p := by simpa using hb
        rw [this]
        exact .inr (n1.dom p hp)) w1.2
    · exact w1.elim⟩
/-- a list that is there: as data or owned, of data alone -/
def listOf (x : Val) (rt : Roots) : Option (List D) := match x with
  | .dat (.lst ds) => some ds
  | .dat (.ro ds) => some ds
  | .dat (.fzl ds) => some ds
  | .ref r p => match tat rt r p with
    | some (.lst ts) => dats ts
    | _ => none
  | _ => none
theorem RSt.listOf (s : RSt K C rt ρ fps G H) {x : Val} {v : V} {ds : List D} (h : listOf x rt = some ds) (hv : VR K C G H ρ x v) : ∃ a xs, v = .ref a ∧ SqL K H a xs ∧ DRs K C G xs ds := by
  unfold Wv.listOf at h
  split at h
  · cases h
    cases hv with
    | lst h r => exact ⟨_, _, rfl, sq_of (s.sub _ _ h), r⟩
  · cases h
    cases hv with
    | ro h r => exact ⟨_, _, rfl, ex_l s.sub h, r⟩
  · cases h
    cases hv with
    | fzl h r => exact ⟨_, _, rfl, .inl (.inr ⟨_, s.sub _ _ h⟩), r⟩
  · split at h
    · rename_i ts ht
      obtain ⟨a, fu, _, _, k, _⟩ := s.get ht hv
      cases k with
      | lst h2 r =>
        have e := dats_map h
        rw [e] at r
        exact ⟨_, _, rfl, sq_of h2, (TRs.dats r).1⟩
    · cases h
  · cases h
/-- a list or a tuple of data -/
def seqOf (x : Val) (rt : Roots) : Option (List D) := match x with
  | .dat (.tup ds) => some ds
  | .dat (.tpx ds) => some ds
  | _ => listOf x rt
theorem RSt.seqOf (s : RSt K C rt ρ fps G H) {x : Val} {v : V} {ds : List D} (h : seqOf x rt = some ds) (hv : VR K C G H ρ x v) : ∃ a xs, v = .ref a ∧ (SqL K H a xs ∨ SqT K H a xs) ∧ DRs K C G xs ds := by
  unfold Wv.seqOf at h
  split at h
  · cases h
    cases hv with
    | tup h r => exact ⟨_, _, rfl, .inr (ex_t s.sub h), r⟩
  · cases h
    cases hv with
    | tpx h _ r => exact ⟨_, _, rfl, .inr (ex_t s.sub (.inl (.inr ⟨_, h⟩))), r⟩
  · obtain ⟨a, xs, h1, h2, h3⟩ := s.listOf h hv
    exact ⟨a, xs, h1, .inl h2, h3⟩
/-- a call of a built-in with values that makes nothing -/
abbrev SemA := List Val → Roots → (D → Prop) → Prop
def wCB (f : SemA) (w : WA) : WE := fun sl rt k => w sl rt fun xs rt1 => f xs rt1 fun d => k (.dat d) rt1
def SA (K : PySem.W.Frag) (C : Cs) (f : SemA) (r : List V → Hp → VK → Prop) : Prop := ∀ rt ρ fps G H xs vs, RSt K C rt ρ fps G H → VRs K C G H ρ xs vs → ∀ (k : D → Prop) (Q : VK), f xs rt k → (∀ d w, k d → DR K C G w d → Q w H) → r vs H Q
theorem e_cb {f : SemA} {r : List V → Hp → VK → Prop} {w : WA} (h : SA K C f r) : ∀ σ H Q, tE K C U (wCB f w) σ H Q → tCB r (tA K C U w) σ H Q := fun σ H Q ⟨sl, rt, ρ, fps, G, k, s, xf, w, q⟩ =>
  ⟨sl, rt, ρ, fps, G, _, s, xf, w, fun xs rt1 fps1 G1 H1 vs r1 n1 v1 w1 => h rt1 ρ fps1 G1 H1 xs vs r1 v1 _ Q w1 fun d w2 kd dr => q (.dat d) rt1 fps1 G1 H1 w2 r1 n1 dr kd⟩
/-- len -/
def fLen : SemA := fun xs rt k => match xs with
  | [.dat (.str z)] => z.length ≤ sizeLine ∧ k (.int z.length)
  | [x] => match x with
    | .ref r p => match tat rt r p with
      | some (.lst ts) => k (.int ts.length)
      | _ => False
    | _ => match seqOf x rt with
      | some ds => k (.int ds.length)
      | none => False
  | _ => False
theorem sa_len : SA K C fLen (fun xs H Q => ∃ x n, xs = [x] ∧ LenV K x H n ∧ Q (.int n) H) := fun rt ρ fps G H xs vs s v k Q w q => by
  unfold fLen at w
  split at w
  · cases v with
    | cons h r =>
      cases r
      cases h
      exact ⟨_, _, rfl, ⟨w.1, rfl⟩, q _ _ w.2 (.int _)⟩
  · cases v with
    | cons h r =>
      cases r
      split at w
      · split at w
        · rename_i ts ht
          obtain ⟨a, fu, _, _, k2, _⟩ := s.get ht h
          cases k2 with
          | lst h2 r2 => exact ⟨_, _, rfl, .inl ⟨_, sq_of h2, (TRs.len r2).symm⟩, q _ _ w (.int _)⟩
        · exact w.elim
      · split at w
        · rename_i ds e
          obtain ⟨a, xs, rfl, h2, h3⟩ := s.seqOf e h
          refine ⟨_, _, rfl, ?_, q _ _ w (.int _)⟩
          rcases h2 with h2 | h2
          · exact .inl ⟨xs, h2, h3.len.symm⟩
          · exact .inr ⟨xs, h2, h3.len.symm⟩
        · exact w.elim
  · exact w.elim
/-- int(x) of an int, a bool -/
def fInt : SemA := fun xs _ k => match xs with
  | [.dat (.int i)] => k (.int i)
  | [.dat (.bool b)] => k (.int (if b = true then 1 else 0))
  | _ => False
theorem sa_int : SA K C fInt (fun xs H Q => (∃ i, xs = [.int i] ∧ Q (.int i) H) ∨ ∃ k, xs = [.bl k] ∧ Q (.int (if k then 1 else 0)) H) := fun rt ρ fps G H xs vs s v k Q w q => by
  unfold fInt at w
  split at w
  · cases v with
    | cons h r =>
      cases r
      cases h
      exact .inl ⟨_, rfl, q _ _ w (.int _)⟩
  · cases v with
    | cons h r =>
      cases r
      cases h
      exact .inr ⟨_, rfl, q _ _ w (.int _)⟩
  · exact w.elim
def fMax : SemA := fun xs _ k => match xs with
  | [.dat (.int i), .dat (.int j)] => k (.int (if j > i then j else i))
  | _ => False
def fMin : SemA := fun xs _ k => match xs with
  | [.dat (.int i), .dat (.int j)] => k (.int (if j < i then j else i))
  | _ => False
theorem sa_max : SA K C fMax (fun xs H Q => ∃ i j, xs = [.int i, .int j] ∧ Q (.int (if j > i then j else i)) H) := fun rt ρ fps G H xs vs s v k Q w q => by
  unfold fMax at w
  split at w
  · cases v with
    | cons h r =>
      cases r with
      | cons h' r =>
        cases r
        cases h
        cases h'
        exact ⟨_, _, rfl, q _ _ w (.int _)⟩
  · exact w.elim
theorem sa_min : SA K C fMin (fun xs H Q => ∃ i j, xs = [.int i, .int j] ∧ Q (.int (if j < i then j else i)) H) := fun rt ρ fps G H xs vs s v k Q w q => by
  unfold fMin at w
  split at w
  · cases v with
    | cons h r =>
      cases r with
      | cons h' r =>
        cases r
        cases h
        cases h'
        exact ⟨_, _, rfl, q _ _ w (.int _)⟩
  · exact w.elim
/-- sum of ints -/
def fSum : SemA := fun xs rt k => match xs with
  | [x] => ∃ ns : List Int, listOf x rt = some (ns.map .int) ∧ k (.int ns.sum)
  | _ => False
theorem sa_sum : SA K C fSum (rSum K) := fun rt ρ fps G H xs vs s v k Q w q => by
  unfold fSum at w
  split at w
  · cases v with
    | cons h r =>
      cases r
      obtain ⟨ns, e, w⟩ := w
      obtain ⟨a, xs, rfl, h2, h3⟩ := s.listOf e h
      rw [DRs.ints h3] at h2
      exact ⟨a, ns, rfl, h2, q _ _ w (.int _)⟩
  · exact w.elim
def fAll : SemA := fun xs rt k => match xs with
  | [x] => ∃ ns : List Bool, listOf x rt = some (ns.map .bool) ∧ k (.bool (ns.all id))
  | _ => False
theorem sa_all : SA K C fAll (rAll K) := fun rt ρ fps G H xs vs s v k Q w q => by
  unfold fAll at w
  split at w
  · cases v with
    | cons h r =>
      cases r
      obtain ⟨ns, e, w⟩ := w
      obtain ⟨a, xs, rfl, h2, h3⟩ := s.listOf e h
      rw [DRs.bools h3] at h2
      exact ⟨a, ns, rfl, h2, q _ _ w (.bool _)⟩
  · exact w.elim
/-- list(x) -/
def wListOf (w : WA) : WO := fun sl rt k => w sl rt fun xs rt1 => match xs with
  | [x] => ∃ ds, seqOf x rt1 = some ds ∧ k (.lst (ds.map .dat)) rt1
  | _ => False
theorem o_listOf {w : WA} : ∀ σ H Q, tO K C U (wListOf w) σ H Q → tCB (fun xs H Q => ∃ p ys, xs = [.ref p] ∧ (SqL K H p ys ∨ SqT K H p ys) ∧ ∀ l, H l = none → Q (.ref l) (upd H l (.lst ys))) (tA K C U w) σ H Q := fun σ H Q ⟨sl, rt, ρ, fps, G, k, s, xf, w, q⟩ =>
  ⟨sl, rt, ρ, fps, G, _, s, xf, w, fun xs rt1 fps1 G1 H1 vs r1 n1 v1 w1 => by
    split at w1
    · obtain ⟨ds, e, w1⟩ := w1
      cases v1 with
      | cons h r =>
        cases r
        obtain ⟨a, xs, rfl, h2, h3⟩ := r1.seqOf e h
        refine ⟨a, xs, rfl, h2, fun p hp => ?_⟩
        obtain ⟨r2, o2⟩ := r1.newL hp (h3.trs (H := H1)) List.nodup_nil (fun _ z => nomatch z) (fun _ z => nomatch z) (fun _ z => nomatch z)
        exact q _ rt1 fps1 _ G1 _ _ r2 (n1.trans (Nx.grow hp)) o2 (fun b hb => by
          have : b = p := by simpa using hb
          rw [this]
          exact .inr (n1.dom p hp)) w1
    · exact w1.elim⟩
/-- tuple(x): data -/
def wTupOf (w : WA) : WE := fun sl rt k => w sl rt fun xs rt1 => match xs with
  | [x] => ∃ ds, seqOf x rt1 = some ds ∧ k (.dat (.tup ds)) rt1
  | _ => False
theorem e_tupOf {w : WA} : ∀ σ H Q, tE K C U (wTupOf w) σ H Q → tCB (fun xs H Q => ∃ p ys, xs = [.ref p] ∧ ((SqL K H p ys ∧ ∀ l, H l = none → Q (.ref l) (upd H l (.tup ys))) ∨ (SqT K H p ys ∧ Q (.ref p) H))) (tA K C U w) σ H Q := fun σ H Q ⟨sl, rt, ρ, fps, G, k, s, xf, w, q⟩ =>
  ⟨sl, rt, ρ, fps, G, _, s, xf, w, fun xs rt1 fps1 G1 H1 vs r1 n1 v1 w1 => by
    split at w1
    · obtain ⟨ds, e, w1⟩ := w1
      · cases v1 with
        | cons h r =>
          cases r
          unfold Wv.seqOf at e
          split at e
          · cases e
            cases h with
            | tup h2 r => exact ⟨_, _, rfl, .inr ⟨ex_t r1.sub h2, q (.dat (.tup ds)) rt1 fps1 G1 H1 _ r1 n1 (.tup h2 r) w1⟩⟩
          · cases e
            cases h with
            | tpx h2 _ r => exact ⟨_, _, rfl, .inr ⟨ex_t r1.sub (.inl (.inr ⟨_, h2⟩)), q (.dat (.tup ds)) rt1 fps1 G1 H1 _ r1 n1 (.tup (.inl (.inr ⟨_, h2⟩)) r) w1⟩⟩
          · obtain ⟨a, xs, rfl, h2, h3⟩ := r1.listOf e h
            refine ⟨a, xs, rfl, .inl ⟨h2, fun p hp => q (.dat (.tup ds)) rt1 fps1 _ _ _ (r1.laid hp) (n1.trans (Nx.laid r1.sub hp _)) ?_ w1⟩⟩
            exact .tup (st_of upd_same) (DRs.up (Ex.new (fresh_back r1.sub hp)) _ _ h3)
    · exact w1.elim⟩
/-- a[i] -/
def wIdx (wa wb : WE) : WE := fun sl rt k => wa sl rt fun x rt1 => wb sl rt1 fun y rt2 => match y with
  | .dat (.int n) => match x with
    | .dat (.str z) => z.length ≤ sizeLine ∧ ∃ c, atI z.cps.toList n = some c ∧ k (.dat (.str ⟨#[c]⟩)) rt2
    | .dat d => match seqOf (.dat d) rt2 with
      | some ds => ∃ d, atI ds n = some d ∧ k (.dat d) rt2
      | none => False
    | .ref r p => match tat rt2 r p with
      | some (.lst ts) => ∃ j u, ixN ts.length n = some j ∧ ts[j]? = some u ∧ (match u with | .dat d => k (.dat d) rt2 | _ => False)
      | _ => False
  | _ => False
theorem atI_get {xs : List V} {ds : List D} {n : Int} {d : D} (r : DRs K C G xs ds) (h : atI ds n = some d) : ∃ v, atI xs n = some v ∧ DR K C G v d := by
  unfold atI at h ⊢
  rw [r.len]
  cases q : ixN ds.length n with
  | none => rw [q] at h; cases h
  | some j =>
    rw [q] at h
    exact r.get h
theorem e_idx : ∀ σ H Q, tE K C U (wIdx wa wb) σ H Q → tOp (rIx K) (tE K C U wa) (tE K C U wb) σ H Q := fun σ H Q ⟨sl, rt, ρ, fps, G, k, s, xf, w, q⟩ =>
  ⟨sl, rt, ρ, fps, G, _, s, xf, w, fun x rt1 fps1 G1 H1 v r1 n1 v1 w1 => ⟨sl, rt1, ρ, fps1, G1, _, s.step r1 n1 fun _ _ e => e, xf.later n1 (Pre.refl _), w1, fun y rt2 fps2 G2 H2 u r2 n2 v2 w2 => by
    have v1 := v1.up n2 fun _ _ e => e
    split at w2
    · rename_i n
      cases v2
      split at w2
      · cases v1
        obtain ⟨hz, c, hc, w2⟩ := w2
        exact .inr (.inr ⟨_, n, c, rfl, rfl, hz, hc, q (.dat (.str ⟨#[c]⟩)) rt2 fps2 G2 H2 _ r2 (n1.trans n2) (DR.str _) w2⟩)
      · split at w2
        · rename_i ds e
          obtain ⟨d, hd, w2⟩ := w2
          obtain ⟨a, xs, rfl, h2, h3⟩ := r2.seqOf e v1
          obtain ⟨z, hz, hr⟩ := atI_get h3 hd
          rcases h2 with h2 | h2
          · exact .inl ⟨a, xs, n, z, rfl, rfl, h2, hz, q (.dat d) rt2 fps2 G2 H2 _ r2 (n1.trans n2) hr w2⟩
          · exact .inr (.inl ⟨a, xs, n, z, rfl, rfl, h2, hz, q (.dat d) rt2 fps2 G2 H2 _ r2 (n1.trans n2) hr w2⟩)
        · exact w2.elim
      · rename_i r p
        split at w2
        · rename_i ts ht
          obtain ⟨j, u, hj, hu, w2⟩ := w2
          obtain ⟨a, fu, k1, k2, k3, _⟩ := r2.get ht v1
          cases k3 with
          | lst h2 r3 =>
            obtain ⟨z, fz, z1, z2, _⟩ := r3.get hu
            split at w2
            · rename_i d
              refine .inl ⟨_, _, n, z, rfl, rfl, sq_of h2, ?_, q _ rt2 fps2 G2 H2 z r2 (n1.trans n2) (VR.ofD z2) w2⟩
              unfold atI
              rw [TRs.len r3, hj]
              exact z1
            · exact w2.elim
        · exact w2.elim
    · exact w2.elim⟩⟩
theorem we_idx (ha : PE X a (tE X.K C U wa)) (hb : PE X b (tE X.K C U wb)) (hs : PlainIx b) : PE X (.Subscript a b pos) (tE X.K C U (wIdx wa wb)) := pe_imp (pe_ix (r := rIx X.K) ix_seq ha hb hs) e_idx
end
end Wv
end

section
set_option Elab.async false
set_option linter.all false
set_option maxRecDepth 100000
set_option maxHeartbeats 4000000
namespace Wv
open PySem PySem.Spec PyProof.Rows L2 Evl

structure WEnds where
  nx : Slots → Roots → Prop
  rt : Val → Roots → Prop := fun _ _ => False
  ro : T → Roots → Prop := fun _ _ => False
  bk : Slots → Roots → Prop := fun _ _ => False
  ct : Slots → Roots → Prop := fun _ _ => False
  ex : Exn → Slots → Roots → Prop := fun _ _ _ => False
abbrev WS := WEnds → Slots → Roots → Prop
/-- where a piece of the program may end -/
structure Fin (K : PySem.W.Frag) (C : Cs) (U : UX) (ρ : List Addr) (fps : List (List Addr)) (G H : Hp) (Z : WEnds) (D : Ends) : Prop where
  nx : ∀ sl' rt' σ' ρ' fps' G' H', St K C sl' rt' σ' ρ' fps' G' H' → Nx fps.flatten G H G' H' fps'.flatten → Pre ρ ρ' → Z.nx sl' rt' → D.nx σ' H'
  rt : ∀ x rt' ρ' fps' G' H' v, RSt K C rt' ρ' fps' G' H' → Nx fps.flatten G H G' H' fps'.flatten → Pre ρ ρ' → VR K C G' H' ρ' x v → Z.rt x rt' → D.rt v H'
  ro : ∀ t rt' ρ' fps' fp G' H' v, RSt K C rt' ρ' fps' G' H' → Nx fps.flatten G H G' H' fps'.flatten → Pre ρ ρ' → Own K C fps' G' H' t v fp → (∀ a ∈ fp, a ∈ fps.flatten ∨ H a = none) → Z.ro t rt' → D.rt v H'
  bk : ∀ sl' rt' σ' ρ' fps' G' H', St K C sl' rt' σ' ρ' fps' G' H' → Nx fps.flatten G H G' H' fps'.flatten → Pre ρ ρ' → Z.bk sl' rt' → D.bk σ' H'
  ct : ∀ sl' rt' σ' ρ' fps' G' H', St K C sl' rt' σ' ρ' fps' G' H' → Nx fps.flatten G H G' H' fps'.flatten → Pre ρ ρ' → Z.ct sl' rt' → D.ct σ' H'
  xf : Xf K C U ρ fps G H Z.ex
section
variable {K : PySem.W.Frag} {C : Cs} {U : UX} {G H G' H' G1 H1 G2 H2 : Hp} {sl : Slots} {rt rt' : Roots} {σ : L2.St} {ρ ρ' ρ1 : List Addr} {fps fps' fps1 : List (List Addr)}
variable {X : Cx} {a b c e : Expr} {es rest : List Expr} {wa wb wc : WE} {ta tb : WT} {pos p : Pos} {Z : WEnds} {E : Ends} {st : Stmt} {sts : List Stmt} {u z : WS}
theorem Fin.later (f : Fin K C U ρ fps G H Z E) (n : Nx fps.flatten G H G1 H1 fps1.flatten) (p : Pre ρ ρ1) : Fin K C U ρ1 fps1 G1 H1 Z E where
  nx := fun sl' rt' σ' ρ' fps' G' H' s n' p' => f.nx sl' rt' σ' ρ' fps' G' H' s (n.trans n') (p.trans p')
  rt := fun x rt' ρ' fps' G' H' v s n' p' => f.rt x rt' ρ' fps' G' H' v s (n.trans n') (p.trans p')
  ro := fun t rt' ρ' fps' fp G' H' v s n' p' o h => f.ro t rt' ρ' fps' fp G' H' v s (n.trans n') (p.trans p') o fun a ha => (h a ha).elim (fun q => n.new a q) fun q => .inr (n.dom a q)
  bk := fun sl' rt' σ' ρ' fps' G' H' s n' p' => f.bk sl' rt' σ' ρ' fps' G' H' s (n.trans n') (p.trans p')
  ct := fun sl' rt' σ' ρ' fps' G' H' s n' p' => f.ct sl' rt' σ' ρ' fps' G' H' s (n.trans n') (p.trans p')
  xf := f.xf.later n p
variable (K C)
variable (U)
def tS (w : WS) : TS := fun D σ H => ∃ Z sl rt ρ fps G, St K C sl rt σ ρ fps G H ∧ w Z sl rt ∧ Fin K C U ρ fps G H Z D
variable {K C}
variable {U}
theorem ps_imp {t t' : TS} (h : PS X st t) (i : ∀ D σ H, t' D σ H → t D σ H) : PS X st t' := ⟨fun pins s σ H D I q => h.run pins s σ H D I (i D σ H q)⟩
theorem pss_imp {t t' : TS} (h : PSs X sts t) (i : ∀ D σ H, t' D σ H → t D σ H) : PSs X sts t' := ⟨fun pins s σ H D I q => h.run pins s σ H D I (i D σ H q)⟩
theorem pre_len (p : Pre ρ ρ') : ρ.length ≤ ρ'.length := by
  cases h : ρ.length with
  | zero => omega
  | succ n =>
    have := p n (ρ[n]'(by omega)) (List.getElem?_eq_getElem (by omega))
    have := (List.getElem?_eq_some_iff.mp this).1
    omega

/-! ### blocks -/
def wSeq (u z : WS) : WS := fun Z sl rt => u { Z with nx := z Z } sl rt
/-- with a place told between -/
def wCut (u z : WS) : WS := fun Z sl rt => ∃ N : Slots → Roots → Prop, u { Z with nx := N } sl rt ∧ ∀ sl' rt', N sl' rt' → z Z sl' rt'
def wNext : WS := fun Z sl rt => Z.nx sl rt
theorem Fin.seq (f : Fin K C U ρ fps G H Z E) (N : Slots → Roots → Prop) (h : ∀ sl' rt', N sl' rt' → z Z sl' rt') : Fin K C U ρ fps G H { Z with nx := N } { E with nx := tS K C U z E } :=
  ⟨fun sl' rt' σ' ρ' fps' G' H' s n p hn => ⟨Z, sl', rt', ρ', fps', G', s, h sl' rt' hn, f.later n p⟩, f.rt, f.ro, f.bk, f.ct, f.xf⟩
theorem wss_nil : PSs X [] (tS K C U wNext) := pss_imp pss_nil fun D σ H ⟨Z, sl, rt, ρ, fps, G, s, w, f⟩ => f.nx sl rt σ ρ fps G H s (Nx.refl _ _ _) (Pre.refl _) w
theorem wss_cons (h1 : PS X st (tS K C U u)) (h2 : PSs X sts (tS K C U z)) : PSs X (st :: sts) (tS K C U (wSeq u z)) := pss_imp (pss_cons h1 h2) fun D σ H ⟨Z, sl, rt, ρ, fps, G, s, w, f⟩ => ⟨_, sl, rt, ρ, fps, G, s, w, f.seq _ fun _ _ h => h⟩
theorem wss_cut (h1 : PS X st (tS K C U u)) (h2 : PSs X sts (tS K C U z)) : PSs X (st :: sts) (tS K C U (wCut u z)) := pss_imp (pss_cons h1 h2) fun D σ H ⟨Z, sl, rt, ρ, fps, G, s, ⟨N, w, h⟩, f⟩ => ⟨_, sl, rt, ρ, fps, G, s, w, f.seq N h⟩
theorem wss_one (h1 : PS X st (tS K C U u)) : PSs X [st] (tS K C U u) := pss_one h1
theorem ws_pass : PS X (.Pass pos) (tS K C U wNext) := ps_imp ps_pass fun D σ H ⟨Z, sl, rt, ρ, fps, G, s, w, f⟩ => f.nx sl rt σ ρ fps G H s (Nx.refl _ _ _) (Pre.refl _) w
theorem ws_doc {x j pos'} : PS X (.Expr (.Constant (.str x) j pos) pos') (tS K C U wNext) := ps_imp ps_doc fun D σ H ⟨Z, sl, rt, ρ, fps, G, s, w, f⟩ => f.nx sl rt σ ρ fps G H s (Nx.refl _ _ _) (Pre.refl _) w
def wBreak : WS := fun Z sl rt => Z.bk sl rt
def wCont : WS := fun Z sl rt => Z.ct sl rt
theorem ws_break : PS X (.Break pos) (tS K C U wBreak) := ps_imp ps_break fun D σ H ⟨Z, sl, rt, ρ, fps, G, s, w, f⟩ => f.bk sl rt σ ρ fps G H s (Nx.refl _ _ _) (Pre.refl _) w
theorem ws_continue : PS X (.Continue pos) (tS K C U wCont) := ps_imp ps_continue fun D σ H ⟨Z, sl, rt, ρ, fps, G, s, w, f⟩ => f.ct sl rt σ ρ fps G H s (Nx.refl _ _ _) (Pre.refl _) w

/-! ### names -/
theorem get_set {α : Type} {l : List α} {i j : Nat} {a b : α} (h : (l.set i a)[j]? = some b) : (i = j ∧ a = b) ∨ (i ≠ j ∧ l[j]? = some b) := by
  by_cases e : i = j
  · left
    subst e
    refine ⟨rfl, ?_⟩
    by_cases hl : i < l.length
    · rw [List.getElem?_set_self hl] at h
      exact Option.some.inj h
    · rw [List.getElem?_eq_none (by rw [List.length_set]; omega)] at h
      cases h
  · right
    rw [List.getElem?_set_ne e] at h
    exact ⟨e, h⟩
theorem St.set (s : St K C sl rt σ ρ fps G H) {i : Nat} {x : Val} {v : V} (h : VR K C G H ρ x v) : St K C (sl.set i (some x)) rt (σ.set i (some v)) ρ fps G H where
  toRSt := s.toRSt
  len := by rw [List.length_set, List.length_set, s.len]
  slot := fun j y e => by
    rcases get_set e with ⟨rfl, q⟩ | ⟨n, q⟩
    · cases q
      refine ⟨v, ?_, h⟩
      have hl : i < sl.length := by
        by_cases z : i < sl.length
        · exact z
        · rw [List.getElem?_eq_none (by rw [List.length_set]; omega)] at e
          cases e
      exact List.getElem?_set_self (by rw [s.len]; exact hl)
    · obtain ⟨w, h1, h2⟩ := s.slot j y q
      exact ⟨w, by rw [List.getElem?_set_ne n]; exact h1, h2⟩
def wAsg (i : Nat) (w : WE) : WS := fun Z sl rt => w ⟨sl, Z.ex⟩ rt fun x rt1 => Z.nx (sl.set i (some x)) rt1
theorem s_asg {i : Nat} {w : WE} : ∀ D σ H, tS K C U (wAsg i w) D σ H → tAsg (tE K C U w) (gName i) D σ H := fun D σ H ⟨Z, sl, rt, ρ, fps, G, s, w, f⟩ =>
  ⟨⟨sl, Z.ex⟩, rt, ρ, fps, G, _, s, f.xf, w, fun x rt1 fps1 G1 H1 v r1 n1 v1 w1 => f.nx _ _ _ ρ fps1 G1 H1 ((s.step r1 n1 fun _ _ e => e).set v1) n1 (Pre.refl _) w1⟩
def wNew (i : Nat) (w : WO) : WS := fun Z sl rt => w ⟨sl, Z.ex⟩ rt fun t rt1 => match t.strip with
  | .dat d => Z.nx (sl.set i (some (.dat d))) rt1
  | _ => Z.nx (sl.set i (some (.ref rt1.length []))) (rt1 ++ [t])
theorem RSt.app (s : RSt K C rt ρ fps G H) {t : T} {a : Addr} {fp : List Addr} (o : Own K C fps G H t (.ref a) fp) : RSt K C (rt ++ [t]) (ρ ++ [a]) (fps ++ [fp]) G H where
  sub := s.sub
  root := Rts.app o.tr s.root
  nd := by
    rw [List.flatten_append]
    simp only [List.flatten_cons, List.flatten_nil, List.append_nil]
    exact List.nodup_append.mpr ⟨s.nd, o.nd, fun x hx y hy z => o.ap y hy (by rw [← z]; exact hx)⟩
  fr := fun x hx => by
    rw [List.flatten_append] at hx
    simp only [List.flatten_cons, List.flatten_nil, List.append_nil] at hx
    rcases List.mem_append.mp hx with z | z
    · exact s.fr x z
    · exact o.fr x z
theorem St.new (s : St K C sl rt σ ρ fps G H) {i : Nat} {t : T} {v : V} {fp : List Addr} (o : Own K C fps G H t v fp) (n : ∀ d, t.strip ≠ .dat d) : ∃ a, v = .ref a ∧ St K C (sl.set i (some (.ref rt.length []))) (rt ++ [t]) (σ.set i (some v)) (ρ ++ [a]) (fps ++ [fp]) G H := by
  obtain ⟨a, rfl, hn⟩ := o.tr.nodeV n
  refine ⟨a, rfl, ?_⟩
  have r := s.toRSt.app o
  have s2 : St K C sl (rt ++ [t]) σ (ρ ++ [a]) (fps ++ [fp]) G H := s.step r (Nx.refl fps.flatten G H) (Pre.app ρ [a])
  refine s2.set ⟨a, ?_, rfl, ⟨a, rfl, hn⟩, rfl⟩
  rw [← (s.root.lens).1]
  simp
theorem new_flat {fp : List Addr} (n : Nx fps.flatten G H G' H' fps'.flatten) (new : ∀ a ∈ fp, a ∈ fps.flatten ∨ H a = none) : Nx fps.flatten G H G' H' (fps' ++ [fp]).flatten := ⟨n.g, n.keep, n.dom, fun l hl => by
    rw [List.flatten_append] at hl
    simp only [List.flatten_cons, List.flatten_nil, List.append_nil] at hl
    rcases List.mem_append.mp hl with z | z
    · exact n.new l z
    · exact new l z, n.idn⟩
theorem s_new {i : Nat} {w : WO} : ∀ D σ H, tS K C U (wNew i w) D σ H → tAsg (tO K C U w) (gName i) D σ H := fun D σ H ⟨Z, sl, rt, ρ, fps, G, s, w, f⟩ =>
  ⟨⟨sl, Z.ex⟩, rt, ρ, fps, G, _, s, f.xf, w, fun t rt1 fps1 fp G1 H1 v r1 n1 o1 new w1 => by
    have s1 := s.step r1 n1 fun _ _ e => e
    cases q : t.strip with
    | dat d =>
      rw [q] at w1
      have z := o1.tr.strip
      rw [q] at z
      cases z with
      | dat h => exact f.nx _ _ _ ρ fps1 G1 H1 (s1.set (x := .dat d) h) n1 (Pre.refl _) w1
    | lst ts =>
      rw [q] at w1
      obtain ⟨a, rfl, s2⟩ := s1.new (i := i) o1 (by rw [q]; intro d z; cases z)
      exact f.nx _ _ _ _ _ G1 H1 s2 (new_flat n1 new) (Pre.app ρ [a]) w1
    | obj c ts =>
      rw [q] at w1
      obtain ⟨a, rfl, s2⟩ := s1.new (i := i) o1 (by rw [q]; intro d z; cases z)
      exact f.nx _ _ _ _ _ G1 H1 s2 (new_flat n1 new) (Pre.app ρ [a]) w1
    | dct ks ts =>
      rw [q] at w1
      obtain ⟨a, rfl, s2⟩ := s1.new (i := i) o1 (by rw [q]; intro d z; cases z)
      exact f.nx _ _ _ _ _ G1 H1 s2 (new_flat n1 new) (Pre.app ρ [a]) w1
    | nm a t' => exact absurd q (T.strip_nm t)⟩
theorem ws_asg {i : Nat} {w : WE} (h : PS X st (tAsg (tE K C U w) (gName i))) : PS X st (tS K C U (wAsg i w)) := ps_imp h s_asg
theorem ws_new {i : Nat} {w : WO} (h : PS X st (tAsg (tO K C U w) (gName i))) : PS X st (tS K C U (wNew i w)) := ps_imp h s_new
/-- names bound by a target -/
abbrev Tg := D → Slots → (Slots → Prop) → Prop
def TgOk (K : PySem.W.Frag) (C : Cs) (g : TG) (tg : Tg) : Prop := ∀ d v sl rt σ ρ fps G H (k : Slots → Prop) (Q : L2.St → Hp → Prop), St K C sl rt σ ρ fps G H → DR K C G v d → tg d sl k → (∀ sl2 σ2, k sl2 → St K C sl2 rt σ2 ρ fps G H → Q σ2 H) → g v σ H Q
def tgName (j : Nat) : Tg := fun d sl k => k (sl.set j (some (.dat d)))
theorem tg_name {j : Nat} : TgOk K C (gName j) (tgName j) := fun d v sl rt σ ρ fps G H k Q s h w q => q _ _ w (s.set (x := .dat d) h)
def setAll : List Nat → List D → Slots → Slots
  | j :: js, d :: ds, sl => setAll js ds (sl.set j (some (.dat d)))
  | _, _, sl => sl
def gAll : List Nat → TGs
  | [] => gNil
  | j :: js => gCons (gName j) (gAll js)
theorem gall : ∀ {js : List Nat} {ds : List D} {vs : List V} {sl : Slots} {σ : L2.St} {Q : L2.St → Hp → Prop}, St K C sl rt σ ρ fps G H → DRs K C G vs ds → ds.length = js.length → (∀ σ2, St K C (setAll js ds sl) rt σ2 ρ fps G H → Q σ2 H) → gAll js vs σ H Q
  | [], [], _, sl, σ, Q, s, .nil, _, q => ⟨rfl, q σ s⟩
  | j :: js, d :: ds, _, sl, σ, Q, s, .cons h r, e, q => ⟨_, _, rfl, gall (s.set (x := .dat d) h) r (by simpa using e) q⟩
  | [], _ :: _, _, _, _, _, _, _, e, _ => by cases e
  | _ :: _, [], _, _, _, _, _, _, e, _ => by cases e
def tgTup (js : List Nat) : Tg := fun d sl k => match d with
  | .tup ds => ds.length = js.length ∧ k (setAll js ds sl)
  | .tpx ds => ds.length = js.length ∧ k (setAll js ds sl)
  | _ => False
theorem tg_tup {js : List Nat} {n : Nat} (hn : n = js.length) : TgOk K C (gTup K n (gAll js)) (tgTup js) := fun d v sl rt σ ρ fps G H k Q s h w q => by
  unfold tgTup at w
  split at w
  · cases h with
    | tup h2 r => exact ⟨_, _, rfl, ex_t s.sub h2, by rw [r.len, w.1, hn], gall s r w.1 fun σ2 s2 => q _ σ2 w.2 s2⟩
  · cases h with
    | tpx h2 _ r => exact ⟨_, _, rfl, ex_t s.sub (.inl (.inr ⟨_, h2⟩)), by rw [r.len, w.1, hn], gall s r w.1 fun σ2 s2 => q _ σ2 w.2 s2⟩
  · exact w.elim
def wAsgT (tg : Tg) (w : WE) : WS := fun Z sl rt => w ⟨sl, Z.ex⟩ rt fun x rt1 => match x with
  | .dat d => tg d sl fun sl2 => Z.nx sl2 rt1
  | _ => False
theorem s_asgT {g : TG} {tg : Tg} {w : WE} (hg : TgOk K C g tg) : ∀ D σ H, tS K C U (wAsgT tg w) D σ H → tAsg (tE K C U w) g D σ H := fun D σ H ⟨Z, sl, rt, ρ, fps, G, s, w, f⟩ =>
  ⟨⟨sl, Z.ex⟩, rt, ρ, fps, G, _, s, f.xf, w, fun x rt1 fps1 G1 H1 v r1 n1 v1 w1 => by
    cases x with
    | dat d => exact hg d v sl rt1 σ ρ fps1 G1 H1 _ _ (s.step r1 n1 fun _ _ e => e) v1 w1 fun sl2 σ2 h s2 => f.nx sl2 rt1 σ2 ρ fps1 G1 H1 s2 n1 (Pre.refl _) h
    | ref _ _ => exact w1.elim⟩
theorem ws_asgT {g : TG} {tg : Tg} {w : WE} (hg : TgOk K C g tg) (h : PS X st (tAsg (tE K C U w) g)) : PS X st (tS K C U (wAsgT tg w)) := ps_imp h (s_asgT hg)

/-! ### ends -/
def wRet (w : WE) : WS := fun Z sl rt => w ⟨sl, Z.ex⟩ rt fun x rt1 => Z.rt x rt1
def wRetO (w : WO) : WS := fun Z sl rt => w ⟨sl, Z.ex⟩ rt fun t rt1 => Z.ro t rt1
theorem ws_ret {w : WE} (h : PE X e (tE K C U w)) : PS X (.Return (some e) pos) (tS K C U (wRet w)) := ps_imp (ps_ret h) fun D σ H ⟨Z, sl, rt, ρ, fps, G, s, w, f⟩ =>
  ⟨⟨sl, Z.ex⟩, rt, ρ, fps, G, _, s, f.xf, w, fun x rt1 fps1 G1 H1 v r1 n1 v1 w1 => f.rt x rt1 ρ fps1 G1 H1 v r1 n1 (Pre.refl _) v1 w1⟩
theorem ws_retO {w : WO} (h : PE X e (tO K C U w)) : PS X (.Return (some e) pos) (tS K C U (wRetO w)) := ps_imp (ps_ret h) fun D σ H ⟨Z, sl, rt, ρ, fps, G, s, w, f⟩ =>
  ⟨⟨sl, Z.ex⟩, rt, ρ, fps, G, _, s, f.xf, w, fun t rt1 fps1 fp G1 H1 v r1 n1 o1 new w1 => f.ro t rt1 ρ fps1 fp G1 H1 v r1 n1 (Pre.refl _) o1 new w1⟩
def wRetN : WS := fun Z sl rt => Z.rt (.dat .non) rt
theorem ws_retN : PS X (.Return none pos) (tS K C U wRetN) := ps_imp ps_retN fun D σ H ⟨Z, sl, rt, ρ, fps, G, s, w, f⟩ => f.rt (.dat .non) rt ρ fps G H .non s.toRSt (Nx.refl _ _ _) (Pre.refl _) .non w
def wDrop (w : WE) : WS := fun Z sl rt => w ⟨sl, Z.ex⟩ rt fun _ rt1 => Z.nx sl rt1
theorem ws_expr {w : WE} (h : PE X e (tE K C U w)) (hs : swapsWith e none pos.line X.env = pure false := by rfl) : PS X (.Expr e pos) (tS K C U (wDrop w)) := ps_imp (ps_expr h hs) fun D σ H ⟨Z, sl, rt, ρ, fps, G, s, w, f⟩ =>
  ⟨⟨sl, Z.ex⟩, rt, ρ, fps, G, _, s, f.xf, w, fun x rt1 fps1 G1 H1 v r1 n1 v1 w1 => f.nx sl rt1 σ ρ fps1 G1 H1 (s.step r1 n1 fun _ _ e => e) n1 (Pre.refl _) w1⟩
def wIf (c : WT) (u v : WS) : WS := fun Z sl rt => c ⟨sl, Z.ex⟩ rt fun b rt1 => (b = true → u Z sl rt1) ∧ (b = false → v Z sl rt1)
theorem ws_if {cnd : Expr} {sa sb : List Stmt} {tc : WT} {u v : WS} (hc : PT X cnd (tT K C U tc)) (ha : PSs X sa (tS K C U u)) (hb : PSs X sb (tS K C U v)) : PS X (.If cnd sa sb pos) (tS K C U (wIf tc u v)) := ps_imp (ps_if hc ha hb) fun D σ H ⟨Z, sl, rt, ρ, fps, G, s, w, f⟩ =>
  ⟨⟨sl, Z.ex⟩, rt, ρ, fps, G, _, s, f.xf, w, fun b rt1 fps1 G1 H1 r1 n1 w1 => by
    have s1 := s.step r1 n1 fun _ _ e => e
    cases b with
    | true => exact ⟨Z, sl, rt1, ρ, fps1, G1, s1, w1.1 rfl, f.later n1 (Pre.refl _)⟩
    | false => exact ⟨Z, sl, rt1, ρ, fps1, G1, s1, w1.2 rfl, f.later n1 (Pre.refl _)⟩⟩
def wAug (i : Nat) (g : Int → Int → Int) (w : WE) : WS := fun Z sl rt => match sl[i]? with
  | some (some (.dat (.int m))) => w ⟨sl, Z.ex⟩ rt fun y rt1 => match y with
    | .dat (.int n) => Z.nx (sl.set i (some (.dat (.int (g m n))))) rt1
    | _ => False
  | _ => False
theorem s_aug {i : Nat} {g : Int → Int → Int} {w : WE} : ∀ D σ H, tS K C U (wAug i g w) D σ H → tAug i (tE K C U w) (ipI g) D σ H := fun D σ H ⟨Z, sl, rt, ρ, fps, G, s, w, f⟩ => by
  unfold wAug at w
  split at w
  · rename_i m e
    obtain ⟨v, h1, h2⟩ := s.slot i _ e
    cases h2
    refine ⟨_, h1, ⟨sl, Z.ex⟩, rt, ρ, fps, G, _, s, f.xf, w, fun y rt1 fps1 G1 H1 u r1 n1 v1 w1 => ?_⟩
    split at w1
    · cases v1
      exact ⟨m, _, rfl, rfl, f.nx _ _ _ ρ fps1 G1 H1 ((s.step r1 n1 fun _ _ e => e).set (x := .dat (.int _)) (DR.int _)) n1 (Pre.refl _) w1⟩
    · exact w1.elim
  · exact w.elim
theorem ws_aug {i : Nat} {g : Int → Int → Int} {w : WE} (h : PS X st (tAug i (tE K C U w) (ipI g))) : PS X st (tS K C U (wAug i g w)) := ps_imp h s_aug

/-! ### writing into what is owned -/
theorem idn_lst {b : Addr} {xs xs' : List V} (hb : H b = some (.lst xs)) (k : ∀ (i : Nat) x, xs[i]? = some x → False → xs'[i]? = some x) : Idn H (upd H b (.lst xs')) := by
  refine Idn.of (fun w hw => ?_)
  · obtain ⟨a, rfl, h⟩ := hw
    refine ⟨a, rfl, ?_⟩
    by_cases z : a = b
    · exact .inl ⟨xs', by rw [z, upd_same]⟩
    · rw [upd_ne z]
      exact h
/-- another content at a place -/
theorem RSt.write (s : RSt K C rt ρ fps G H) {r : Nat} {p : List Nat} {t t' : T} {a b : Addr} {o : HO} {fn : List Addr} (h : tat rt r p = some t) (ha : ρ[r]? = some a) (hf : fol H p (.ref a) = some (.ref b)) (nt : ∀ d, t ≠ .dat d)
    (idn : Idn H (upd H b o)) (hn : ∀ fu, TR K C G H (.ref b) t fu → b ∈ fu ∧ (fu.Nodup → (∀ x ∈ fn, x ∉ fu) → ∃ fu', TR K C G (upd H b o) (.ref b) t' fu' ∧ fu'.Perm (fu ++ fn)))
    (nd : fn.Nodup) (ap : ∀ x ∈ fn, x ∉ fps.flatten) (fr : ∀ x ∈ fn, G x = none) : ∃ fps', RSt K C (rt.modify r (T.put t' p)) ρ fps' G (upd H b o) ∧ (∀ x ∈ fps'.flatten, x ∈ fps.flatten ∨ x ∈ fn) ∧ b ∈ fps.flatten := by
  obtain ⟨w, L, fu, R, k1, k2, k3, k4⟩ := s.at h ha
  rw [hf] at k1
  cases k1
  obtain ⟨hb, hn⟩ := hn fu k2
  have nd0 := s.nd
  rw [k3] at nd0
  have nd1 := List.nodup_append.mp nd0
  have nd2 := List.nodup_append.mp nd1.2.1
  obtain ⟨fu', q1, q2⟩ := hn nd2.1 fun x hx z => ap x hx (by rw [k3]; simp [z])
  have hbF : b ∈ fps.flatten := by rw [k3]; simp [hb]
  obtain ⟨fps', y1, y2⟩ := k4 G (upd H b o) t' fu' (Ex.refl G) (fun x hx => upd_ne fun z => by
    subst z
    rcases List.mem_append.mp hx with y | y
    · exact nd1.2.2 x y x (by simp [hb]) rfl
    · exact nd2.2.2 x hb x y rfl) q1
  have mem : ∀ x ∈ fps'.flatten, x ∈ fps.flatten ∨ x ∈ fn := fun x hx => by
    rw [y2] at hx
    rw [k3]
    rcases List.mem_append.mp hx with y | y
    · exact .inl (by simp [y])
    · rcases List.mem_append.mp y with y | y
      · rcases List.mem_append.mp (q2.mem_iff.mp y) with y | y
        · exact .inl (by simp [y])
        · exact .inr y
      · exact .inl (by simp [y])
  refine ⟨fps', ⟨fun x u e => ?_, y1, ?_, fun x hx => ?_⟩, mem, hbF⟩
  · have : x ≠ b := fun z => by rw [z, s.fr b hbF] at e; cases e
    rw [upd_ne this]
    exact s.sub x u e
  · rw [y2]
    have pm : (L ++ (fu' ++ R)).Perm ((L ++ (fu ++ R)) ++ fn) := by
      have h1 : (fu' ++ R).Perm ((fu ++ R) ++ fn) := by
        have : (fu' ++ R).Perm ((fu ++ fn) ++ R) := List.Perm.append_right R q2
        refine this.trans ?_
        rw [List.append_assoc, List.append_assoc]
        exact List.Perm.append_left fu List.perm_append_comm
      have := List.Perm.append_left L h1
      rw [← List.append_assoc L] at this
      rw [List.append_assoc] 
      rw [List.append_assoc] at this
      exact this
    refine pm.nodup_iff.mpr ?_
    rw [← k3]
    exact List.nodup_append.mpr ⟨s.nd, nd, fun x hx y hy z => ap y hy (by rw [← z]; exact hx)⟩
  · rcases mem x hx with z | z
    · exact s.fr x z
    · exact fr x z
theorem Nx.write {b : Addr} {o : HO} {fp : List Addr} (hb : b ∈ fps.flatten) (hH : H b ≠ none) (idn : Idn H (upd H b o)) (mem : ∀ x ∈ fp, x ∈ fps.flatten ∨ x ∈ fps'.flatten) : Nx fps.flatten G H G (upd H b o) fps.flatten where
  g := Ex.refl G
  keep := fun l u h z => ⟨by rw [upd_ne fun y => z (by rw [y]; exact hb)]; exact h, fun g => g⟩
  dom := fun l h => upd_none h
  new := fun _ h => .inl h
  idn := idn
end
end Wv
end

section
set_option Elab.async false
set_option linter.all false
set_option maxRecDepth 100000
set_option maxHeartbeats 4000000
namespace Wv
open PySem PySem.Spec PyProof.Rows L2 Evl
section
variable {K : PySem.W.Frag} {C : Cs} {U : UX} {G H G' H' G1 H1 G2 H2 : Hp} {sl sl' : Slots} {rt rt' : Roots} {σ : L2.St} {ρ ρ' ρ1 : List Addr} {fps fps' fps1 : List (List Addr)}
variable {X : Cx} {a b c e : Expr} {es rest : List Expr} {wa wb wc : WE} {ta tb : WT} {pos p : Pos} {Z : WEnds} {E : Ends} {st : Stmt} {sts : List Stmt} {u z : WS}
theorem TRs.app : ∀ {ts : List T} {vs : List V} {fp : List Addr} {us : List T} {ws : List V} {fq : List Addr}, TRs K C G H vs ts fp → TRs K C G H ws us fq → TRs K C G H (vs ++ ws) (ts ++ us) (fp ++ fq)
  | _, _, _, _, _, _, .nil, h => h
  | _, _, _, _, _, _, .cons (fp := fp) (fq := fq) h r, h' => by
    rw [List.append_assoc]
    exact .cons h (TRs.app r h')
/-- xs.append(e) -/
def wApp (wx : WE) (w : WO) : WS := fun Z sl rt => wx ⟨sl, Z.ex⟩ rt fun x rt1 => match x with
  | .ref r p => match tat rt1 r p with
    | some (.lst _) => w ⟨sl, Z.ex⟩ rt1 fun t rt2 => match tat rt2 r p with
      | some (.lst ts) => ts.length < 40000 ∧ Z.nx sl (rt2.modify r (T.put (.lst (ts ++ [t])) p))
      | _ => False
    | _ => False
  | _ => False
theorem s_app {wx : WE} {w : WO} : ∀ D σ H, tS K C U (wApp wx w) D σ H → tDrop (tBM K "list" rAppend (tE K C U wx) (tCons (tO K C U w) tNil)) D σ H := fun D σ H ⟨Z, sl, rt, ρ, fps, G, s, w, f⟩ =>
  ⟨⟨sl, Z.ex⟩, rt, ρ, fps, G, _, s, f.xf, w, fun x rt1 fps1 G1 H1 v r1 n1 v1 w1 => by
    split at w1
    · rename_i r p
      split at w1
      · rename_i ts0 ht0
        obtain ⟨a, fu, k1, k2, k3, _⟩ := r1.get ht0 v1
        cases k3 with
        | @lst b xs0 _ fq0 hb0 tr0 =>
          refine ⟨.inl ⟨rfl, xs0, sq_of hb0⟩, ⟨sl, Z.ex⟩, rt1, ρ, fps1, G1, _, s.step r1 n1 fun _ _ e => e, f.xf.later n1 (Pre.refl _), w1, fun t rt2 fps2 fp G2 H2 y r2 n2 o2 new w2 => ?_⟩
          have v2 := v1.up n2 fun _ _ e => e
          split at w2
          · rename_i ts ht
            obtain ⟨a', fu, z1, z2, z3, _⟩ := r2.get ht v2
            cases z3 with
            | @lst _ xs _ fq hb tr =>
              have idn : Idn H2 (upd H2 b (.lst (xs ++ [y]))) := idn_lst hb fun i q hq _ => by
                rw [List.getElem?_append_left (List.getElem?_eq_some_iff.mp hq).1]
                exact hq
              have inH := o2.inH
              obtain ⟨fps3, r3, mem, hbF⟩ := r2.write (t' := .lst (ts ++ [t])) (fn := fp) ht z1 z2 (by intro d q; cases q) idn (fun fu hfu => by
                cases hfu with
                | @lst _ xs' _ fq' hb' tr' =>
                  rw [hb] at hb'
                  cases hb'
                  refine ⟨List.mem_cons_self, fun nd dis => ?_⟩
                  have nb := (List.nodup_cons.mp nd).1
                  refine ⟨b :: (fq' ++ (fp ++ [])), .lst upd_same (TRs.app (TRs.stay (Ex.refl _) _ _ _ tr' fun q hq => upd_ne fun z => nb (by rw [← z]; exact hq)) (.cons (TR.stay (Ex.refl _) _ _ _ o2.tr fun q hq => upd_ne fun z => dis q hq (by rw [z]; exact List.mem_cons_self)) .nil)), ?_⟩
                  rw [List.append_nil]
                  exact List.Perm.refl _) o2.nd o2.ap o2.fr
              refine ⟨b, xs, y, rfl, rfl, hb, sz_lt (by rw [TRs.len tr]; omega), ?_⟩
              have nW : Nx fps2.flatten G2 H2 G2 (upd H2 b (.lst (xs ++ [y]))) fps2.flatten := Nx.write (fps' := fps2) hbF (by rw [hb]; exact fun q => nomatch q) idn (fp := []) (fun _ q => nomatch q)
              have n3 := (n1.trans n2).trans nW
              have n4 : Nx fps.flatten G H G2 (upd H2 b (.lst (xs ++ [y]))) fps3.flatten := ⟨n3.g, n3.keep, n3.dom, fun l hl => by
                rcases mem l hl with q | q
                · exact n3.new l q
                · exact (new l q).elim (fun y => n1.new l y) fun y => .inr (n1.dom l y), n3.idn⟩
              exact f.nx sl _ σ ρ fps3 G2 _ (s.step r3 n4 fun _ _ e => e) n4 (Pre.refl _) w2.2
          · exact w2.elim
      · exact w1.elim
    · exact w1.elim⟩
theorem ws_app {wx : WE} {w : WO} (h : PS X st (tDrop (tBM K "list" rAppend (tE K C U wx) (tCons (tO K C U w) tNil)))) : PS X st (tS K C U (wApp wx w)) := ps_imp h s_app
/-- what may be overwritten -/
def leafT : T → Bool
  | .dat _ => true
  | _ => false
theorem leaf_ok {t : T} {v : V} {fu : List Addr} (h : leafT t = true) (r : TR K C G H v t fu) : (∃ d, t = .dat d) ∧ fu = [] ∧ ∀ H', Ex G H' → ¬ False := by
  cases r with
  | dat q => exact ⟨⟨_, rfl⟩, rfl, fun _ _ z => z⟩
  | _ => cases h
theorem TRs.set : ∀ {ts : List T} {vs : List V} {fp : List Addr} {j : Nat} {t : T} {v : V} {d : D}, TRs K C G H vs ts fp → ts[j]? = some t → leafT t = true → DR K C G v d → TRs K C G H (vs.set j v) (ts.set j (.dat d)) fp
  | _, _, _, _, _, _, _, .nil, e, _, _ => by simp at e
  | _, _, _, 0, _, _, _, .cons (fp := fp) (fq := fq) h r, e, l, d => by
    cases Option.some.inj e
    obtain ⟨_, hf, _⟩ := leaf_ok l h
    subst hf
    exact TRs.cons (fp := []) (.dat d) r
  | _, _, _, j + 1, _, _, _, .cons h r, e, l, d => .cons h (TRs.set (j := j) r e l d)
/-- xs[i] = e -/
def wSetI (w : WE) (wx wi : WE) : WS := fun Z sl rt => w ⟨sl, Z.ex⟩ rt fun y rt1 => wx ⟨sl, Z.ex⟩ rt1 fun x rt2 => wi ⟨sl, Z.ex⟩ rt2 fun n rt3 => match y with
  | .dat d => match x, n with
    | .ref r p, .dat (.int n) => match tat rt3 r p with
      | some (.lst ts) => ∃ j u, ixN ts.length n = some j ∧ ts[j]? = some u ∧ leafT u = true ∧ Z.nx sl (rt3.modify r (T.put (.lst (ts.set j (.dat d))) p))
      | _ => False
    | _, _ => False
  | _ => False
theorem s_setI {w wx wi : WE} : ∀ D σ H, tS K C U (wSetI w wx wi) D σ H → tAsg (tE K C U w) (gSub (tE K C U wx) (tE K C U wi) rSetL) D σ H := fun D σ H ⟨Z, sl, rt, ρ, fps, G, s, w, f⟩ =>
  ⟨⟨sl, Z.ex⟩, rt, ρ, fps, G, _, s, f.xf, w, fun y rt1 fps1 G1 H1 vy r1 n1 v1 w1 => ⟨⟨sl, Z.ex⟩, rt1, ρ, fps1, G1, _, s.step r1 n1 fun _ _ e => e, f.xf.later n1 (Pre.refl _), w1, fun x rt2 fps2 G2 H2 vx r2 n2 v2 w2 =>
    ⟨⟨sl, Z.ex⟩, rt2, ρ, fps2, G2, _, s.step r2 (n1.trans n2) fun _ _ e => e, f.xf.later (n1.trans n2) (Pre.refl _), w2, fun n rt3 fps3 G3 H3 vn r3 n3 v3 w3 => by
      split at w3
      · rename_i d
        split at w3
        · rename_i r p n
          split at w3
          · rename_i ts ht
            obtain ⟨j, u, hj, hu, hl, w3⟩ := w3
            have v2 := v2.up n3 fun _ _ e => e
            have v1 : DR K C G3 vy d := DR.up (n2.trans n3).g d vy v1
            cases v3
            obtain ⟨a, fu, z1, z2, z3, _⟩ := r3.get ht v2
            cases z3 with
            | @lst b xs _ fq hb tr =>
              obtain ⟨vo, fo, q1, q2, _⟩ := tr.get hu
              have idn : Idn H3 (upd H3 b (.lst (xs.set j vy))) := idn_lst hb fun i q hq nq => by
                by_cases z : j = i
                · subst z
                  rw [q1] at hq
                  cases hq
                  exact absurd nq ((leaf_ok hl q2).2.2 _ r3.sub)
                · rw [List.getElem?_set_ne z]
                  exact hq
              obtain ⟨fps4, r4, mem, hbF⟩ := r3.write (t' := .lst (ts.set j (.dat d))) (fn := []) ht z1 z2 (by intro d q; cases q) idn (fun fu hfu => by
                cases hfu with
                | @lst _ xs' _ fq' hb' tr' =>
                  rw [hb] at hb'
                  cases hb'
                  refine ⟨List.mem_cons_self, fun nd dis => ?_⟩
                  have nb := (List.nodup_cons.mp nd).1
                  refine ⟨b :: fq', .lst upd_same (TRs.set (TRs.stay (Ex.refl _) _ _ _ tr' fun q hq => upd_ne fun z => nb (by rw [← z]; exact hq)) hu hl v1), ?_⟩
                  rw [List.append_nil]) List.nodup_nil (fun _ q => nomatch q) (fun _ q => nomatch q)
              refine ⟨b, xs, n, j, rfl, rfl, hb, by rw [TRs.len tr]; exact hj, ?_⟩
              have nW : Nx fps3.flatten G3 H3 G3 (upd H3 b (.lst (xs.set j vy))) fps3.flatten := Nx.write (fps' := fps3) hbF (by rw [hb]; exact fun q => nomatch q) idn (fp := []) (fun _ q => nomatch q)
              have n4 := (n1.trans (n2.trans n3)).trans nW
              have n5 : Nx fps.flatten G H G3 (upd H3 b (.lst (xs.set j vy))) fps4.flatten := n4.less fun l hl => by
                rcases mem l hl with q | q
                · exact q
                · cases q
              exact f.nx sl _ σ ρ fps4 G3 _ (s.step r4 n5 fun _ _ e => e) n5 (Pre.refl _) w3
          · exact w3.elim
        · exact w3.elim
      · exact w3.elim⟩⟩⟩
theorem ws_setI {w wx wi : WE} (h : PS X st (tAsg (tE K C U w) (gSub (tE K C U wx) (tE K C U wi) rSetL))) : PS X st (tS K C U (wSetI w wx wi)) := ps_imp h s_setI

/-! ### forgetting -/
def Less (m : Nat) (sl' sl : Slots) : Prop := sl'.length = sl.length ∧ ∀ (i : Nat) x, sl'[i]? = some (some x) → sl[i]? = some (some x) ∧ ∀ r p, x = .ref r p → r < m
def Fg (n : Nat) (P : Slots → Roots → Prop) (sl : Slots) (rt : Roots) : Prop := P sl rt ∨ ∃ sl' m, n ≤ m ∧ Less m sl' sl ∧ P sl' (rt.take m)
theorem Rts.take : ∀ {rt : Roots} {ρ : List Addr} {fps : List (List Addr)} (m : Nat), Rts K C G H rt ρ fps → Rts K C G H (rt.take m) (ρ.take m) (fps.take m)
  | _, _, _, 0, _ => .nil
  | _, _, _, m + 1, .nil => .nil
  | _, _, _, m + 1, .cons h r => .cons h (Rts.take m r)
theorem flat_take (m : Nat) : ∀ a ∈ (fps.take m).flatten, a ∈ fps.flatten := fun a ha => by
  obtain ⟨l, h1, h2⟩ := List.mem_flatten.mp ha
  exact List.mem_flatten.mpr ⟨l, List.mem_of_mem_take h1, h2⟩
theorem RSt.take (s : RSt K C rt ρ fps G H) (m : Nat) : RSt K C (rt.take m) (ρ.take m) (fps.take m) G H :=
  ⟨s.sub, s.root.take m, by
    have h := s.nd
    rw [← List.take_append_drop m fps, List.flatten_append] at h
    exact (List.nodup_append.mp h).1, fun a ha => s.fr a (flat_take m a ha)⟩
theorem St.take (s : St K C sl rt σ ρ fps G H) {m : Nat} (l : Less m sl' sl) : St K C sl' (rt.take m) σ (ρ.take m) (fps.take m) G H where
  toRSt := s.toRSt.take m
  len := s.len.trans l.1.symm
  slot := fun i x e => by
    obtain ⟨h1, h2⟩ := l.2 i x e
    obtain ⟨v, k1, k2⟩ := s.slot i x h1
    refine ⟨v, k1, ?_⟩
    cases x with
    | dat d => exact k2
    | ref r p =>
      obtain ⟨a, q1, q2, q3⟩ := k2
      refine ⟨a, ?_, q2, q3⟩
      rw [List.getElem?_take_of_lt (h2 r p rfl)]
      exact q1
theorem Fg.back {n : Nat} {P : Slots → Roots → Prop} (h : Fg n P sl rt') (s : St K C sl rt' σ ρ' fps' G' H') (nx : Nx fps.flatten G H G' H' fps'.flatten) (pr : Pre ρ ρ') (hn : ρ.length ≤ n) : ∃ sl2 rt2 ρ2 fps2, St K C sl2 rt2 σ ρ2 fps2 G' H' ∧ Nx fps.flatten G H G' H' fps2.flatten ∧ Pre ρ ρ2 ∧ P sl2 rt2 := by
  rcases h with h | ⟨sl2, m, hm, l, h⟩
  · exact ⟨sl, rt', ρ', fps', s, nx, pr, h⟩
  · refine ⟨sl2, _, _, _, s.take l, nx.less (flat_take m), fun i a e => ?_, h⟩
    have hi : i < ρ.length := (List.getElem?_eq_some_iff.mp e).1
    rw [List.getElem?_take_of_lt (by omega)]
    exact pr i a e

/-! ### loops -/
def wWhile (c : WT) (body : WS) : WS := fun Z sl rt => ∃ I : Nat → Slots → Roots → Prop, (∃ m, I m sl rt) ∧ ∀ m sl' rt', I m sl' rt' → c ⟨sl', Z.ex⟩ rt' fun b rt1 =>
  (b = true → body { Z with nx := Fg rt.length (fun s r => ∃ m', m' < m ∧ I m' s r), ct := Fg rt.length (fun s r => ∃ m', m' < m ∧ I m' s r), bk := Z.nx } sl' rt1) ∧ (b = false → Z.nx sl' rt1)
theorem s_while {c : WT} {body : WS} : ∀ D σ H, tS K C U (wWhile c body) D σ H → tWhile (tT K C U c) (tS K C U body) D σ H := fun D σ H ⟨Z, sl, rt, ρ, fps, G, s, ⟨I, ⟨m0, i0⟩, w⟩, f⟩ => by
  have hl : ρ.length = rt.length := s.root.lens.1
  refine ⟨fun m σ' H' => ∃ sl' rt' ρ' fps' G', I m sl' rt' ∧ St K C sl' rt' σ' ρ' fps' G' H' ∧ Nx fps.flatten G H G' H' fps'.flatten ∧ Pre ρ ρ', ⟨m0, sl, rt, ρ, fps, G, i0, s, Nx.refl _ _ _, Pre.refl _⟩, fun m σ' H' ⟨sl', rt', ρ', fps', G', hi, s', n', p'⟩ => ?_⟩
  refine ⟨⟨sl', Z.ex⟩, rt', ρ', fps', G', _, s', f.xf.later n' p', w m sl' rt' hi, fun b rt1 fps1 G1 H1 r1 n1 w1 => ?_⟩
  have s1 := s'.step r1 n1 fun _ _ e => e
  cases b with
  | true =>
    refine ⟨fun σ2 H2 => ∃ sl2 rt2 ρ2 fps2 G2, (∃ m', m' < m ∧ I m' sl2 rt2) ∧ St K C sl2 rt2 σ2 ρ2 fps2 G2 H2 ∧ Nx fps.flatten G H G2 H2 fps2.flatten ∧ Pre ρ ρ2, fun σ2 H2 ⟨sl2, rt2, ρ2, fps2, G2, ⟨m', h1, h2⟩, q⟩ => ⟨m', h1, sl2, rt2, ρ2, fps2, G2, h2, q⟩, ?_⟩
    refine ⟨_, sl', rt1, ρ', fps1, G1, s1, w1.1 rfl, ⟨?_, ?_, ?_, ?_, ?_, f.xf.later (n'.trans n1) p'⟩⟩
    · intro sl2 rt2 σ2 ρ2 fps2 G2 H2 s2 n2 p2 h
      have h : Fg rt.length (fun s r => ∃ m', m' < m ∧ I m' s r) sl2 rt2 := h
      obtain ⟨sl3, rt3, ρ3, fps3, s3, n3, p3, h3⟩ := Fg.back (ρ := ρ) (n := rt.length) h s2 ((n'.trans n1).trans n2) (p'.trans p2) (by omega)
      exact ⟨sl3, rt3, ρ3, fps3, G2, h3, s3, n3, p3⟩
    · exact (f.later (n'.trans n1) p').rt
    · exact (f.later (n'.trans n1) p').ro
    · exact (f.later (n'.trans n1) p').nx
    · intro sl2 rt2 σ2 ρ2 fps2 G2 H2 s2 n2 p2 h
      have h : Fg rt.length (fun s r => ∃ m', m' < m ∧ I m' s r) sl2 rt2 := h
      obtain ⟨sl3, rt3, ρ3, fps3, s3, n3, p3, h3⟩ := Fg.back (ρ := ρ) (n := rt.length) h s2 ((n'.trans n1).trans n2) (p'.trans p2) (by omega)
      exact ⟨sl3, rt3, ρ3, fps3, G2, h3, s3, n3, p3⟩
  | false => exact f.nx sl' rt1 σ' ρ' fps1 G1 H1 s1 (n'.trans n1) p' (w1.2 rfl)
theorem ws_while {cnd : Expr} {body : List Stmt} {tc : WT} {wb : WS} (hp : PassesOwn (model X.prog X.w) X.A X.env X.xe) (hc : PT X cnd (tT K C U tc)) (hb : PSs X body (tS K C U wb)) : PS X (.While cnd body [] pos) (tS K C U (wWhile tc wb)) := ps_imp (ps_while hp hc hb) s_while

/-! ### what is walked -/
abbrev WI := Cxt → Roots → (List D → Roots → Prop) → Prop
/-- the turn's value bears its datum; perhaps in a new tuple -/
def YD (K : PySem.W.Frag) (C : Cs) (G : Hp) (d : D) (H2 : Hp) (v : V) (H3 : Hp) : Prop := (H3 = H2 ∧ DR K C G v d) ∨ ∃ p xs ds, H2 p = none ∧ H3 = upd H2 p (.tup xs) ∧ v = .ref p ∧ d = .tup ds ∧ DRs K C G xs ds
variable (K C)
variable (U)
def tI (w : WI) : TI := fun σ H R => ∃ sl rt ρ fps G k, St K C sl.sl rt σ ρ fps G H ∧ Xf K C U ρ fps G H sl.ex ∧ w sl rt k ∧ ∀ ds rt' fps' G' H' J, RSt K C rt' ρ fps' G' H' → Nx fps.flatten G H G' H' fps'.flatten →
  (∃ Gd Y, Walk J ds.length Gd Y ∧ (∀ H2, Ex G' H2 → Gd H2) ∧ ∀ i d H2 v H3, ds[i]? = some d → Ex G' H2 → Y i H2 v H3 → YD K C G' d H2 v H3) → k ds rt' → R J H'
variable {K C}
variable {U}
theorem pi_imp {tg it : Expr} {t t' : TI} (h : PI X tg it t) (i : ∀ σ H Q, t' σ H Q → t σ H Q) : PI X tg it t' := ⟨fun pins s σ H R I q => h.run pins s σ H R I (i σ H R q)⟩
/-- range(n), range(a, b) -/
def wRng1 (w : WA) : WI := fun sl rt k => w sl rt fun xs rt1 => match xs with
  | [.dat (.int n)] => n ≤ 100000 ∧ -100000 ≤ n ∧ k ((List.range n.toNat).map fun i => .int (i : Nat)) rt1
  | _ => False
def wRng2 (w : WA) : WI := fun sl rt k => w sl rt fun xs rt1 => match xs with
  | [.dat (.int a), .dat (.int b)] => (-100000000 ≤ a ∧ a ≤ 100000000) ∧ (-100000000 ≤ b ∧ b ≤ 100000000) ∧ k ((List.range (b - a).toNat).map fun i => .int (a + (i : Nat))) rt1
  | _ => False
theorem i_rng1 {w : WA} : ∀ σ H Q, tI K C U (wRng1 w) σ H Q → iRng1 (tA K C U w) σ H Q := fun σ H Q ⟨sl, rt, ρ, fps, G, k, s, xf, w, q⟩ =>
  ⟨sl, rt, ρ, fps, G, _, s, xf, w, fun xs rt1 fps1 G1 H1 vs r1 n1 v1 w1 => by
    split at w1
    · cases v1 with
      | cons h r =>
        cases r
        cases h
        rename_i n
        refine ⟨n, rfl, by omega, by omega, q _ rt1 fps1 G1 H1 _ r1 n1 ⟨fun _ => True, YFn fun i => .int ((0 : Int) + (i : Nat)), ?_, fun _ _ => trivial, fun i d H2 v H3 hd _ y => ?_⟩ w1.2.2⟩
        · rw [List.length_map, List.length_range]
          exact walk_range
        · obtain ⟨y1, y2⟩ := y
          rw [List.getElem?_map] at hd
          by_cases hi : i < n.toNat
          · rw [List.getElem?_range hi] at hd
            cases hd
            subst y2
            refine .inl ⟨y1, ?_⟩
            have : (0 : Int) + (i : Nat) = (i : Nat) := Int.zero_add _
            show DR K C G1 (.int ((0 : Int) + (i : Nat))) (.int (i : Nat))
            rw [this]
            exact .int _
          · rw [List.getElem?_eq_none (by rw [List.length_range]; omega)] at hd
            cases hd
    · exact w1.elim⟩
theorem i_rng2 {w : WA} : ∀ σ H Q, tI K C U (wRng2 w) σ H Q → iRng2 (tA K C U w) σ H Q := fun σ H Q ⟨sl, rt, ρ, fps, G, k, s, xf, w, q⟩ =>
  ⟨sl, rt, ρ, fps, G, _, s, xf, w, fun xs rt1 fps1 G1 H1 vs r1 n1 v1 w1 => by
    split at w1
    · rename_i a b
      cases v1 with
      | cons h r =>
        cases r with
        | cons h2 r =>
        cases r
        cases h
        cases h2
        refine ⟨a, b, rfl, by omega, q _ rt1 fps1 G1 H1 _ r1 n1 ⟨fun _ => True, YFn fun i => .int (a + (i : Nat)), ?_, fun _ _ => trivial, fun i d H2 v H3 hd _ y => ?_⟩ w1.2.2⟩
        · rw [List.length_map, List.length_range]
          exact walk_range
        · obtain ⟨y1, y2⟩ := y
          rw [List.getElem?_map] at hd
          by_cases hi : i < (b - a).toNat
          · rw [List.getElem?_range hi] at hd
            cases hd
            subst y2
            exact .inl ⟨y1, .int _⟩
          · rw [List.getElem?_eq_none (by rw [List.length_range]; omega)] at hd
            cases hd
    · exact w1.elim⟩
theorem wi_rng1 {tg e : Expr} {w : WA} (h : PI X tg e (iRng1 (tA K C U w))) : PI X tg e (tI K C U (wRng1 w)) := pi_imp h i_rng1
theorem wi_rng2 {tg e : Expr} {w : WA} (h : PI X tg e (iRng2 (tA K C U w))) : PI X tg e (tI K C U (wRng2 w)) := pi_imp h i_rng2
/-- a list, a tuple, of data -/
def wItL (w : WE) : WI := fun sl rt k => w sl rt fun x rt1 => match x with
  | .dat (.lst ds) => k ds rt1
  | .dat (.ro ds) => k ds rt1
  | _ => False
def wItT (w : WE) : WI := fun sl rt k => w sl rt fun x rt1 => match x with
  | .dat (.tup ds) => k ds rt1
  | _ => False
theorem i_lst {w : WE} : ∀ σ H Q, tI K C U (wItL w) σ H Q → iList K (tE K C U w) σ H Q := fun σ H Q ⟨sl, rt, ρ, fps, G, k, s, xf, w, q⟩ =>
  ⟨sl, rt, ρ, fps, G, _, s, xf, w, fun x rt1 fps1 G1 H1 v r1 n1 v1 w1 => by
    have main : ∀ a xs ds, SqL K G1 a xs → DRs K C G1 xs ds → k ds rt1 → v = .ref a → ∃ a, v = .ref a ∧ (∃ xs, SqL K H1 a xs) ∧ Q (Itl K a) H1 := fun a xs ds h2 r hk e => by
      refine ⟨a, e, ⟨xs, ex_l r1.sub h2⟩, q ds rt1 fps1 G1 H1 _ r1 n1 ⟨fun H => SqL K H a xs, YAt xs, by rw [← r.len]; exact walk_list, fun H2 e2 => ex_l e2 h2, fun i d H2 v H3 hd _ y => ?_⟩ hk⟩
      obtain ⟨y1, y2⟩ := y
      obtain ⟨w, h3, h4⟩ := r.get hd
      rw [h3] at y2
      cases y2
      exact .inl ⟨y1, h4⟩
    split at w1
    · cases v1 with
      | lst h r => exact main _ _ _ (sq_of h) r w1 rfl
    · cases v1 with
      | ro h r => exact main _ _ _ h r w1 rfl
    · exact w1.elim⟩
theorem i_tup {w : WE} : ∀ σ H Q, tI K C U (wItT w) σ H Q → iTup K (tE K C U w) σ H Q := fun σ H Q ⟨sl, rt, ρ, fps, G, k, s, xf, w, q⟩ =>
  ⟨sl, rt, ρ, fps, G, _, s, xf, w, fun x rt1 fps1 G1 H1 v r1 n1 v1 w1 => by
    split at w1
    · cases v1 with
      | @tup a xs _ h2 r =>
        refine ⟨_, rfl, ⟨_, ex_t r1.sub h2⟩, q _ rt1 fps1 G1 H1 _ r1 n1 ⟨fun H => SqT K H a xs, YAt xs, by rw [← r.len]; exact walk_tup, fun H2 e2 => ex_t e2 h2, fun i d H2 v H3 hd _ y => ?_⟩ w1⟩
        obtain ⟨y1, y2⟩ := y
        obtain ⟨w, h3, h4⟩ := r.get hd
        rw [h3] at y2
        cases y2
        exact .inl ⟨y1, h4⟩
    · exact w1.elim⟩
theorem wi_list {tg e : Expr} {w : WE} (h : PE X e (tE X.K C U w)) : PI X tg e (tI X.K C U (wItL w)) := pi_imp (pi_list h) i_lst
theorem wi_tup {tg e : Expr} {w : WE} (h : PE X e (tE X.K C U w)) : PI X tg e (tI X.K C U (wItT w)) := pi_imp (pi_tup h) i_tup
/-- a turn's value: as data of a larger heap -/
theorem YD.step {d : D} {v : V} {H3 : Hp} (y : YD K C G d H v H3) (s : St K C sl rt σ ρ fps G' H) (e : Ex G G') : ∃ G3, St K C sl rt σ ρ fps G3 H3 ∧ Nx fps.flatten G' H G3 H3 fps.flatten ∧ DR K C G3 v d := by
  rcases y with ⟨rfl, h⟩ | ⟨p, xs, ds, hp, rfl, rfl, rfl, r⟩
  · exact ⟨G', s, Nx.refl _ _ _, DR.up e _ _ h⟩
  · have n := Nx.laid (o := .tup xs) s.sub hp fps.flatten
    exact ⟨_, s.step (s.toRSt.laid hp) n fun _ _ e => e, n, .tup (st_of upd_same) (DRs.up (e.trans (Ex.new (fresh_back s.sub hp))) _ _ r)⟩
def wFor (it : WI) (tg : Tg) (body : WS) : WS := fun Z sl rt => it ⟨sl, Z.ex⟩ rt fun ds rt1 => ∃ I : Nat → Slots → Roots → Prop, I 0 sl rt1 ∧
  (∀ i d sl' rt', ds[i]? = some d → I i sl' rt' → tg d sl' fun sl2 => body { Z with nx := Fg rt.length (I (i + 1)), ct := Fg rt.length (I (i + 1)), bk := Z.nx } sl2 rt') ∧ ∀ sl' rt', I ds.length sl' rt' → Z.nx sl' rt'
theorem s_for {it : WI} {g : TG} {tg : Tg} {body : WS} (hg : TgOk K C g tg) : ∀ D σ H, tS K C U (wFor it tg body) D σ H → tFor (tI K C U it) g (tS K C U body) D σ H := fun D σ H ⟨Z, sl, rt, ρ, fps, G, s, w, f⟩ =>
  ⟨⟨sl, Z.ex⟩, rt, ρ, fps, G, _, s, f.xf, w, fun ds rt1 fps1 G1 H1 J r1 n1 ⟨Gd, Y, wk, hGd, hY⟩ ⟨I, i0, it, fin⟩ => by
    have hl : ρ.length = rt.length := s.root.lens.1
    refine for_it wk (fun i σ' H' => ∃ sl' rt' ρ' fps' G', I i sl' rt' ∧ St K C sl' rt' σ' ρ' fps' G' H' ∧ Nx fps.flatten G H G' H' fps'.flatten ∧ Pre ρ ρ' ∧ Ex G1 G') ⟨sl, rt1, ρ, fps1, G1, i0, s.step r1 n1 fun _ _ e => e, n1, Pre.refl _, Ex.refl _⟩ (fun i σ' H' _ ⟨sl', rt', ρ', fps', G', _, s', _, _, e'⟩ => hGd H' (e'.trans s'.sub)) (fun i v σ' H' H3 hi ⟨sl', rt', ρ', fps', G', hI, s', n', p', e'⟩ y => ?_) fun σ' H' ⟨sl', rt', ρ', fps', G', hI, s', n', p', _⟩ => f.nx sl' rt' σ' ρ' fps' G' H' s' n' p' (fin sl' rt' hI)
    have hd : ds[i]? = some ds[i] := List.getElem?_eq_getElem hi
    obtain ⟨G3, s3, n3, d3⟩ := YD.step (hY i _ H' v H3 hd (e'.trans s'.sub) y) s' e'
    refine hg _ v sl' rt' σ' ρ' fps' G3 H3 _ _ s3 d3 (it i _ sl' rt' hd hI) fun sl2 σ2 hb s2 => ?_
    refine ⟨_, sl2, rt', ρ', fps', G3, s2, hb, ⟨?_, ?_, ?_, ?_, ?_, f.xf.later (n'.trans n3) p'⟩⟩
    · intro sl4 rt4 σ4 ρ4 fps4 G4 H4 s4 n4 p4 h
      obtain ⟨sl5, rt5, ρ5, fps5, s5, n5, p5, h5⟩ := Fg.back (ρ := ρ) (n := rt.length) h s4 ((n'.trans n3).trans n4) (p'.trans p4) (by omega)
      exact ⟨sl5, rt5, ρ5, fps5, G4, h5, s5, n5, p5, e'.trans (n3.g.trans n4.g)⟩
    · exact (f.later (n'.trans n3) p').rt
    · exact (f.later (n'.trans n3) p').ro
    · exact (f.later (n'.trans n3) p').nx
    · intro sl4 rt4 σ4 ρ4 fps4 G4 H4 s4 n4 p4 h
      obtain ⟨sl5, rt5, ρ5, fps5, s5, n5, p5, h5⟩ := Fg.back (ρ := ρ) (n := rt.length) h s4 ((n'.trans n3).trans n4) (p'.trans p4) (by omega)
      exact ⟨sl5, rt5, ρ5, fps5, G4, h5, s5, n5, p5, e'.trans (n3.g.trans n4.g)⟩⟩
theorem ws_for {it : WI} {g : TG} {tg : Tg} {wb : WS} (hg : TgOk K C g tg) (h : PS X st (tFor (tI K C U it) g (tS K C U wb))) : PS X st (tS K C U (wFor it tg wb)) := ps_imp h (s_for hg)
end
end Wv
end

section
set_option Elab.async false
set_option linter.all false
set_option maxRecDepth 100000
set_option maxHeartbeats 4000000
namespace Wv
open PySem PySem.Spec PyProof.Rows L2 Evl
section
variable {K : PySem.W.Frag} {C : Cs} {U : UX} {G H G' H' G1 H1 G2 H2 : Hp} {sl sl' : Slots} {rt rt' : Roots} {σ : L2.St} {ρ ρ' ρ1 : List Addr} {fps fps' fps1 : List (List Addr)}

/-! ### places handed to a callee -/
abbrev Pl := Nat × List Nat
/-- the roots of these values, each once -/
def rdd : List Nat → List Val → List Nat
  | rs, [] => rs
  | rs, .dat _ :: xs => rdd rs xs
  | rs, .ref r _ :: xs => rdd (if rs.contains r then rs else rs ++ [r]) xs
def plc (xs : List Val) : List Pl := (rdd [] xs).map fun r => (r, [])
/-- the values as the callee sees them: its roots are these -/
def renV (rs : List Nat) : Val → Val
  | .dat d => .dat d
  | .ref r p => .ref (rs.idxOf r) p
def ren (xs : List Val) : List Val := xs.map (renV (rdd [] xs))
def getR (rt : Roots) : List Pl → Option (List T)
  | [] => some []
  | (r, p) :: ps => match tatN rt r p, getR rt ps with
    | some t, some ts => some (t :: ts)
    | _, _ => none
def putR (rt : Roots) : List Pl → List T → Roots
  | (r, p) :: ps, t :: ts => (putR rt ps ts).modify r (T.put t p)
  | _, _ => rt
def dst : List Pl → Bool
  | [] => true
  | (r, _) :: ps => ps.all (fun q => r != q.1) && dst ps
theorem mod_get {α : Type} (l : List α) (r : Nat) (f : α → α) (i : Nat) : (l.modify r f)[i]? = if r = i then (l[i]?).map f else l[i]? := by
  rw [List.getElem?_modify]
  split <;> simp_all
theorem over_over (f g h : T → T) : ∀ t : T, (∀ u, T.over f (g u) = h u) → T.over f (T.over g t) = T.over h t
  | .dat d, e => e _
  | .lst _, e => e _
  | .obj _ _, e => e _
  | .dct _ _, e => e _
  | .nm a t, e => congrArg (T.nm a) (over_over f g h t e)
theorem over_strip (f : T → T) (u : T) : T.over f u.strip = f u.strip := by
  cases q : u.strip with
  | dat d => rfl
  | lst ts => rfl
  | obj c ts => rfl
  | dct ks ts => rfl
  | nm a t => exact absurd q (T.strip_nm u)
theorem over_ext (f g : T → T) : ∀ t : T, (∀ d, f (.dat d) = g (.dat d)) → (∀ ts, f (.lst ts) = g (.lst ts)) → (∀ c ts, f (.obj c ts) = g (.obj c ts)) → (∀ ks ts, f (.dct ks ts) = g (.dct ks ts)) → T.over f t = T.over g t
  | .dat d, h, _, _, _ => h d
  | .lst ts, _, h, _, _ => h ts
  | .obj c ts, _, _, h, _ => h c ts
  | .dct c ts, _, _, _, h => h c ts
  | .nm a t, h1, h2, h3, h4 => congrArg (T.nm a) (over_ext f g t h1 h2 h3 h4)
theorem put_put (u v : T) : ∀ (p : List Nat) (t : T), T.put u p (T.put v p t) = T.put u p t
  | [], t => over_over _ _ _ t fun _ => over_strip _ v
  | i :: p, .nm a t => congrArg (T.nm a) (put_put u v (i :: p) t)
  | i :: p, .dat d => by simp [T.put, T.over, T.kids]
  | i :: p, .lst ts => by
    cases q : ts[i]? with
    | none => simp [T.put, T.over, T.kids, q]
    | some x =>
      have hi' : i < ts.length := (List.getElem?_eq_some_iff.mp q).1
      simp only [T.put, T.over, T.kids, q, T.withKids]
      rw [List.getElem?_set_self hi']
      simp only [put_put u v p x, List.set_set]
  | i :: p, .obj c ts => by
    cases q : ts[i]? with
    | none => simp [T.put, T.over, T.kids, q]
    | some x =>
      have hi' : i < ts.length := (List.getElem?_eq_some_iff.mp q).1
      simp only [T.put, T.over, T.kids, q, T.withKids]
      rw [List.getElem?_set_self hi']
      simp only [put_put u v p x, List.set_set]
  | i :: p, .dct c ts => by
    cases q : ts[i]? with
    | none => simp [T.put, T.over, T.kids, q]
    | some x =>
      have hi' : i < ts.length := (List.getElem?_eq_some_iff.mp q).1
      simp only [T.put, T.over, T.kids, q, T.withKids]
      rw [List.getElem?_set_self hi']
      simp only [put_put u v p x, List.set_set]
theorem tat_mod (rt : Roots) (r : Nat) (f : T → T) (i : Nat) (p : List Nat) (h : r ≠ i) : tatN (rt.modify r f) i p = tatN rt i p := by
  unfold tatN
  rw [mod_get, if_neg h]
theorem getR_mod (rt : Roots) (r : Nat) (f : T → T) : ∀ ps : List Pl, (ps.all fun q => r != q.1) = true → getR (rt.modify r f) ps = getR rt ps
  | [], _ => rfl
  | (i, p) :: ps, h => by
    simp only [List.all_cons, Bool.and_eq_true] at h
    have h1 : r ≠ i := bne_iff_ne.mp h.1
    show (match tatN (rt.modify r f) i p, getR (rt.modify r f) ps with | some t, some ts => some (t :: ts) | _, _ => none) = _
    rw [tat_mod rt r f i p h1, getR_mod rt r f ps h.2]
    rfl
theorem putR_mod (rt : Roots) (r : Nat) (f : T → T) : ∀ (ps : List Pl) (ts : List T), (ps.all fun q => r != q.1) = true → putR (rt.modify r f) ps ts = (putR rt ps ts).modify r f
  | [], _, _ => by simp [putR]
  | _ :: _, [], _ => by simp [putR]
  | (i, p) :: ps, t :: ts, h => by
    simp only [List.all_cons, Bool.and_eq_true] at h
    have h1 : r ≠ i := bne_iff_ne.mp h.1
    show (putR (rt.modify r f) ps ts).modify i (T.put t p) = ((putR rt ps ts).modify i (T.put t p)).modify r f
    rw [putR_mod rt r f ps ts h.2]
    refine List.ext_getElem? fun j => ?_
    simp only [mod_get]
    by_cases e1 : i = j
    · by_cases e2 : r = j
      · exact absurd (e2.trans e1.symm) h1
      · simp [e1, e2]
    · by_cases e2 : r = j <;> simp [e1, e2]
theorem putR_at (rt : Roots) (r : Nat) : ∀ (ps : List Pl) (ts : List T), (ps.all fun q => r != q.1) = true → (putR rt ps ts)[r]? = rt[r]?
  | [], _, _ => by simp [putR]
  | _ :: _, [], _ => by simp [putR]
  | (i, p) :: ps, t :: ts, h => by
    simp only [List.all_cons, Bool.and_eq_true] at h
    have h1 : r ≠ i := bne_iff_ne.mp h.1
    show ((putR rt ps ts).modify i (T.put t p))[r]? = _
    rw [mod_get, if_neg fun z => h1 z.symm]
    exact putR_at rt r ps ts h.2
theorem Rts.at (s : Rts K C G H rt ρ fps) {r : Nat} {p : List Nat} {t : T} {a : Addr} (h : tatN rt r p = some t) (ha : ρ[r]? = some a) : ∃ w L fu R, fol H p (.ref a) = some w ∧ TR K C G H w t fu ∧ fps.flatten = L ++ (fu ++ R) ∧
    ∀ (G' H' : Hp) (t' : T) (fu' : List Addr), Ex G G' → (∀ a ∈ L ++ R, H' a = H a) → TR K C G' H' w t' fu' → ∃ fps', Rts K C G' H' (rt.modify r (T.put t' p)) ρ fps' ∧ fps'.flatten = L ++ (fu' ++ R) := by
  unfold tatN at h
  cases q : rt[r]? with
  | none => rw [q] at h; cases h
  | some u =>
    rw [q] at h
    obtain ⟨b, L, fu, R, h1, h2, h3, h4⟩ := s.split q
    rw [ha] at h1
    cases h1
    obtain ⟨w, L2, fu2, R2, k1, k2, k3, k4⟩ := h2.node h
    refine ⟨w, L ++ L2, fu2, R2 ++ R, k1, k2, by rw [h3, k3]; simp, fun G' H' t' fu' eg st h' => ?_⟩
    have e : rt.modify r (T.put t' p) = rt.set r (T.put t' p u) := by
      refine List.ext_getElem? fun i => ?_
      rw [mod_get, List.getElem?_set]
      by_cases z : r = i
      · subst z
        have := (List.getElem?_eq_some_iff.mp q).1
        have e2 : rt[r] = u := by rw [List.getElem?_eq_getElem this] at q; exact Option.some.inj q
        simp [this, e2]
      · simp [z]
    rw [e]
    obtain ⟨fps', y1, y2⟩ := h4 G' H' (T.put t' p u) (L2 ++ (fu' ++ R2)) eg (fun b hb => st b (by rcases List.mem_append.mp hb with y | y <;> simp [y])) (k4 G' H' t' fu' eg (fun b hb => st b (by rcases List.mem_append.mp hb with y | y <;> simp [y])) h')
    exact ⟨fps', y1, by rw [y2]; simp⟩
theorem over_any : ∀ t : T, (T.over (fun _ => (T.dat .any).strip) t).strip = .dat .any
  | .dat _ => rfl
  | .lst _ => rfl
  | .obj _ _ => rfl
  | .dct _ _ => rfl
  | .nm _ t => over_any t
theorem put_at : ∀ (p : List Nat) (u0 t : T), T.at p u0 = some t → ∃ X, T.at p (T.put (.dat .any) p u0) = some X ∧ X.strip = .dat .any
  | [], u0, _, _ => ⟨_, rfl, over_any u0⟩
  | i :: p, .nm a t0, t, h => put_at (i :: p) t0 t h
  | i :: p, .dat d, t, h => by simp [T.at, T.kids] at h
  | i :: p, .lst ts, t, h => by
    cases q : ts[i]? with
    | none => simp [T.at, T.kids, q] at h
    | some x =>
      have hx : T.at p x = some t := by simpa [T.at, T.kids, q] using h
      have hi' : i < ts.length := (List.getElem?_eq_some_iff.mp q).1
      simp only [T.put, T.over, T.kids, q, T.withKids, T.at]
      rw [List.getElem?_set_self hi']
      exact put_at p x t hx
  | i :: p, .obj c ts, t, h => by
    cases q : ts[i]? with
    | none => simp [T.at, T.kids, q] at h
    | some x =>
      have hx : T.at p x = some t := by simpa [T.at, T.kids, q] using h
      have hi' : i < ts.length := (List.getElem?_eq_some_iff.mp q).1
      simp only [T.put, T.over, T.kids, q, T.withKids, T.at]
      rw [List.getElem?_set_self hi']
      exact put_at p x t hx
  | i :: p, .dct c ts, t, h => by
    cases q : ts[i]? with
    | none => simp [T.at, T.kids, q] at h
    | some x =>
      have hx : T.at p x = some t := by simpa [T.at, T.kids, q] using h
      have hi' : i < ts.length := (List.getElem?_eq_some_iff.mp q).1
      simp only [T.put, T.over, T.kids, q, T.withKids, T.at]
      rw [List.getElem?_set_self hi']
      exact put_at p x t hx
/-- the trees at these places, taken out and put back -/
theorem Rts.borrow : ∀ {ps : List Pl} {rt : Roots} {fps : List (List Addr)} {ts : List T} {bs : List Addr}, Rts K C G H rt ρ fps → dst ps = true → getR rt ps = some ts → Paired (fun (q : Pl) b => ∃ a, ρ[q.1]? = some a ∧ fol H q.2 (.ref a) = some (.ref b) ∧ NodeV H (.ref b) ∧ q.2 = []) ps bs →
    ∃ fpsc rst, Rts K C G H ts bs fpsc ∧ fps.flatten.Perm (fpsc.flatten ++ rst) ∧ ∀ (G' H' : Hp) (ts' : List T) (fpsc' : List (List Addr)), Ex G G' → Idn H H' → (∀ a ∈ rst, H' a = H a) → Rts K C G' H' ts' bs fpsc' → ∃ fps', Rts K C G' H' (putR rt ps ts') ρ fps' ∧ fps'.flatten.Perm (fpsc'.flatten ++ rst)
  | [], rt, fps, ts, [], s, _, e, .nil => by
    cases e
    refine ⟨[], fps.flatten, .nil, by simp, fun G' H' ts' fpsc' eg _ st r => ?_⟩
    cases r
    exact ⟨fps, s.stay eg st, by simp⟩
  | (r, p) :: ps, rt, fps, ts, b :: bs, s, d, e, .cons ⟨a, ha, hf, hn, hpp⟩ hp => by
    simp only [dst, Bool.and_eq_true] at d
    simp only [getR] at e
    cases q1 : tatN rt r p with
    | none => rw [q1] at e; cases e
    | some t =>
      cases q2 : getR rt ps with
      | none => rw [q1, q2] at e; cases e
      | some us =>
        rw [q1, q2] at e
        cases e
        obtain ⟨w, L, fu, R, k1, k2, k3, k4⟩ := s.at q1 ha
        rw [hf] at k1
        cases k1
        obtain ⟨fps1, y1, y2⟩ := k4 G H (.dat .any) [] (Ex.refl G) (fun _ _ => rfl) (.dat (.any _))
        have ge := getR_mod rt r (T.put (.dat .any) p) ps d.1
        obtain ⟨fpsc, rst, i1, i2, i3⟩ := Rts.borrow (ps := ps) y1 d.2 (ge.trans q2) hp
        refine ⟨fu :: fpsc, rst, .cons k2 i1, ?_, fun G' H' ts' fpsc' eg idn st rc => ?_⟩
        · rw [k3]
          have h1 : (L ++ (fu ++ R)).Perm (fu ++ (L ++ R)) := by
            rw [← List.append_assoc, ← List.append_assoc]
            exact List.Perm.append_right R List.perm_append_comm
          refine h1.trans ?_
          rw [List.flatten_cons, List.append_assoc]
          refine List.Perm.append_left fu ?_
          rw [y2] at i2
          simpa using i2
        · cases rc with
          | @cons t' _ fu' ts'' _ fpsc'' h' rc =>
            obtain ⟨fps2, z1, z2⟩ := i3 G' H' ts'' fpsc'' eg idn st rc
            obtain ⟨X, hat, hX⟩ : ∃ X, tatN (putR (rt.modify r (T.put (.dat .any) p)) ps ts'') r p = some X ∧ X.strip = .dat .any := by
              unfold tatN
              rw [putR_at _ r ps ts'' d.1, mod_get, if_pos rfl]
              unfold tatN at q1
              cases q3 : rt[r]? with
              | none => rw [q3] at q1; cases q1
              | some u0 =>
                rw [q3] at q1
                have q1 : T.at p u0 = some t := q1
                show ∃ X, T.at p (T.put (.dat .any) p u0) = some X ∧ _
                exact put_at p u0 t q1
            obtain ⟨w2, L2, fu2, R2, m1, m2, m3, m4⟩ := z1.at hat ha
            have m0 : fol H' p (.ref a) = some (.ref b) := by
              have hpp : p = [] := hpp
              subst hpp
              exact hf
            rw [m0] at m1
            cases m1
            obtain ⟨fps3, n1, n2⟩ := m4 G' H' t' fu' (Ex.refl _) (fun _ _ => rfl) h'
            refine ⟨fps3, ?_, ?_⟩
            · have e2 : (putR (rt.modify r (T.put (.dat .any) p)) ps ts'').modify r (T.put t' p) = putR rt ((r, p) :: ps) (t' :: ts'') := by
                rw [putR_mod rt r _ ps ts'' d.1]
                show _ = (putR rt ps ts'').modify r (T.put t' p)
                refine List.ext_getElem? fun j => ?_
                simp only [mod_get]
                by_cases e1 : r = j
                · simp only [e1, if_true, Option.map_map]
                  congr 1
                  funext x
                  exact put_put _ _ _ _
                · simp [e1]
              rw [← e2]
              exact n1
            · rw [n2]
              have e3 : fu2 = [] := by
                have m2 := m2.strip
                rw [hX] at m2
                cases m2
                rfl
              subst e3
              have h1 : (L2 ++ (fu' ++ R2)).Perm (fu' ++ (L2 ++ R2)) := by
                rw [← List.append_assoc, ← List.append_assoc]
                exact List.Perm.append_right R2 List.perm_append_comm
              refine h1.trans ?_
              rw [List.flatten_cons, List.append_assoc]
              refine List.Perm.append_left fu' ?_
              rw [m3] at z2
              simpa using z2

/-! ### defs -/
abbrev CW := List Val → Roots → (T → Roots → Prop) → (Exn → Roots → Prop) → Prop
variable (K C)
def spW (cw : CW) : Sp := fun vs H Q E => ∃ G ρ fps args rt k kx, RSt K C rt ρ fps G H ∧ VRs K C G H ρ args vs ∧ cw args rt k kx ∧
  (∀ t rt' fps' fp G' H' v, RSt K C rt' ρ fps' G' H' → Nx fps.flatten G H G' H' fps'.flatten → Own K C fps' G' H' t v fp → (∀ a ∈ fp, a ∈ fps.flatten ∨ H a = none) → k t rt' → Q v H') ∧
  ∀ x rt' fps' G' H' cls d, RSt K C rt' ρ fps' G' H' → Nx fps.flatten G H G' H' fps'.flatten → XR K C H G' H' x cls d → kx x rt' → E cls d H'
variable {K C}
/-- what a call of w's def gives: n more slots than parameters -/
def cwOf (m n : Nat) (w : WS) : CW := fun args rt k kx => args.length = m ∧ w
  { nx := fun _ rt' => k (.dat .non) (rt'.take rt.length)
    rt := fun x rt' => match x with
      | .dat d => k (.dat d) (rt'.take rt.length)
      | .ref r [] => rt.length ≤ r ∧ match rt'[r]? with
        | some t => k t (rt'.take rt.length)
        | none => False
      | _ => False
    ro := fun t rt' => k t (rt'.take rt.length)
    ex := fun x _ rt' => kx x (rt'.take rt.length) } (args.map some ++ List.replicate n none) rt
theorem pre_take (p : Pre ρ ρ') : ρ'.take ρ.length = ρ := by
  refine List.ext_getElem? fun i => ?_
  by_cases h : i < ρ.length
  · rw [List.getElem?_take_of_lt h, p i ρ[i] (List.getElem?_eq_getElem h), List.getElem?_eq_getElem h]
  · have h1 : ρ[i]? = none := List.getElem?_eq_none (by omega)
    have h2 : (ρ'.take ρ.length)[i]? = none := List.getElem?_eq_none (by rw [List.length_take]; omega)
    rw [h1, h2]
/-- the reading at a def's entry -/
theorem w_enter {N ps : List Str} {n : Nat} {body : WS} {vs : List V} {Q : VK} {E : XK} (hn : N.length = ps.length + n) (h : spW K C (cwOf ps.length n body) vs H Q E) : tS K C (fun c d _ H => E c d H) body { nx := fun _ H' => Q .non H', rt := Q } (L2.start N vs) H := by
  obtain ⟨G, ρ, fps, args, rt, k', kx, r, va, ⟨h1, w⟩, q, qx⟩ := h
  have hl := r.root.lens.1
  refine ⟨_, _, rt, ρ, fps, G, ⟨r, ?_, ?_⟩, w, ⟨?_, ?_, ?_, ?_, ?_, ?_⟩⟩
  · unfold L2.start
    simp only [List.length_append, List.length_map, List.length_replicate]
    rw [va.len, h1]
    omega
  · intro i x e
    by_cases hi : i < args.length
    · rw [List.getElem?_append_left (by rw [List.length_map]; exact hi), List.getElem?_map] at e
      cases e2 : args[i]? with
      | none => rw [e2] at e; cases e
      | some y =>
        rw [e2] at e
        cases e
        obtain ⟨v, h2, h3⟩ := va.get e2
        refine ⟨v, ?_, h3⟩
        unfold L2.start
        rw [List.getElem?_append_left (by rw [List.length_map, va.len]; exact hi), List.getElem?_map, h2]
        rfl
    · rw [List.getElem?_append_right (by rw [List.length_map]; omega), List.getElem?_replicate] at e
      split at e <;> cases e
  · intro sl' rt' σ' ρ' fps' G' H' s' n' p' h
    have r2 := s'.toRSt.take ρ.length
    rw [pre_take p', hl] at r2
    exact q (.dat .non) _ _ [] G' H' .non r2 (n'.less (flat_take _)) (Own.dat .non) (fun _ z => nomatch z) h
  · intro x rt' ρ' fps' G' H' v s' n' p' vr h
    have r2 := s'.take ρ.length
    rw [pre_take p', hl] at r2
    dsimp only at h
    split at h
    · exact q _ _ _ [] G' H' v r2 (n'.less (flat_take _)) (Own.dat vr) (fun _ z => nomatch z) h
    · rename_i r
      obtain ⟨h2, h⟩ := h
      split at h
      · rename_i t ht
        obtain ⟨a, z1, z2, z3⟩ := vr
        cases Option.some.inj z2
        -- the root apart from the first ones
        have hd : rt' = rt'.take rt.length ++ rt'.drop rt.length := (List.take_append_drop _ _).symm
        obtain ⟨fr, hfr⟩ : ∃ fr, fps'[r]? = some fr := ⟨_, List.getElem?_eq_getElem (by rw [s'.root.lens.2]; exact (List.getElem?_eq_some_iff.mp ht).1)⟩
        have tr : ∀ {rt : Roots} {ρ : List Addr} {fps : List (List Addr)} {r : Nat} {t : T} {a : Addr} {fr : List Addr}, Rts K C G' H' rt ρ fps → rt[r]? = some t → ρ[r]? = some a → fps[r]? = some fr → TR K C G' H' (.ref a) t fr := by
          intro rt ρ fps r t a fr h
          induction h generalizing r with
          | nil => intro e; simp at e
          | cons h _ ih =>
            intro e1 e2 e3
            cases r with
            | zero => cases Option.some.inj e1; cases Option.some.inj e2; cases Option.some.inj e3; exact h
            | succ r => exact ih e1 e2 e3
        have nd := s'.nd
        rw [← List.take_append_drop rt.length fps', List.flatten_append] at nd
        have nd := List.nodup_append.mp nd
        have inD : ∀ a ∈ fr, a ∈ (fps'.drop rt.length).flatten := fun a ha => List.mem_flatten.mpr ⟨fr, by
          refine List.mem_of_getElem? (i := r - rt.length) ?_
          rw [List.getElem?_drop]
          rw [show rt.length + (r - rt.length) = r by omega]
          exact hfr, ha⟩
        refine q t _ _ fr G' H' _ r2 (n'.less (flat_take _)) ⟨tr s'.root ht z1 hfr, ?_, fun a ha z => nd.2.2 a z a (inD a ha) rfl, fun a ha => s'.fr a ?_⟩ (fun a ha => n'.new a ?_) h
        · have : fr.Sublist fps'.flatten := List.sublist_flatten_of_mem (List.mem_of_getElem? hfr)
          exact List.Nodup.sublist this s'.nd
        · exact List.mem_flatten.mpr ⟨fr, List.mem_of_getElem? hfr, ha⟩
        · exact List.mem_flatten.mpr ⟨fr, List.mem_of_getElem? hfr, ha⟩
      · exact h.elim
    · exact h.elim
  · intro t rt' ρ' fps' fp G' H' v s' n' p' o new h
    have r2 := s'.take ρ.length
    rw [pre_take p', hl] at r2
    exact q t _ _ fp G' H' v r2 (n'.less (flat_take _)) ⟨o.tr, o.nd, fun a ha z => o.ap a ha (flat_take _ a z), o.fr⟩ new h
  · exact fun _ _ _ _ _ _ _ _ _ _ h => h.elim
  · exact fun _ _ _ _ _ _ _ _ _ _ h => h.elim
  · intro x sl' rt' σ' ρ' fps' G' H' cls d s' n' p' xr h
    have r2 := s'.toRSt.take ρ.length
    rw [pre_take p', hl] at r2
    exact qx x _ _ G' H' cls d r2 (n'.less (flat_take _)) xr h
theorem spW_len {ps : List Str} {n : Nat} {body : WS} {vs : List V} {Q : VK} {E : XK} (h : spW K C (cwOf ps.length n body) vs H Q E) : vs.length = ps.length := by
  obtain ⟨G, ρ, fps, args, rt, k, kx, r, v, ⟨h1, _⟩, _⟩ := h
  rw [v.len, h1]
/-- a def that may let errors out -/
theorem ok_W {P : Program} {w : World} {mg : Str → Option Value} {base : Heap} {x qual : Str} {st : Stmt} {f : Addr} {fd : FuncData} {N ps : List Str} {k n : Nat} {body : WS}
    (F : Fun K x qual st f fd) (S : FnScope N ps (defScope st)) (hn : N.length = ps.length + n)
    (der : ∀ (cdv : Value) (A : Around) (outer : List Env) (s : Shared) (H : Hp) (E : XK), Room k (A.deeper (envOfC qual (defScope st) s.heap.objs.size f cdv)) → L2N.Takes (cxOf (L2N.CX P w) P w K mg base N qual (defScope st) f cdv A outer s H E) (fun c d _ H => E c d H) →
      PSs (cxOf (L2N.CX P w) P w K mg base N qual (defScope st) f cdv A outer s H E) (defBody st) (tS K C (fun c d _ H => E c d H) body)) :
    FnOk P w K mg base (L2N.CX P w) (k + 1) f fd ps (spW K C (cwOf ps.length n body)) := by
  obtain ⟨oc, od, kV, doc, pm, an, cdv, ct, osl, rfl, lk, hcd⟩ := F.ex
  exact fn_of lk hcd S (fun vs H Q E h => spW_len h) fun A outer s H vs Q E hr h => ⟨_, der cdv A outer s H E hr (L2N.takes_of rfl rfl rfl rfl), w_enter hn h⟩
/-- a def that lets none out -/
theorem ok_W0 {P : Program} {w : World} {mg : Str → Option Value} {base : Heap} {x qual : Str} {st : Stmt} {f : Addr} {fd : FuncData} {N ps : List Str} {k n : Nat} {body : WS}
    (F : Fun K x qual st f fd) (S : FnScope N ps (defScope st)) (hn : N.length = ps.length + n)
    (der : ∀ (cdv : Value) (A : Around) (outer : List Env) (s : Shared) (H : Hp) (E : XK), Room k (A.deeper (envOfC qual (defScope st) s.heap.objs.size f cdv)) → L2N.Takes (cxOf CX0 P w K mg base N qual (defScope st) f cdv A outer s H E).nox (fun _ _ _ _ => False) →
      PSs (cxOf CX0 P w K mg base N qual (defScope st) f cdv A outer s H E).nox (defBody st) (tS K C (fun _ _ _ _ => False) body)) :
    FnOk P w K mg base CX0 (k + 1) f fd ps (fun vs H Q _ => spW K C (cwOf ps.length n body) vs H Q fun _ _ _ => False) := by
  refine F.ok S (fun vs H Q E h => spW_len h) (fun cdv A outer s H vs Q E hr h => ⟨_, der cdv A outer s H E hr (fun u s' x => ?_), w_enter hn h⟩)
  obtain ⟨_, _, _, _, _, _, _, _, _, _, _, _, _, _, _, _, z⟩ := x
  exact z.elim
end
end Wv
end

section
set_option Elab.async false
set_option linter.all false
set_option maxRecDepth 100000
set_option maxHeartbeats 4000000
namespace Wv
open PySem PySem.Spec PyProof.Rows L2 Evl
section
variable {K : PySem.W.Frag} {C : Cs} {U : UX} {G H G' H' G1 H1 G2 H2 : Hp} {sl sl' : Slots} {rt rt' : Roots} {σ : L2.St} {ρ ρ' ρ1 : List Addr} {fps fps' fps1 : List (List Addr)}
variable {X : Cx} {CX : CXT} {a b c e o : Expr} {es rest : List Expr} {wa wb wc : WE} {pos p apos : Pos} {Z : WEnds} {E : L2.St → XK} {st : Stmt} {k : Nat} {f Ca : Addr} {fd : FuncData} {ps : List Str} {sp : Sp} {x m : Str} {ta : TE} {t : TA} {ds : List Value}
theorem rdd_mem : ∀ (xs : List Val) (rs : List Nat), (∀ r ∈ rs, r ∈ rdd rs xs) ∧ ∀ r p, Val.ref r p ∈ xs → r ∈ rdd rs xs
  | [], rs => ⟨fun _ h => h, fun _ _ h => nomatch h⟩
  | .dat d :: xs, rs => by
    obtain ⟨h1, h2⟩ := rdd_mem xs rs
    refine ⟨h1, fun r p h => ?_⟩
    rcases List.mem_cons.mp h with z | z
    · cases z
    · exact h2 r p z
  | .ref i q :: xs, rs => by
    obtain ⟨h1, h2⟩ := rdd_mem xs (if rs.contains i then rs else rs ++ [i])
    refine ⟨fun r h => h1 r ?_, fun r p h => ?_⟩
    · split
      · exact h
      · simp [h]
    · rcases List.mem_cons.mp h with z | z
      · injection z with z1 z2
        subst z1
        refine h1 r ?_
        split
        · rename_i c
          simpa using c
        · simp
      · exact h2 r p z
theorem node_root {p : List Nat} {a : Addr} {v : V} (h : fol H p (.ref a) = some v) (n : NodeV H v) : NodeV H (.ref a) := by
  cases p with
  | nil => cases Option.some.inj h; exact n
  | cons j p =>
    have h : (match H a with | some (.lst xs) => (xs[j]?).bind (fol H p) | some (.ins _ _ fs) => ((fs.map Prod.snd)[j]?).bind (fol H p) | some (.dK kvs) => ((kvs.map Prod.snd)[j]?).bind (fol H p) | _ => none) = some v := h
    split at h
    · rename_i xs hb
      exact ⟨a, rfl, .inl ⟨xs, hb⟩⟩
    · rename_i c dx fs hb
      exact ⟨a, rfl, .inr (.inl ⟨c, dx, fs, hb⟩)⟩
    · rename_i kvs hb
      exact ⟨a, rfl, .inr (.inr ⟨kvs, hb⟩)⟩
    · cases h
theorem VRs.mem : ∀ {xs : List Val} {vs : List V}, VRs K C G H ρ xs vs → ∀ x ∈ xs, ∃ v, VR K C G H ρ x v
  | _, _, .nil => fun _ h => nomatch h
  | _, _, .cons h r => fun x hx => by
    rcases List.mem_cons.mp hx with z | z
    · subst z; exact ⟨_, h⟩
    · exact VRs.mem r x z
theorem rdd_only : ∀ (xs : List Val) (rs : List Nat), ∀ r ∈ rdd rs xs, r ∈ rs ∨ ∃ p, Val.ref r p ∈ xs
  | [], rs => fun _ h => .inl h
  | .dat d :: xs, rs => fun r h => by
    rcases rdd_only xs rs r h with z | ⟨p, z⟩
    · exact .inl z
    · exact .inr ⟨p, List.mem_cons_of_mem _ z⟩
  | .ref i q :: xs, rs => fun r h => by
    rcases rdd_only xs _ r h with z | ⟨p, z⟩
    · split at z
      · exact .inl z
      · rcases List.mem_append.mp z with y | y
        · exact .inl y
        · have : r = i := by simpa using y
          subst this
          exact .inr ⟨q, List.mem_cons_self⟩
    · exact .inr ⟨p, List.mem_cons_of_mem _ z⟩
theorem vr_ren {xs : List Val} {vs : List V} (h : VRs K C G H ρ xs vs) : ∃ bs, Paired (fun (q : Pl) b => ∃ a, ρ[q.1]? = some a ∧ fol H q.2 (.ref a) = some (.ref b) ∧ NodeV H (.ref b) ∧ q.2 = []) (plc xs) bs ∧ VRs K C G H bs (ren xs) vs := by
  have each : ∀ rs : List Nat, (∀ r ∈ rs, ∃ a, ρ[r]? = some a ∧ NodeV H (.ref a)) → ∃ bs, Paired (fun (q : Pl) b => ∃ a, ρ[q.1]? = some a ∧ fol H q.2 (.ref a) = some (.ref b) ∧ NodeV H (.ref b) ∧ q.2 = []) (rs.map fun r => (r, [])) bs ∧ ∀ r ∈ rs, ∃ a, ρ[r]? = some a ∧ bs[rs.idxOf r]? = some a := by
    intro rs
    induction rs with
    | nil => exact fun _ => ⟨[], .nil, fun _ z => nomatch z⟩
    | cons r rs ih =>
      intro h
      obtain ⟨bs, h1, h2⟩ := ih fun x hx => h x (List.mem_cons_of_mem _ hx)
      obtain ⟨a, ha, hn⟩ := h r List.mem_cons_self
      refine ⟨a :: bs, .cons ⟨a, ha, rfl, hn, rfl⟩ h1, fun x hx => ?_⟩
      by_cases e : r = x
      · subst e
        exact ⟨a, ha, by simp⟩
      · rcases List.mem_cons.mp hx with z | z
        · exact absurd z.symm e
        · obtain ⟨b, k1, k2⟩ := h2 x z
          refine ⟨b, k1, ?_⟩
          rw [List.idxOf_cons]
          have : (r == x) = false := by simpa using e
          rw [this]
          exact k2
  have hroot : ∀ r ∈ rdd [] xs, ∃ a, ρ[r]? = some a ∧ NodeV H (.ref a) := fun r hr => by
    rcases rdd_only xs [] r hr with z | ⟨p, z⟩
    · cases z
    · obtain ⟨v, a, h1, h2, h3⟩ := h.mem _ z
      exact ⟨a, h1, node_root h2 h3.1⟩
  obtain ⟨bs, h1, h2⟩ := each _ hroot
  refine ⟨bs, h1, ?_⟩
  have gen : ∀ {ys : List Val} {us : List V}, VRs K C G H ρ ys us → (∀ r p, Val.ref r p ∈ ys → r ∈ rdd [] xs) → VRs K C G H bs (ys.map (renV (rdd [] xs))) us := by
    intro ys us hy
    induction hy with
    | nil => exact fun _ => .nil
    | @cons x v ys us hx _ ih =>
      intro hm
      refine .cons ?_ (ih fun r p hr => hm r p (List.mem_cons_of_mem _ hr))
      cases x with
      | dat d => exact hx
      | ref r p =>
        obtain ⟨a, k1, k2, k3⟩ := hx
        obtain ⟨b, q1, q2⟩ := h2 r (hm r p List.mem_cons_self)
        rw [k1] at q1
        cases q1
        exact ⟨a, q2, k2, k3⟩
  exact gen h fun r p hr => (rdd_mem xs []).2 r p hr
/-- behind a callee: the caller's own state -/
theorem borrowed {xs : List Val} {vs : List V} {ts : List T} (r : RSt K C rt ρ fps G H) (v : VRs K C G H ρ xs vs) (hd : dst (plc xs) = true) (hg : getR rt (plc xs) = some ts) : ∃ bs fpsc, RSt K C ts bs fpsc G H ∧ VRs K C G H bs (ren xs) vs ∧ (∀ a ∈ fpsc.flatten, a ∈ fps.flatten) ∧
    ∀ ts' fpsc' G' H', RSt K C ts' bs fpsc' G' H' → Nx fpsc.flatten G H G' H' fpsc'.flatten → ∃ fps', RSt K C (putR rt (plc xs) ts') ρ fps' G' H' ∧ Nx fps.flatten G H G' H' fps'.flatten ∧ ∀ fp : List Addr, (∀ a ∈ fp, a ∉ fpsc'.flatten) → (∀ a ∈ fp, a ∈ fpsc.flatten ∨ H a = none) → ∀ a ∈ fp, a ∉ fps'.flatten := by
  obtain ⟨bs, h1, h2⟩ := vr_ren v
  obtain ⟨fpsc, rst, i1, i2, i3⟩ := r.root.borrow hd hg h1
  have nd := i2.nodup_iff.mp r.nd
  have nd1 := List.nodup_append.mp nd
  have mem : ∀ a, a ∈ fps.flatten ↔ a ∈ fpsc.flatten ++ rst := fun a => i2.mem_iff
  refine ⟨bs, fpsc, ⟨r.sub, i1, nd1.1, fun a ha => r.fr a ((mem a).mpr (by simp [ha]))⟩, h2, fun a ha => (mem a).mpr (by simp [ha]), fun ts' fpsc' G' H' r' n' => ?_⟩
  have rin : ∀ a ∈ rst, H a ≠ none := fun a ha => r.root.inH a ((mem a).mpr (by simp [ha]))
  have rout : ∀ a ∈ rst, a ∉ fpsc.flatten := fun a ha z => nd1.2.2 a z a ha rfl
  have rkeep : ∀ a ∈ rst, H' a = H a ∧ G' a = none := fun a ha => by
    cases z : H a with
    | none => exact absurd z (rin a ha)
    | some o =>
      obtain ⟨k1, k2⟩ := n'.keep a o z (rout a ha)
      exact ⟨k1, k2 (r.fr a ((mem a).mpr (by simp [ha])))⟩
  have dis : ∀ a ∈ rst, a ∉ fpsc'.flatten := fun a ha z => by
    rcases n'.new a z with y | y
    · exact rout a ha y
    · exact rin a ha y
  obtain ⟨fps', z1, z2⟩ := i3 G' H' ts' fpsc' n'.g n'.idn (fun a ha => (rkeep a ha).1) r'.root
  have mem' : ∀ a, a ∈ fps'.flatten ↔ a ∈ fpsc'.flatten ++ rst := fun a => z2.mem_iff
  refine ⟨fps', ⟨r'.sub, z1, z2.nodup_iff.mpr (List.nodup_append.mpr ⟨r'.nd, nd1.2.1, fun a ha b hb e => dis b hb (by rw [← e]; exact ha)⟩), fun a ha => ?_⟩, ⟨n'.g, fun l u h z => ?_, n'.dom, fun l hl => ?_, n'.idn⟩, fun fp h1 h2 a ha z => ?_⟩
  · rcases List.mem_append.mp ((mem' a).mp ha) with y | y
    · exact r'.fr a y
    · exact (rkeep a y).2
  · exact n'.keep l u h fun y => z ((mem l).mpr (by simp [y]))
  · rcases List.mem_append.mp ((mem' l).mp hl) with y | y
    · rcases n'.new l y with x | x
      · exact .inl ((mem l).mpr (by simp [x]))
      · exact .inr x
    · exact .inl ((mem l).mpr (by simp [y]))
  · rcases List.mem_append.mp ((mem' a).mp z) with y | y
    · exact h1 a ha y
    · rcases h2 a ha with x | x
      · exact rout a y x
      · exact rin a y x
/-- a def is called: its promise from where the caller stands -/
theorem sp_use {cw : CW} {xs : List Val} {vs : List V} {ts : List T} {k : T → Roots → Prop} {kx : Exn → Roots → Prop} {Q : VK} {E : XK} (r : RSt K C rt ρ fps G H) (v : VRs K C G H ρ xs vs) (hd : dst (plc xs) = true) (hg : getR rt (plc xs) = some ts)
    (w : cw (ren xs) ts (fun t ts' => k t (putR rt (plc xs) ts')) fun x ts' => kx x (putR rt (plc xs) ts')) (q : ∀ t rt' fps' fp G' H' v, RSt K C rt' ρ fps' G' H' → Nx fps.flatten G H G' H' fps'.flatten → Own K C fps' G' H' t v fp → (∀ a ∈ fp, a ∈ fps.flatten ∨ H a = none) → k t rt' → Q v H')
    (qx : ∀ x rt' fps' G' H' cls d, RSt K C rt' ρ fps' G' H' → Nx fps.flatten G H G' H' fps'.flatten → XR K C H G' H' x cls d → kx x rt' → E cls d H') : spW K C cw vs H Q E := by
  obtain ⟨bs, fpsc, b1, b2, b3, b4⟩ := borrowed r v hd hg
  refine ⟨G, bs, fpsc, ren xs, ts, _, _, b1, b2, w, ?_, ?_⟩
  · intro t ts' fpsc' fp G' H' v r' n' o' new hk
    obtain ⟨fps', z1, z2, z3⟩ := b4 ts' fpsc' G' H' r' n'
    exact q t _ fps' fp G' H' v z1 z2 ⟨o'.tr, o'.nd, z3 fp o'.ap new, o'.fr⟩ (fun a ha => (new a ha).imp (b3 a) id) hk
  · intro x ts' fpsc' G' H' cls d r' n' xr hk
    obtain ⟨fps', z1, z2, z3⟩ := b4 ts' fpsc' G' H' r' n'
    exact qx x _ fps' G' H' cls d z1 z2 xr hk
/-- f(..) -/
def wCall (cw : CW) (w : WA) : WO := fun sl rt k => w sl rt fun xs rt1 => dst (plc xs) = true ∧ match getR rt1 (plc xs) with
  | some ts => cw (ren xs) ts (fun t ts' => k t (putR rt1 (plc xs) ts')) fun x ts' => sl.ex x sl.sl (putR rt1 (plc xs) ts')
  | none => False
theorem o_call {cw : CW} {w : WA} : ∀ σ H Q, tO K C U (wCall cw w) σ H Q → tCallS (spW K C cw) (fun σ cls d H => U cls d σ H) (tA K C U w) σ H Q := fun σ H Q ⟨sl, rt, ρ, fps, G, k, s, xf, w, q⟩ =>
  ⟨sl, rt, ρ, fps, G, _, s, xf, w, fun xs rt1 fps1 G1 H1 vs r1 n1 v1 ⟨hd, w1⟩ => by
    split at w1
    · rename_i ts ht
      exact sp_use r1 v1 hd ht w1 (fun t rt' fps' fp G' H' v r' n' o' new hk => q t rt' fps' fp G' H' v r' (n1.trans n') o' (fun a ha => (new a ha).elim (fun y => n1.new a y) fun y => .inr (n1.dom a y)) hk)
        fun x rt' fps' G' H' cls d r' n' xr hk => xf x _ rt' σ ρ fps' G' H' cls d (s.step r' (n1.trans n') fun _ _ e => e) (n1.trans n') (Pre.refl _) (xr.early n1.dom) hk
    · exact w1.elim⟩
theorem o_call0 {cw : CW} : ∀ σ H Q, tO K C U (wCall cw wNil) σ H Q → tCallS (spW K C cw) (fun σ cls d H => U cls d σ H) tNil σ H Q := fun σ H Q ⟨sl, rt, ρ, fps, G, k, s, xf, ⟨hd, w1⟩, q⟩ => by
  exact sp_use (xs := []) (ts := []) (k := fun t rt' => k t rt') (kx := fun x rt' => sl.ex x sl.sl rt') s.toRSt .nil rfl rfl w1 (fun t rt' fps' fp G' H' v r' n' o' new hk => q t rt' fps' fp G' H' v r' n' o' new hk)
    fun x rt' fps' G' H' cls d r' n' xr hk => xf x _ rt' σ ρ fps' G' H' cls d (s.step r' n' fun _ _ e => e) n' (Pre.refl _) xr hk
theorem pe_callS0 (F : FnOk X.prog X.w X.K X.mg X.base CX k f fd ps sp) (hr : Room k X.A) (hg : Gl X x) (hm : X.mg x = some (.ref f)) (hk : PySem.W.keepIn X.K (.ref f) = true) (hb : Binds X.K fd ps []) (hx : ∀ σ, PassesAt CX X σ (E σ))
    (hdb : (x == ("__debug__" : Str)) = false := by decide) : PE X (.Call (.Name x p) [] [] pos) (tCallS sp E tNil) := by
  refine ⟨fun pins s σ H Q I h => ?_⟩
  refine wpAny_Call_Name_kw (ld_glob I hg hm ?_ hdb)
  exact PySem.W.callWith_K0 I.kIn hk (run_fnSD (us := []) (dvs := []) (ds := []) F hr hb .nil (hx σ) I .nil h)
theorem wo_call {cw : CW} {w : WA} (h : PE X e (tCallS (spW K C cw) (fun σ cls d H => U cls d σ H) (tA K C U w))) : PE X e (tO K C U (wCall cw w)) := pe_imp h o_call
theorem wo_call0 {cw : CW} (h : PE X e (tCallS (spW K C cw) (fun σ cls d H => U cls d σ H) tNil)) : PE X e (tO K C U (wCall cw wNil)) := pe_imp h o_call0
def tMethX (C : Addr) (m : Str) (sp : Sp) (E : L2.St → XK) (ta : TE) (t : TA) : TE := fun σ H Q => ta σ H fun x H1 => ∃ a dx fs, x = .ref a ∧ H1 a = some (.ins C dx fs) ∧ fs.lookup m = none ∧ t σ H1 fun vs H2 => sp (x :: vs) H2 Q (E σ)
theorem pe_methX {pl : PySem.Sem Bool} (he : PE X o ta) (c : Cls X.K Ca) (hm : Meth X.K Ca m f) (F : FnOk X.prog X.w X.K X.mg X.base CX k f fd ps sp) (hr : Room k X.A) (hb : Binds X.K fd ps []) (hx : ∀ σ, PassesAt CX X σ (E σ)) (ha : PA X (e :: es) t)
    (hst : starEach (e :: es) X.env = (false, eval e X.env) :: starEach es X.env := by rfl) (hpl : (backTo pos (starEach es X.env)).any (·.1) = false := by rfl)
    (ht : eval (.Call (.Attribute o m apos) (e :: es) [] pos) X.env = (do
      let ov ← eval o X.env
      standAt apos.atName
      let (f, first) ← holding [ov] (getMethod ov m pl)
      callWith pos f first (backTo pos (starEach (e :: es) X.env)) (backToKw pos (keywordEach [] X.env))) := by rfl) :
    PE X (.Call (.Attribute o m apos) (e :: es) [] pos) (tMethX Ca m sp E ta t) := by
  refine ⟨fun pins s σ H Q I h => ?_⟩
  refine PySem.W.methodCall_KW (pl := pl) (thn (he.run pins s σ H _ I h) fun u s1 ⟨x, H1, I1, rx, a, dx, fs, ex, ea, l, q⟩ => ?_) ht
  subst ex
  obtain rfl : u = Value.ref a := rx
  refine getmeth_ok I1 ea c hm l ?_
  refine PySem.W.callWith_K (first := [.ref a]) (h₀ := X.base) I.ok.mod.kin hm.kp (thn (ha.run pos pins s1 σ H1 _ I1 q) fun us s2 ⟨vs, H2, I2, r, q2⟩ => ⟨I2.kIn, ?_⟩) hst hpl
  exact run_fnSD (us := .ref a :: us) (vs := .ref a :: vs) (dvs := []) (ds := []) F hr hb .nil (hx σ) I2 (.cons rfl r) (by simpa using q2)
theorem pe_methX0 {pl : PySem.Sem Bool} (he : PE X o ta) (c : Cls X.K Ca) (hm : Meth X.K Ca m f) (F : FnOk X.prog X.w X.K X.mg X.base CX k f fd ps sp) (hr : Room k X.A) (hb : Binds X.K fd ps []) (hx : ∀ σ, PassesAt CX X σ (E σ))
    (ht : eval (.Call (.Attribute o m apos) [] [] pos) X.env = (do
      let ov ← eval o X.env
      standAt apos.atName
      let (f, first) ← holding [ov] (getMethod ov m pl)
      callWith pos f first (backTo pos (starEach [] X.env)) (backToKw pos (keywordEach [] X.env))) := by rfl) :
    PE X (.Call (.Attribute o m apos) [] [] pos) (tMethX Ca m sp E ta tNil) := by
  refine ⟨fun pins s σ H Q I h => ?_⟩
  refine PySem.W.methodCall_KW (pl := pl) (thn (he.run pins s σ H _ I h) fun u s1 ⟨x, H1, I1, rx, a, dx, fs, ex, ea, l, q⟩ => ?_) ht
  subst ex
  obtain rfl : u = Value.ref a := rx
  refine getmeth_ok I1 ea c hm l ?_
  exact PySem.W.callWith_K0 (first := [.ref a]) I1.kIn hm.kp (run_fnSD (us := [.ref a]) (vs := [.ref a]) (dvs := []) (ds := []) F hr hb .nil (hx σ) I1 (.cons rfl .nil) q)

/-! ### objects -/
theorem Rts.unapp : ∀ {rt : Roots} {t : T} {ρ : List Addr} {a : Addr} {fps : List (List Addr)}, Rts K C G H (rt ++ [t]) (ρ ++ [a]) fps → rt.length = ρ.length → ∃ fps0 fq, fps = fps0 ++ [fq] ∧ Rts K C G H rt ρ fps0 ∧ TR K C G H (.ref a) t fq
  | [], t, [], a, _, .cons h .nil, _ => ⟨[], _, rfl, .nil, h⟩
  | u :: rt, t, b :: ρ, a, _, .cons h r, e => by
    obtain ⟨fps0, fq, e1, h1, h2⟩ := Rts.unapp r (by simpa using e)
    exact ⟨_ :: fps0, fq, by rw [e1]; rfl, .cons h h1, h2⟩
  | [], _, _ :: _, _, _, _, e => by cases e
  | _ :: _, _, [], _, _, _, e => by cases e
theorem getR_lt {ps : List Pl} {ts : List T} : getR rt ps = some ts → ∀ q ∈ ps, q.1 < rt.length := by
  induction ps generalizing ts with
  | nil => exact fun _ _ z => nomatch z
  | cons q ps ih =>
    obtain ⟨r, p⟩ := q
    intro h
    simp only [getR] at h
    split at h
    · rename_i t us h1 h2
      intro q hq
      rcases List.mem_cons.mp hq with z | z
      · subst z
        unfold tatN at h1
        cases y : rt[r]? with
        | none => rw [y] at h1; cases h1
        | some u => exact (List.getElem?_eq_some_iff.mp y).1
      · exact ih h2 q z
    · cases h
theorem getR_app {ps : List Pl} {ts : List T} (z : T) : getR rt ps = some ts → getR (rt ++ [z]) ps = some ts := by
  induction ps generalizing ts with
  | nil => exact fun h => h
  | cons q ps ih =>
    obtain ⟨r, p⟩ := q
    intro h
    simp only [getR] at h ⊢
    split at h
    · rename_i t us h1 h2
      have lt : r < rt.length := by
        unfold tatN at h1
        cases y : rt[r]? with
        | none => rw [y] at h1; cases h1
        | some u => exact (List.getElem?_eq_some_iff.mp y).1
      have e1 : tatN (rt ++ [z]) r p = tatN rt r p := by
        unfold tatN
        rw [List.getElem?_append_left lt]
      rw [e1, h1, ih h2]
      exact h
    · cases h
theorem putR_app (z : T) : ∀ {ps : List Pl} {ts : List T}, (∀ q ∈ ps, q.1 < rt.length) → putR (rt ++ [z]) ps ts = putR rt ps ts ++ [z] ∧ (putR rt ps ts).length = rt.length
  | [], ts, _ => by simp [putR]
  | _ :: _, [], _ => by simp [putR]
  | (r, p) :: ps, t :: ts, h => by
    obtain ⟨h1, h2⟩ := putR_app (ps := ps) (ts := ts) z fun q hq => h q (by simp [hq])
    have lt := h (r, p) (by simp)
    have lt : r < rt.length := lt
    refine ⟨?_, by simp only [putR, List.length_modify]; exact h2⟩
    simp only [putR, h1]
    refine List.ext_getElem? fun j => ?_
    rw [mod_get]
    by_cases e : j < rt.length
    · rw [List.getElem?_append_left (by rw [h2]; exact e), List.getElem?_append_left (by rw [List.length_modify, h2]; exact e), mod_get]
    · rw [if_neg (by omega), List.getElem?_append_right (by rw [h2]; omega), List.getElem?_append_right (by rw [List.length_modify, h2]; omega), h2, List.length_modify, h2]
theorem idn2 {x dx : Addr} {u v : HO} (hx : H x = none) (hd : H dx = none) (n : dx ≠ x) : Idn H (upd (upd H dx u) x v) := (idn_new hd).trans (idn_new (by rw [upd_ne (Ne.symm n)]; exact hx))
/-- C(..) -/
def mkEnd (n : Nat) (k : T → Roots → Prop) : T → Roots → Prop := fun t full => t = .dat .non ∧ match full[n]? with
  | some o => k o (full.take n)
  | none => False
def wMake (c : Nat) (cw : CW) (w : WA) : WO := fun sl rt k => w sl rt fun xs rt1 => dst (plc (.ref rt1.length [] :: xs)) = true ∧ match getR (rt1 ++ [.obj c []]) (plc (.ref rt1.length [] :: xs)) with
  | some ts => cw (ren (.ref rt1.length [] :: xs)) ts (fun t ts' => mkEnd rt1.length k t (putR (rt1 ++ [.obj c []]) (plc (.ref rt1.length [] :: xs)) ts')) fun _ _ => False
  | none => False
theorem sp_makeG {cw : CW} {xs : List Val} {vs : List V} {ts : List T} {c : Nat} {k : T → Roots → Prop} {Q : VK} {E : XK} {x dx : Addr} {o0 : T} (r : RSt K C rt ρ fps G H) (v : VRs K C G H ρ xs vs) (hd3 : dst (plc (.ref rt.length [] :: xs)) = true) (hg3 : getR (rt ++ [o0]) (plc (.ref rt.length [] :: xs)) = some ts)
    (w : cw (ren (.ref rt.length [] :: xs)) ts (fun t ts' => mkEnd rt.length k t (putR (rt ++ [o0]) (plc (.ref rt.length [] :: xs)) ts')) fun _ _ => False) (h0 : ∀ H : Hp, H x = some (.ins (C.at_ c) dx []) → TR K C G H (.ref x) o0 [x]) (hx : H x = none) (hdx : H dx = none) (ne : dx ≠ x)
    (q : ∀ t rt' fps' fp G' H', RSt K C rt' ρ fps' G' H' → Nx fps.flatten G H G' H' fps'.flatten → Own K C fps' G' H' t (.ref x) fp → (∀ a ∈ fp, a ∈ fps.flatten ∨ H a = none) → k t rt' → Q (.ref x) H') :
    spW K C cw (.ref x :: vs) (upd (upd H dx (.own x)) x (.ins (C.at_ c) dx [])) (fun v H2 => v = .non ∧ Q (.ref x) H2) E := by
  have idn := idn2 (u := .own x) (v := .ins (C.at_ c) dx []) hx hdx ne
  have ex : Ex H (upd (upd H dx (.own x)) x (.ins (C.at_ c) dx [])) := (Ex.new hdx).trans (Ex.new (by rw [upd_ne (Ne.symm ne)]; exact hx))
  have r2 := r.grow ex
  have own : Own K C fps G (upd (upd H dx (.own x)) x (.ins (C.at_ c) dx [])) o0 (.ref x) [x] := by
    refine ⟨h0 _ upd_same, by simp, fun a ha z => ?_, fun a ha => ?_⟩
    · have : a = x := by simpa using ha
      subst this
      exact r.root.inH a z hx
    · have : a = x := by simpa using ha
      subst this
      exact fresh_back r.sub hx
  have r3 := r2.app own
  have n0 : Nx fps.flatten G H G (upd (upd H dx (.own x)) x (.ins (C.at_ c) dx [])) (fps ++ [[x]]).flatten := ⟨Ex.refl G, fun l u h _ => ⟨ex l u h, fun g => g⟩, fun l h => upd_none (upd_none h), fun l hl => by
    rw [List.flatten_append] at hl
    simp only [List.flatten_cons, List.flatten_nil, List.append_nil] at hl
    rcases List.mem_append.mp hl with z | z
    · exact .inl z
    · have : l = x := by simpa using z
      subst this
      exact .inr hx, idn⟩
  have hl : ρ.length = rt.length := r.root.lens.1
  have v3 : VRs K C G (upd (upd H dx (.own x)) x (.ins (C.at_ c) dx [])) (ρ ++ [x]) (.ref rt.length [] :: xs) (.ref x :: vs) := .cons ⟨x, by rw [← hl]; simp, rfl, ⟨x, rfl, .inr (.inl ⟨_, _, _, upd_same⟩)⟩, rfl⟩ (v.up n0 (Pre.app ρ [x]))
  refine sp_use (kx := fun _ _ => False) r3 v3 hd3 hg3 w (fun t rt' fps' fp G' H' v r' n' o' new ⟨ht, hk⟩ => ?_) fun _ _ _ _ _ _ _ _ _ _ z => z.elim
  subst ht
  have e0 : v = .non := by
    cases o'.tr with
    | dat h => cases h; rfl
  refine ⟨e0, ?_⟩
  split at hk
  · rename_i o ho
    have hlen : rt'.length = rt.length + 1 := by
      have := r'.root.lens.1
      rw [List.length_append, hl] at this
      simpa using this.symm
    have hr : rt' = rt'.take rt.length ++ [o] := by
      refine List.ext_getElem? fun j => ?_
      by_cases e : j < rt.length
      · rw [List.getElem?_append_left (by rw [List.length_take]; omega), List.getElem?_take_of_lt e]
      · rw [List.getElem?_append_right (by rw [List.length_take]; omega)]
        have e2 : (rt'.take rt.length).length = rt.length := by rw [List.length_take]; omega
        rw [e2]
        by_cases e3 : j = rt.length
        · subst e3
          rw [ho]
          simp
        · rw [List.getElem?_eq_none (by omega), List.getElem?_eq_none (by simp; omega)]
    have root := r'.root
    rw [hr] at root
    obtain ⟨fps0, fq, e1, h1, h2⟩ := root.unapp (by rw [List.length_take, hl]; omega)
    have nd := r'.nd
    have fl : fps'.flatten = fps0.flatten ++ fq := by rw [e1]; simp
    rw [fl] at nd
    have nd1 := List.nodup_append.mp nd
    have n2 := n0.trans n'
    refine q o _ fps0 fq G' H' ⟨r'.sub, h1, nd1.1, fun a ha => r'.fr a (by rw [fl]; simp [ha])⟩ (n2.less fun l hl => by rw [fl]; simp [hl]) ⟨h2, nd1.2.1, fun a ha z => nd1.2.2 a z a ha rfl, fun a ha => r'.fr a (by rw [fl]; simp [ha])⟩ (fun a ha => n2.new a (by rw [fl]; simp [ha])) hk
  · exact hk.elim
theorem sp_make {cw : CW} {xs : List Val} {vs : List V} {ts : List T} {c : Nat} {k : T → Roots → Prop} {Q : VK} {E : XK} {x dx : Addr} (r : RSt K C rt ρ fps G H) (v : VRs K C G H ρ xs vs) (hd3 : dst (plc (.ref rt.length [] :: xs)) = true) (hg3 : getR (rt ++ [.obj c []]) (plc (.ref rt.length [] :: xs)) = some ts)
    (w : cw (ren (.ref rt.length [] :: xs)) ts (fun t ts' => mkEnd rt.length k t (putR (rt ++ [.obj c []]) (plc (.ref rt.length [] :: xs)) ts')) fun _ _ => False) (hx : H x = none) (hdx : H dx = none) (ne : dx ≠ x)
    (q : ∀ t rt' fps' fp G' H', RSt K C rt' ρ fps' G' H' → Nx fps.flatten G H G' H' fps'.flatten → Own K C fps' G' H' t (.ref x) fp → (∀ a ∈ fp, a ∈ fps.flatten ∨ H a = none) → k t rt' → Q (.ref x) H') :
    spW K C cw (.ref x :: vs) (upd (upd H dx (.own x)) x (.ins (C.at_ c) dx [])) (fun v H2 => v = .non ∧ Q (.ref x) H2) E :=
  sp_makeG r v hd3 hg3 w (fun _ h => .obj h rfl .nil) hx hdx ne q
/-- C(..), its address told -/
def wMakeN (c : Nat) (cw : CW) (w : WA) : WO := fun sl rt k => w sl rt fun xs rt1 => ∀ x : Addr, dst (plc (.ref rt1.length [] :: xs)) = true ∧ match getR (rt1 ++ [.nm x (.obj c [])]) (plc (.ref rt1.length [] :: xs)) with
  | some ts => cw (ren (.ref rt1.length [] :: xs)) ts (fun t ts' => mkEnd rt1.length k t (putR (rt1 ++ [.nm x (.obj c [])]) (plc (.ref rt1.length [] :: xs)) ts')) fun _ _ => False
  | none => False
theorem o_makeN {c : Nat} {cw : CW} {w : WA} {E : XK} : ∀ σ H Q, tO K C U (wMakeN c cw w) σ H Q → tMake (C.at_ c) (spW K C cw) [] E (tA K C U w) σ H Q := fun σ H Q ⟨sl, rt, ρ, fps, G, k, s, xf, w, q⟩ =>
  ⟨sl, rt, ρ, fps, G, _, s, xf, w, fun xs rt1 fps1 G1 H1 vs r1 n1 v1 w1 => by
    intro x dx hx hdx ne
    obtain ⟨hd, w1⟩ := w1 x
    split at w1
    · rename_i ts ht
      rw [List.append_nil]
      exact sp_makeG r1 v1 hd ht w1 (fun _ h => .nm (.obj h rfl .nil)) hx hdx ne fun t rt' fps' fp G' H' r' n' o' new hk => q t rt' fps' fp G' H' _ r' (n1.trans n') o' (fun a ha => (new a ha).elim (fun y => n1.new a y) fun y => .inr (n1.dom a y)) hk
    · exact w1.elim⟩
theorem wo_makeN {c : Nat} {cw : CW} {w : WA} {E : XK} (h : PE X e (tMake (C.at_ c) (spW K C cw) [] E (tA K C U w))) : PE X e (tO K C U (wMakeN c cw w)) := pe_imp h o_makeN
theorem o_make {c : Nat} {cw : CW} {w : WA} {E : XK} : ∀ σ H Q, tO K C U (wMake c cw w) σ H Q → tMake (C.at_ c) (spW K C cw) [] E (tA K C U w) σ H Q := fun σ H Q ⟨sl, rt, ρ, fps, G, k, s, xf, w, q⟩ =>
  ⟨sl, rt, ρ, fps, G, _, s, xf, w, fun xs rt1 fps1 G1 H1 vs r1 n1 v1 ⟨hd, w1⟩ => by
    split at w1
    · rename_i ts ht
      intro x dx hx hdx ne
      rw [List.append_nil]
      exact sp_make r1 v1 hd ht w1 hx hdx ne fun t rt' fps' fp G' H' r' n' o' new hk => q t rt' fps' fp G' H' _ r' (n1.trans n') o' (fun a ha => (new a ha).elim (fun y => n1.new a y) fun y => .inr (n1.dom a y)) hk
    · exact w1.elim⟩
theorem wo_make {c : Nat} {cw : CW} {w : WA} {E : XK} (h : PE X e (tMake (C.at_ c) (spW K C cw) [] E (tA K C U w))) : PE X e (tO K C U (wMake c cw w)) := pe_imp h o_make

/-! ### fields -/
theorem look_at : ∀ {fs : List (Str × V)} {ns : List Str} {i : Nat} {f : Str} {v : V}, fs.map Prod.fst = ns.take fs.length → ns.Nodup → ns[i]? = some f → (fs.map Prod.snd)[i]? = some v → fs.lookup f = some v
  | [], _, _, _, _, _, _, _, h => by simp at h
  | (g, x) :: fs, n :: ns, 0, f, v, e, _, h1, h2 => by
    simp only [List.map_cons, List.length_cons, List.take_succ_cons, List.cons.injEq] at e
    cases Option.some.inj h1
    cases Option.some.inj h2
    rw [e.1]
    simp [List.lookup]
  | (g, x) :: fs, n :: ns, i + 1, f, v, e, nd, h1, h2 => by
    simp only [List.map_cons, List.length_cons, List.take_succ_cons, List.cons.injEq] at e
    have nd := List.nodup_cons.mp nd
    have h1 : ns[i]? = some f := h1
    have ne : f ≠ g := fun z => nd.1 (by rw [← e.1, ← z]; exact List.mem_of_getElem? h1)
    have : (f == g) = false := by simpa using ne
    simp only [List.lookup, this]
    exact look_at e.2 nd.2 h1 h2
  | _ :: _, [], _, _, _, e, _, _, _ => by simp at e
theorem look_no : ∀ {fs : List (Str × V)} {f : Str}, f ∉ fs.map Prod.fst → fs.lookup f = none
  | [], _, _ => rfl
  | (g, x) :: fs, f, h => by
    simp only [List.map_cons, List.mem_cons, not_or] at h
    have : (f == g) = false := by simpa using h.1
    simp only [List.lookup, this]
    exact look_no h.2
/-- f is a field of these classes, at these places -/
def FOk (K : PySem.W.Frag) (C : Cs) (F : Nat → Option Nat) (f : Str) : Prop := ∀ c i, F c = some i → Cls K (C.at_ c) ∧ NoAttr K (C.at_ c) f ∧ (C.ly c)[i]? = some f ∧ (C.ly c).Nodup
def wFld (F : Nat → Option Nat) (w : WE) : WE := fun sl rt k => w sl rt fun x rt1 => match x with
  | .dat (.obj c ds) => match F c with
    | some i => match ds[i]? with
      | some d => k (.dat d) rt1
      | none => False
    | none => False
  | .ref r p => match tat rt1 r p with
    | some (.obj c ts) => match F c with
      | some i => match ts[i]? with
        | some u => (match u with | .dat d => k (.dat d) rt1 | _ => False)
        | none => False
      | none => False
    | _ => False
  | _ => False
theorem e_fld {F : Nat → Option Nat} {f : Str} (hF : FOk K C F f) {w : WE} : ∀ σ H Q, tE K C U (wFld F w) σ H Q → tFld K (tE K C U w) f σ H Q := fun σ H Q ⟨sl, rt, ρ, fps, G, k, s, xf, w, q⟩ =>
  ⟨sl, rt, ρ, fps, G, _, s, xf, w, fun x rt1 fps1 G1 H1 v r1 n1 v1 w1 => by
    split at w1
    · split at w1
      · rename_i c ds i hi
        split at w1
        · rename_i d hd
          cases v1 with
          | obj h n r =>
            obtain ⟨z, z1, z2⟩ := r.get hd
            obtain ⟨f1, f2, f3, f4⟩ := hF _ _ hi
            exact ⟨_, _, _, _, z, rfl, r1.sub _ _ h, f1, f2, look_at n f4 f3 z1, q (.dat d) rt1 fps1 G1 H1 _ r1 n1 z2 w1⟩
        · exact w1.elim
      · exact w1.elim
    · rename_i r p
      split at w1
      · rename_i c ts ht
        split at w1
        · rename_i i hi
          split at w1
          · rename_i u hu
            obtain ⟨a, fu, k1, k2, k3, _⟩ := r1.get ht v1
            cases k3 with
            | obj h n tr =>
              obtain ⟨z, fz, z1, z2, _⟩ := tr.get hu
              obtain ⟨f1, f2, f3, f4⟩ := hF _ _ hi
              split at w1
              · exact ⟨_, _, _, _, z, rfl, h, f1, f2, look_at n f4 f3 z1, q _ rt1 fps1 G1 H1 z r1 n1 (VR.ofD z2) w1⟩
              · exact w1.elim
          · exact w1.elim
        · exact w1.elim
      · exact w1.elim
    · exact w1.elim⟩
theorem we_fld {F : Nat → Option Nat} {f : Str} (hF : FOk X.K C F f) {w : WE} (he : PE X e (tE X.K C U w)) (hb : attributeBase e f X.env (eval e X.env) = eval e X.env) : PE X (.Attribute e f pos) (tE X.K C U (wFld F w)) := pe_imp (pe_fld he hb) (e_fld hF)
/-- o.m(..) of a class -/
def isObj (c : Nat) (x : Val) (rt : Roots) : Prop := match x with
  | .dat (.obj c' _) => c' = c
  | .ref r p => match tat rt r p with
    | some (.obj c' _) => c' = c
    | _ => False
  | _ => False
theorem RSt.isObj (r1 : RSt K C rt ρ fps G H) {x : Val} {v : V} {c : Nat} (v1 : VR K C G H ρ x v) (hx : isObj c x rt) : ∃ a dx fs, v = .ref a ∧ H a = some (.ins (C.at_ c) dx fs) ∧ fs.map Prod.fst = (C.ly c).take fs.length := by
  unfold Wv.isObj at hx
  split at hx
  · cases v1 with
    | obj h n r =>
      subst hx
      exact ⟨_, _, _, rfl, r1.sub _ _ h, n⟩
  · split at hx
    · rename_i ht
      obtain ⟨a, fu, k1, k2, k3, _⟩ := r1.get ht v1
      cases k3 with
      | obj h n tr =>
        subst hx
        exact ⟨_, _, _, rfl, h, n⟩
    · exact hx.elim
  · exact hx.elim
def wMeth (c : Nat) (cw : CW) (wo : WE) (w : WA) : WO := fun sl rt k => wo sl rt fun x rt1 => isObj c x rt1 ∧ w sl rt1 fun xs rt2 => dst (plc (x :: xs)) = true ∧ match getR rt2 (plc (x :: xs)) with
  | some ts => cw (ren (x :: xs)) ts (fun t ts' => k t (putR rt2 (plc (x :: xs)) ts')) fun y ts' => sl.ex y sl.sl (putR rt2 (plc (x :: xs)) ts')
  | none => False
theorem o_meth {c : Nat} {cw : CW} {wo : WE} {w : WA} {m : Str} (hm : m ∉ C.ly c) : ∀ σ H Q, tO K C U (wMeth c cw wo w) σ H Q → tMethX (C.at_ c) m (spW K C cw) (fun σ cls d H => U cls d σ H) (tE K C U wo) (tA K C U w) σ H Q := fun σ H Q ⟨sl, rt, ρ, fps, G, k, s, xf, w, q⟩ =>
  ⟨sl, rt, ρ, fps, G, _, s, xf, w, fun x rt1 fps1 G1 H1 v r1 n1 v1 ⟨hx, w1⟩ => by
    obtain ⟨a, dx, fs, rfl, h, n⟩ := r1.isObj v1 hx
    refine ⟨a, dx, fs, rfl, h, look_no fun z => hm (List.mem_of_mem_take (by rw [← n]; exact z)), sl, rt1, ρ, fps1, G1, _, s.step r1 n1 fun _ _ e => e, xf.later n1 (Pre.refl _), w1, fun xs rt2 fps2 G2 H2 vs r2 n2 v2 ⟨hd, w2⟩ => ?_⟩
    split at w2
    · rename_i ts ht
      have n3 := n1.trans n2
      exact sp_use r2 (.cons (v1.up n2 fun _ _ e => e) v2) hd ht w2 (fun t rt' fps' fp G' H' v r' n' o' new hk => q t rt' fps' fp G' H' v r' (n3.trans n') o' (fun a ha => (new a ha).elim (fun y => n3.new a y) fun y => .inr (n3.dom a y)) hk)
        fun y rt' fps' G' H' cls d r' n' xr hk => xf y _ rt' σ ρ fps' G' H' cls d (s.step r' (n3.trans n') fun _ _ e => e) (n3.trans n') (Pre.refl _) (xr.early n3.dom) hk
    · exact w2.elim⟩
theorem o_meth0 {c : Nat} {cw : CW} {wo : WE} {m : Str} (hm : m ∉ C.ly c) {σ : L2.St} {H : Hp} {Q : VK} (h : tO K C U (wMeth c cw wo wNil) σ H Q) : tMethX (C.at_ c) m (spW K C cw) (fun σ cls d H => U cls d σ H) (tE K C U wo) tNil σ H Q := by
  have := o_meth hm σ H Q h
  obtain ⟨sl, rt, ρ, fps, G, k, s, xf, w, q⟩ := this
  refine ⟨sl, rt, ρ, fps, G, k, s, xf, w, fun x rt' fps' G' H' v r n vr hk => ?_⟩
  obtain ⟨a, dx, fs, h1, h2, h3, h4⟩ := q x rt' fps' G' H' v r n vr hk
  refine ⟨a, dx, fs, h1, h2, h3, ?_⟩
  obtain ⟨sl2, rt2, ρ2, fps2, G2, k2, s2, _, w2, q2⟩ := h4
  exact q2 [] rt2 fps2 G2 H' [] s2.toRSt (Nx.refl _ _ _) .nil w2
theorem wo_meth {c : Nat} {cw : CW} {wo : WE} {w : WA} {m : Str} (hm : m ∉ C.ly c) (h : PE X e (tMethX (C.at_ c) m (spW K C cw) (fun σ cls d H => U cls d σ H) (tE K C U wo) (tA K C U w))) : PE X e (tO K C U (wMeth c cw wo w)) := pe_imp h (o_meth hm)
theorem wo_meth0 {c : Nat} {cw : CW} {wo : WE} {m : Str} (hm : m ∉ C.ly c) (h : PE X e (tMethX (C.at_ c) m (spW K C cw) (fun σ cls d H => U cls d σ H) (tE K C U wo) tNil)) : PE X e (tO K C U (wMeth c cw wo wNil)) := pe_imp h fun σ H Q q => o_meth0 hm q
/-- o.f = e -/
theorem putF_new : ∀ {fs : List (Str × V)} {f : Str} {v : V}, f ∉ fs.map Prod.fst → putF f v fs = fs ++ [(f, v)]
  | [], _, _, _ => rfl
  | (g, x) :: fs, f, v, h => by
    simp only [List.map_cons, List.mem_cons, not_or] at h
    show (if g = f then (g, v) :: fs else (g, x) :: putF f v fs) = _
    rw [if_neg fun z => h.1 z.symm, putF_new h.2]
    rfl
theorem putF_old : ∀ {fs : List (Str × V)} {ns : List Str} {i : Nat} {f : Str} {v : V}, fs.map Prod.fst = ns.take fs.length → ns.Nodup → ns[i]? = some f → i < fs.length → putF f v fs = fs.set i (f, v)
  | [], _, _, _, _, _, _, _, h => by simp at h
  | (g, x) :: fs, n :: ns, 0, f, v, e, _, h1, _ => by
    simp only [List.map_cons, List.length_cons, List.take_succ_cons, List.cons.injEq] at e
    cases Option.some.inj h1
    have e1 : g = n := e.1
    show (if g = n then (g, v) :: fs else (g, x) :: putF n v fs) = _
    rw [if_pos e1, e1]
    rfl
  | (g, x) :: fs, n :: ns, i + 1, f, v, e, nd, h1, h2 => by
    simp only [List.map_cons, List.length_cons, List.take_succ_cons, List.cons.injEq] at e
    have nd := List.nodup_cons.mp nd
    have h1 : ns[i]? = some f := h1
    have ne : g ≠ f := fun z => nd.1 (by rw [← e.1, z]; exact List.mem_of_getElem? h1)
    show (if g = f then (g, v) :: fs else (g, x) :: putF f v fs) = _
    rw [if_neg ne, putF_old e.2 nd.2 h1 (by simpa using h2)]
    rfl
  | _ :: _, [], _, _, _, e, _, _, _ => by simp at e
theorem idn_ins {b c dx : Addr} {fs fs' : List (Str × V)} (hb : H b = some (.ins c dx fs)) (k : ∀ (i : Nat) x, (fs.map Prod.snd)[i]? = some x → False → (fs'.map Prod.snd)[i]? = some x) : Idn H (upd H b (.ins c dx fs')) := by
  refine Idn.of (fun w hw => ?_)
  · obtain ⟨a, rfl, h⟩ := hw
    refine ⟨a, rfl, ?_⟩
    by_cases z : a = b
    · exact .inr (.inl ⟨c, dx, fs', by rw [z, upd_same]⟩)
    · rw [upd_ne z]
      exact h
def wSetF (F : Nat → Option Nat) (w : WO) (wx : WE) : WS := fun Z sl rt => w ⟨sl, Z.ex⟩ rt fun t rt1 => wx ⟨sl, Z.ex⟩ rt1 fun x rt2 => match x with
  | .ref r p => match tat rt2 r p with
    | some (.obj c ts) => match F c with
      | some i => ts.length < 900 ∧ ((i = ts.length ∧ Z.nx sl (rt2.modify r (T.put (.obj c (ts ++ [t])) p))) ∨ ∃ d u, t = .dat d ∧ ts[i]? = some u ∧ leafT u = true ∧ Z.nx sl (rt2.modify r (T.put (.obj c (ts.set i (.dat d))) p)))
      | none => False
    | _ => False
  | _ => False
theorem noPassW {P : Program} {w : World} : Passes (L2N.CX P w) X (fun _ _ _ => False) := fun pins σ H s e s' I c => by
  obtain ⟨_, _, _, _, _, _, _, _, _, _, _, _, z⟩ := c
  exact z.elim
theorem takesNo : L2N.Takes X (fun _ _ _ _ => False) := fun u s' x => by
  obtain ⟨_, _, _, _, _, _, _, _, _, _, _, _, _, _, _, _, z⟩ := x
  exact z.elim
end
end Wv
end

section
set_option Elab.async false
set_option linter.all false
set_option maxRecDepth 100000
set_option maxHeartbeats 4000000
namespace Wv
open PySem PySem.Spec PyProof.Rows L2 Evl
section
variable {K : PySem.W.Frag} {C : Cs} {U U' : UX} {G H G' H' G1 H1 G2 H2 : Hp} {sl sl' : Slots} {rt rt' : Roots} {σ : L2.St} {ρ ρ' ρ1 : List Addr} {fps fps' fps1 : List (List Addr)}
variable {X : Cx} {CX : CXT} {a b c e o : Expr} {es rest : List Expr} {wa wb wc : WE} {pos p apos : Pos} {Z : WEnds} {E : Ends} {st : Stmt}
theorem s_setF {F : Nat → Option Nat} {f : Str} (hF : FOk K C F f) {w : WO} {wx : WE} : ∀ D σ H, tS K C U (wSetF F w wx) D σ H → sFld K (tE K C U wx) (tO K C U w) f D σ H := fun D σ H ⟨Z, sl, rt, ρ, fps, G, s, w, fn⟩ =>
  ⟨⟨sl, Z.ex⟩, rt, ρ, fps, G, _, s, fn.xf, w, fun t rt1 fps1 fp G1 H1 y r1 n1 o1 new w1 => ⟨⟨sl, Z.ex⟩, rt1, ρ, fps1, G1, _, s.step r1 n1 fun _ _ e => e, fn.xf.later n1 (Pre.refl _), w1, fun x rt2 fps2 G2 H2 v r2 n2 v2 w2 => by
    split at w2
    · rename_i r p
      split at w2
      · rename_i c ts ht
        split at w2
        · rename_i i hi
          obtain ⟨f1, f2, f3, f4⟩ := hF _ _ hi
          obtain ⟨a, fu, z1, z2, z3, _⟩ := r2.get ht v2
          have o2 := o1.past n2
          cases z3 with
          | @obj b dx fs _ _ fq hb nm tr =>
            have hlen : fs.length = ts.length := by
              have := TRs.len tr
              simpa using this
            obtain ⟨w0, w2⟩ := w2
            refine ⟨b, _, dx, fs, rfl, hb, f1, f2, by omega, ?_⟩
            rcases w2 with ⟨he, w2⟩ | ⟨d, u, rfl, hu, hlf, w2⟩
            · have hnew : f ∉ fs.map Prod.fst := fun z => by
                rw [nm] at z
                obtain ⟨j, hj⟩ := List.getElem?_of_mem z
                have hj2 : j < fs.length := by
                  have := (List.getElem?_eq_some_iff.mp hj).1
                  rw [List.length_take] at this
                  omega
                rw [List.getElem?_take_of_lt hj2] at hj
                obtain ⟨p1, p2⟩ := List.getElem?_eq_some_iff.mp hj
                obtain ⟨p3, p4⟩ := List.getElem?_eq_some_iff.mp f3
                have := (List.getElem_inj f4).mp (p2.trans p4.symm)
                omega
              have e0 : putF f y fs = fs ++ [(f, y)] := putF_new hnew
              rw [e0]
              have idn : Idn H2 (upd H2 b (.ins (C.at_ c) dx (fs ++ [(f, y)]))) := idn_ins hb fun i q hq _ => by
                rw [List.map_append, List.getElem?_append_left (List.getElem?_eq_some_iff.mp hq).1]
                exact hq
              obtain ⟨fps3, r3, mem, hbF⟩ := r2.write (t' := .obj c (ts ++ [t])) (fn := fp) ht z1 z2 (by intro d q; cases q) idn (fun fu hfu => by
                cases hfu with
                | @obj _ dx' fs' _ _ fq' hb' nm' tr' =>
                  rw [hb] at hb'
                  cases hb'
                  refine ⟨List.mem_cons_self, fun nd dis => ?_⟩
                  have nb := (List.nodup_cons.mp nd).1
                  refine ⟨b :: (fq' ++ (fp ++ [])), .obj upd_same ?_ ?_, ?_⟩
                  · rw [List.map_append, nm, List.length_append, List.length_cons, List.length_nil]
                    have : (C.ly c).take (fs.length + (0 + 1)) = (C.ly c).take fs.length ++ [f] := by
                      rw [Nat.zero_add, List.take_succ, hlen, ← he, f3]
                      rfl
                    rw [this]
                    rfl
                  · rw [List.map_append]
                    exact TRs.app (TRs.stay (Ex.refl _) _ _ _ tr' fun q hq => upd_ne fun z => nb (by rw [← z]; exact hq)) (.cons (TR.stay (Ex.refl _) _ _ _ o2.tr fun q hq => upd_ne fun z => dis q hq (by rw [z]; exact List.mem_cons_self)) .nil)
                  · rw [List.append_nil]
                    exact List.Perm.refl _) o2.nd o2.ap o2.fr
              have nW : Nx fps2.flatten G2 H2 G2 (upd H2 b (.ins (C.at_ c) dx (fs ++ [(f, y)]))) fps2.flatten := Nx.write (fps' := fps2) hbF (by rw [hb]; exact fun q => nomatch q) idn (fp := []) (fun _ q => nomatch q)
              have n3 := (n1.trans n2).trans nW
              have n4 : Nx fps.flatten G H G2 (upd H2 b (.ins (C.at_ c) dx (fs ++ [(f, y)]))) fps3.flatten := ⟨n3.g, n3.keep, n3.dom, fun l hl => by
                rcases mem l hl with q | q
                · exact n3.new l q
                · exact new l q, n3.idn⟩
              exact fn.nx sl _ σ ρ fps3 G2 _ (s.step r3 n4 fun _ _ e => e) n4 (Pre.refl _) w2
            · have hi2 : i < fs.length := by rw [hlen]; exact (List.getElem?_eq_some_iff.mp hu).1
              have e0 : putF f y fs = fs.set i (f, y) := putF_old nm f4 f3 hi2
              rw [e0]
              have hd : DR K C G2 y d := by
                cases o2.tr with
                | dat h => exact h
              obtain ⟨vo, fo, q1, q2, _⟩ := tr.get hu
              have ms : (fs.set i (f, y)).map Prod.snd = (fs.map Prod.snd).set i y := by rw [List.map_set]
              have mf : (fs.set i (f, y)).map Prod.fst = (C.ly c).take (fs.set i (f, y)).length := by
                rw [List.map_set, nm, List.length_set]
                refine List.ext_getElem? fun j => ?_
                rw [List.getElem?_set]
                split
                · rename_i e
                  subst e
                  split
                  · rw [List.getElem?_take_of_lt hi2, f3]
                  · rename_i h
                    exfalso
                    rw [List.length_take] at h
                    have := (List.getElem?_eq_some_iff.mp f3).1
                    omega
                · rfl
              have idn : Idn H2 (upd H2 b (.ins (C.at_ c) dx (fs.set i (f, y)))) := idn_ins hb fun j q hq nq => by
                rw [ms]
                by_cases z : i = j
                · subst z
                  rw [q1] at hq
                  cases hq
                  exact absurd nq ((leaf_ok hlf q2).2.2 _ r2.sub)
                · rw [List.getElem?_set_ne z]
                  exact hq
              obtain ⟨fps3, r3, mem, hbF⟩ := r2.write (t' := .obj c (ts.set i (.dat d))) (fn := []) ht z1 z2 (by intro d q; cases q) idn (fun fu hfu => by
                cases hfu with
                | @obj _ dx' fs' _ _ fq' hb' nm' tr' =>
                  rw [hb] at hb'
                  cases hb'
                  refine ⟨List.mem_cons_self, fun nd dis => ?_⟩
                  have nb := (List.nodup_cons.mp nd).1
                  refine ⟨b :: fq', .obj upd_same mf ?_, by rw [List.append_nil]⟩
                  rw [ms]
                  exact TRs.set (TRs.stay (Ex.refl _) _ _ _ tr' fun q hq => upd_ne fun z => nb (by rw [← z]; exact hq)) hu hlf hd) List.nodup_nil (fun _ q => nomatch q) (fun _ q => nomatch q)
              have nW : Nx fps2.flatten G2 H2 G2 (upd H2 b (.ins (C.at_ c) dx (fs.set i (f, y)))) fps2.flatten := Nx.write (fps' := fps2) hbF (by rw [hb]; exact fun q => nomatch q) idn (fp := []) (fun _ q => nomatch q)
              have n3 := (n1.trans n2).trans nW
              have n4 : Nx fps.flatten G H G2 (upd H2 b (.ins (C.at_ c) dx (fs.set i (f, y)))) fps3.flatten := n3.less fun l hl => by
                rcases mem l hl with q | q
                · exact q
                · cases q
              exact fn.nx sl _ σ ρ fps3 G2 _ (s.step r3 n4 fun _ _ e => e) n4 (Pre.refl _) w2
        · exact w2.elim
      · exact w2.elim
    · exact w2.elim⟩⟩
theorem ws_setF {F : Nat → Option Nat} {f : Str} (hF : FOk X.K C F f) {w : WO} {wx : WE} {pos' : Pos} (ha : PE X o (tE X.K C U wx)) (hv : PE X e (tO X.K C U w)) (hs : swapsWith e (some (.Attribute o f pos')) pos.line X.env = pure false) : PS X (.Assign [.Attribute o f pos'] e pos) (tS X.K C U (wSetF F w wx)) :=
  ps_imp (ps_fld ha hv hs) (s_setF hF)

/-! ### comprehensions -/
def wipeS : List Nat → Slots → Slots
  | [], sl => sl
  | v :: vs, sl => (wipeS vs sl).set v none
theorem St.wipe (s : St K C sl rt σ ρ fps G H) : ∀ vs : List Nat, St K C (wipeS vs sl) rt (L2.wipe σ vs) ρ fps G H
  | [] => s
  | v :: vs => by
    have s2 := St.wipe s vs
    refine ⟨s2.toRSt, ?_, fun i x e => ?_⟩
    · show ((L2.wipe σ vs).set v none).length = ((wipeS vs sl).set v none).length
      rw [List.length_set, List.length_set, s2.len]
    · rcases get_set (show ((wipeS vs sl).set v none)[i]? = some (some x) from e) with ⟨_, q⟩ | ⟨n, q⟩
      · cases q
      · obtain ⟨w, h1, h2⟩ := s2.slot i x q
        exact ⟨w, by show ((L2.wipe σ vs).set v none)[i]? = _; rw [List.getElem?_set_ne n]; exact h1, h2⟩
theorem wipe_set : ∀ (vs : List Nat) (σ : L2.St) (j : Nat) (x : Option V), j ∈ vs → L2.wipe (σ.set j x) vs = L2.wipe σ vs
  | v :: vs, σ, j, x, h => by
    show (L2.wipe (σ.set j x) vs).set v none = (L2.wipe σ vs).set v none
    by_cases e : j ∈ vs
    · rw [wipe_set vs σ j x e]
    · have ej : j = v := by
        rcases List.mem_cons.mp h with z | z
        · exact z
        · exact absurd z e
      subst ej
      have : ∀ (vs : List Nat) (σ : L2.St), j ∉ vs → L2.wipe (σ.set j x) vs = (L2.wipe σ vs).set j x := by
        intro vs
        induction vs with
        | nil => exact fun _ _ => rfl
        | cons u us ih =>
          intro σ h
          simp only [List.mem_cons, not_or] at h
          show (L2.wipe (σ.set j x) us).set u none = ((L2.wipe σ us).set u none).set j x
          rw [ih σ h.2, List.set_comm _ _ h.1]
      rw [this vs σ e, List.set_set]
theorem wipe_idem : ∀ (vs : List Nat) (σ : L2.St), L2.wipe (L2.wipe σ vs) vs = L2.wipe σ vs := by
  intro vs σ
  have : ∀ (us : List Nat), (∀ u ∈ us, u ∈ vs) → L2.wipe (L2.wipe σ us) vs = L2.wipe σ vs := by
    intro us
    induction us with
    | nil => exact fun _ => rfl
    | cons u us ih =>
      intro h
      show L2.wipe ((L2.wipe σ us).set u none) vs = _
      rw [wipe_set vs _ u none (h u (by simp)), ih fun x hx => h x (by simp [hx])]
  exact this vs fun _ h => h
/-- a target stores in the block's own slots alone -/
def TgW (g : TG) (vs : List Nat) : Prop := ∀ v σ H Q, g v σ H (fun σ2 H2 => L2.wipe σ2 vs = L2.wipe σ vs → Q σ2 H2) → g v σ H Q
theorem tgw_name {j : Nat} {vs : List Nat} (h : j ∈ vs) : TgW (gName j) vs := fun v σ H Q q => q (wipe_set vs σ j _ h)
theorem tgw_all {vs : List Nat} : ∀ {js : List Nat}, (∀ j ∈ js, j ∈ vs) → ∀ xs σ H Q, gAll js xs σ H (fun σ2 H2 => L2.wipe σ2 vs = L2.wipe σ vs → Q σ2 H2) → gAll js xs σ H Q
  | [], _, xs, σ, H, Q, ⟨e, q⟩ => ⟨e, q rfl⟩
  | j :: js, h, xs, σ, H, Q, ⟨v, r, e, q⟩ => ⟨v, r, e, by
    refine tgw_all (js := js) (fun x hx => h x (by simp [hx])) r (σ.set j (some v)) H Q ?_
    rw [wipe_set vs σ j _ (h j (by simp))]
    exact q⟩
theorem tgw_tup {js vs : List Nat} {n : Nat} (h : ∀ j ∈ js, j ∈ vs) : TgW (gTup K n (gAll js)) vs := fun v σ H Q ⟨a, xs, e, h1, h2, q⟩ => ⟨a, xs, e, h1, h2, tgw_all h xs σ H Q q⟩
def wYes : WT := fun _ rt k => k true rt
theorem t_yes : ∀ σ H Q, tT K C U wYes σ H Q → tYes σ H Q := fun σ H Q ⟨sl, rt, ρ, fps, G, k, s, xf, w, q⟩ => q true rt fps G H s.toRSt (Nx.refl _ _ _) w
/-- no error leaves a comprehension -/
abbrev noU : UX := fun _ _ _ _ => False
def blk (sl : Slots) : Cxt := ⟨sl, fun _ _ _ => False⟩
def wLc (it : WI) (tg : Tg) (vs : List Nat) (tt : WT) (elt : WO) : WO := fun sl rt k => it sl rt fun ds rt1 => ∃ I : Nat → List T → Roots → Prop, I 0 [] rt1 ∧
  (∀ i d acc rt', ds[i]? = some d → I i acc rt' → acc.length < 40000 ∧ tg d (wipeS vs sl.sl) fun sl2 => tt (blk sl2) rt' fun b rt2 => (b = true → elt (blk sl2) rt2 fun t rt3 => I (i + 1) (acc ++ [t]) rt3) ∧ (b = false → I (i + 1) acc rt2)) ∧
  ∀ acc rt', I ds.length acc rt' → k (.lst acc) rt'
theorem o_lc {it : WI} {tg : Tg} {g : TG} {vs : List Nat} {tt : WT} {elt : WO} (hg : TgOk K C g tg) (hw : TgW g vs) : ∀ σ H Q, tO K C U (wLc it tg vs tt elt) σ H Q → tLc (tI K C U it) g (tT K C U' tt) (tO K C U' elt) vs σ H Q := fun σ H Q ⟨sl, rt, ρ, fps, G, k, s, xf, w, q⟩ =>
  ⟨sl, rt, ρ, fps, G, _, s, xf, w, fun ds rt1 fps1 G1 H1 J r1 n1 ⟨Gd, Y, wk, hGd, hY⟩ ⟨I, i0, it, fin⟩ Dl hDl => by
    have sW := s.wipe vs
    have hD0 : H Dl = none := n1.dom Dl hDl
    obtain ⟨r2, o2⟩ := r1.newL hDl (TRs.nil (K := K) (C := C) (G := G1) (H := H1)) List.nodup_nil (fun _ z => nomatch z) (fun _ z => nomatch z) (fun _ z => nomatch z)
    refine lc_it wk (fun i H' => ∃ acc rt' fps' G' fpD, I i acc rt' ∧ RSt K C rt' ρ fps' G' H' ∧ Nx fps.flatten G H G' H' fps'.flatten ∧ Ex G1 G' ∧ Own K C fps' G' H' (.lst acc) (.ref Dl) fpD ∧ ∀ a ∈ fpD, a ∈ fps.flatten ∨ H a = none)
      ⟨[], rt1, fps1, G1, _, i0, r2, n1.trans (Nx.grow hDl), Ex.refl _, o2, fun a ha => by
        have : a = Dl := by simpa using ha
        exact .inr (by rw [this]; exact hD0)⟩ (fun i H' _ ⟨acc, rt', fps', G', fpD, _, r', _, e', _⟩ => hGd H' (e'.trans r'.sub)) (fun i v H' H3 hi ⟨acc, rt', fps', G', fpD, hI, r', n', e', oD, newD⟩ y => ?_) fun H' ⟨acc, rt', fps', G', fpD, hI, r', n', _, oD, newD⟩ => q (.lst acc) rt' fps' fpD G' H' _ r' n' oD newD (fin acc rt' hI)
    have hd : ds[i]? = some ds[i] := List.getElem?_eq_getElem hi
    have s' := sW.step r' n' fun _ _ e => e
    obtain ⟨G3, s3, n3, d3⟩ := YD.step (hY i _ H' v H3 hd (e'.trans r'.sub) y) s' e'
    obtain ⟨hlen, ht⟩ := it i _ acc rt' hd hI
    have oD3 := oD.past n3
    have fr1 : ∀ a ∈ fpD, a ∉ fps.flatten → H a = none := fun a ha z => (newD a ha).elim (fun y => absurd y z) fun y => y
    refine hw v _ _ _ (hg _ v _ rt' _ ρ fps' G3 H3 _ _ s3 d3 ht fun sl2 σ2 hb s2 he => ⟨by rw [he, wipe_idem], blk sl2, rt', ρ, fps', G3, _, s2, Xf.no, hb, fun b rt2 fps2 G4 H4 r4 n4 w4 => ?_⟩)
    have oD4 := oD3.past n4
    have n14 := n'.trans (n3.trans n4)
    cases b with
    | false =>
      show _
      simp only [Bool.false_eq_true, if_false]
      exact ⟨acc, rt2, fps2, G4, fpD, w4.2 rfl, r4, n14, e'.trans (n3.g.trans n4.g), oD4, newD⟩
    | true =>
      simp only [if_true]
      refine ⟨blk sl2, rt2, ρ, fps2, G4, _, s2.step r4 n4 fun _ _ e => e, Xf.no, w4.1 rfl, fun t rt3 fps3 fp G5 H5 y5 r5 n5 o5 new5 hI5 => ?_⟩
      have oD5 := oD4.past n5
      have inD4 := oD4.inH
      have dis : ∀ a ∈ fp, a ∉ fpD := fun a ha z => by
        rcases new5 a ha with q | q
        · exact oD4.ap a z q
        · exact inD4 a z q
      have n15 := n14.trans n5
      obtain ⟨otr, ond, oap, ofr⟩ := oD5
      cases otr with
      | @lst _ accV _ fq hD tr =>
        have idn : Idn H5 (upd H5 Dl (.lst (accV ++ [y5]))) := idn_lst hD fun i q hq _ => by
          rw [List.getElem?_append_left (List.getElem?_eq_some_iff.mp hq).1]
          exact hq
        have nq := List.nodup_cons.mp ond
        have out : ∀ a, a ∈ fps3.flatten → a ≠ Dl := fun a ha z => oap Dl List.mem_cons_self (by rw [← z]; exact ha)
        refine ⟨accV, hD, sz_lt (by rw [TRs.len tr]; omega), acc ++ [t], rt3, fps3, G5, Dl :: (fq ++ (fp ++ [])), hI5, ⟨fun a u e => ?_, r5.root.stay (Ex.refl _) (fun a ha => upd_ne (out a ha)), r5.nd, r5.fr⟩, ⟨n15.g, fun l u h z => ?_, fun l h => n15.dom l (upd_none h), n15.new, n15.idn.trans idn⟩, e'.trans (n3.g.trans (n4.g.trans n5.g)), ⟨.lst upd_same (TRs.app (TRs.stay (Ex.refl _) _ _ _ tr fun a ha => upd_ne fun z => nq.1 (by rw [← z]; exact ha)) (.cons (TR.stay (Ex.refl _) _ _ _ o5.tr fun a ha => upd_ne fun z => dis a ha (by rw [z]; exact List.mem_cons_self)) .nil)), ?_, ?_, ?_⟩, ?_⟩
        · have : a ≠ Dl := fun z => by rw [z, ofr Dl List.mem_cons_self] at e; cases e
          rw [upd_ne this]
          exact r5.sub a u e
        · obtain ⟨k1, k2⟩ := n15.keep l u h z
          refine ⟨?_, k2⟩
          rw [upd_ne fun y => by rw [y, hD0] at h; cases h]
          exact k1
        · rw [List.append_nil]
          refine List.nodup_cons.mpr ⟨fun z => ?_, List.nodup_append.mpr ⟨nq.2, o5.nd, fun a ha b hb e => dis b hb (by rw [← e]; exact List.mem_cons_of_mem _ ha)⟩⟩
          rcases List.mem_append.mp z with q | q
          · exact nq.1 q
          · exact dis Dl q List.mem_cons_self
        · intro a ha
          rw [List.append_nil] at ha
          rcases List.mem_cons.mp ha with q | q
          · rw [q]; exact oap Dl List.mem_cons_self
          · rcases List.mem_append.mp q with q | q
            · exact oap a (List.mem_cons_of_mem _ q)
            · exact o5.ap a q
        · intro a ha
          rw [List.append_nil] at ha
          rcases List.mem_cons.mp ha with q | q
          · rw [q]; exact ofr Dl List.mem_cons_self
          · rcases List.mem_append.mp q with q | q
            · exact ofr a (List.mem_cons_of_mem _ q)
            · exact o5.fr a q
        · intro a ha
          rw [List.append_nil] at ha
          rcases List.mem_cons.mp ha with q | q
          · rw [q]; exact .inr hD0
          · rcases List.mem_append.mp q with q | q
            · exact newD a (List.mem_cons_of_mem _ q)
            · rcases new5 a q with z | z
              · exact n14.new a z
              · exact .inr (n14.dom a z)⟩
theorem wo_lc {it : WI} {tg : Tg} {g : TG} {vs : List Nat} {tt : WT} {elt : WO} (hg : TgOk K C g tg) (hw : TgW g vs) (h : PE X e (tLc (tI K C U it) g (tT K C noU tt) (tO K C noU elt) vs)) : PE X e (tO K C U (wLc it tg vs tt elt)) := pe_imp h (o_lc hg hw)
theorem wts_nil : PTs X [] (tT K C U wYes) := ⟨fun pins s σ H Q I h => pts_nil.run pins s σ H Q I (t_yes σ H Q h)⟩
end
end Wv
end

section
set_option Elab.async false
set_option linter.all false
set_option maxRecDepth 100000
set_option maxHeartbeats 4000000
namespace Wv
open PySem PySem.Spec PyProof.Rows L2 Evl
section
variable {K : PySem.W.Frag} {C : Cs} {U U' : UX} {G H G' H' G1 H1 G2 H2 : Hp} {sl sl' : Slots} {rt rt' : Roots} {σ : L2.St} {ρ ρ' ρ1 : List Addr} {fps fps' fps1 : List (List Addr)}
variable {X : Cx} {CX : CXT} {a b c e o : Expr} {es rest : List Expr} {wa wb wc : WE} {pos p apos : Pos} {Z : WEnds} {E : Ends} {st : Stmt}
theorem s_lt : S2 K C sLt (rI0 fun i j => .bl (decide (i < j))) := s_int0 fun _ _ _ => .bool _
theorem s_le : S2 K C sLe (rI0 fun i j => .bl (decide (i ≤ j))) := s_int0 fun _ _ _ => .bool _
theorem s_gt : S2 K C sGt (rI0 fun i j => .bl (decide (j < i))) := s_int0 fun _ _ _ => .bool _
theorem s_ge : S2 K C sGe (rI0 fun i j => .bl (decide (j ≤ i))) := s_int0 fun _ _ _ => .bool _
theorem op_eqA (hu : X.A.units + 64 < cLine) : OpR X (compareOp .Eq) (fun x y H Q => rEq x y H Q ∨ rEqD X.K x y H Q) := OpR.or' op_eq (op_eqD hu)
theorem op_neA (hu : X.A.units + 64 < cLine) : OpR X (compareOp .NotEq) (fun x y H Q => rNe x y H Q ∨ rNeD X.K x y H Q) := OpR.or' op_ne (op_neD hu)
/-- a comprehension kept by a name -/
theorem s_setLc {i : Nat} {it : WI} {tg : Tg} {g : TG} {vs : List Nat} {tt : WT} {elt : WO} (hg : TgOk K C g tg) (hw : TgW g vs) (h : PS X st (tAsg (tLc (tI K C U it) g (tT K C noU tt) (tO K C noU elt) vs) (gName i))) : PS X st (tS K C U (wNew i (wLc it tg vs tt elt))) :=
  ps_imp h fun D σ H q => o_lc hg hw σ H _ (s_new D σ H q)
theorem s_setLcF {i : Nat} {it : WI} {tg : Tg} {g : TG} {vs : List Nat} {tt : WT} {elt : WO} (hg : TgOk K C g tg) (hw : TgW g vs) (h : PS X st (tAsg (tLc (tI K C U it) g (tT K C noU tt) (tO K C noU elt) vs) (gName i))) : PS X st (tS K C U (wAsg i (wFrz (wLc it tg vs tt elt)))) :=
  ps_imp h fun D σ H q => o_lc hg hw σ H _ (e_frz σ H _ (s_asg D σ H q))

/-! ### in -/
def D.flat : D → Bool
  | .non => true
  | .bool _ => true
  | .int _ => true
  | .str _ => true
  | _ => false
def D.v : D → V
  | .non => .non
  | .bool b => .bl b
  | .int i => .int i
  | .str s => .str s
  | _ => .non
theorem flat_v {d : D} {v : V} (h : DR K C G v d) (f : d.flat = true) : v = d.v ∧ flatV v = true := by
  cases h <;> first | exact ⟨rfl, rfl⟩ | cases f
theorem flats_v : ∀ {ds : List D} {vs : List V}, DRs K C G vs ds → ds.all D.flat = true → vs = ds.map D.v ∧ vs.all flatV = true
  | [], _, .nil, _ => ⟨rfl, rfl⟩
  | d :: ds, _, .cons h r, f => by
    simp only [List.all_cons, Bool.and_eq_true] at f
    obtain ⟨h1, h2⟩ := flat_v h f.1
    obtain ⟨h3, h4⟩ := flats_v r f.2
    refine ⟨by rw [h1, h3]; rfl, ?_⟩
    rw [List.all_cons, h2, h4]
    rfl
/-- x in a list or tuple of flat items -/
def sIn (neg : Bool) : Sem2 := fun x y rt k => match x with
  | .dat d => match seqOf y rt with
    | some ds => d.flat = true ∧ ds.all D.flat = true ∧ k (.bool (if neg then !inV d.v (ds.map D.v) else inV d.v (ds.map D.v)))
    | none => False
  | _ => False
theorem s_in {neg : Bool} : S2 K C (sIn neg) (rIn K neg) := fun rt ρ fps G H x y v u s a b k Q w q => by
  unfold sIn at w
  split at w
  · split at w
    · rename_i ds e
      obtain ⟨w1, w2, w3⟩ := w
      obtain ⟨p, xs, rfl, h2, h3⟩ := s.seqOf e b
      obtain ⟨z1, z2⟩ := flats_v h3 w2
      obtain ⟨z3, z4⟩ := flat_v (show DR K C G v _ from a) w1
      refine ⟨p, xs, rfl, h2, z4, z2, ?_⟩
      rw [z1, z3]
      exact q _ _ w3 (.bool _)
    · exact w.elim
  · exact w.elim
/-- x in a text -/
def sInS (neg : Bool) : Sem2 := fun x y rt k => match x, y with
  | .dat (.str i), .dat (.str j) => k (.bool (if neg then !(!(Builtin.Str.occurrences j i 0 j.length 1).isEmpty) else !(Builtin.Str.occurrences j i 0 j.length 1).isEmpty))
  | _, _ => False
theorem s_inS : S2 K C (sInS false) (fun x y H Q => ∃ i j, x = .str i ∧ y = .str j ∧ Q (.bl (!(Builtin.Str.occurrences j i 0 j.length 1).isEmpty)) H) := fun rt ρ fps G H x y v u s a b k Q w q => by
  unfold sInS at w
  split at w
  · cases a
    cases b
    exact ⟨_, _, rfl, rfl, q _ _ w (.bool _)⟩
  · exact w.elim
theorem s_ninS : S2 K C (sInS true) (fun x y H Q => ∃ i j, x = .str i ∧ y = .str j ∧ Q (.bl (!(!(Builtin.Str.occurrences j i 0 j.length 1).isEmpty))) H) := fun rt ρ fps G H x y v u s a b k Q w q => by
  unfold sInS at w
  split at w
  · cases a
    cases b
    exact ⟨_, _, rfl, rfl, q _ _ w (.bool _)⟩
  · exact w.elim
/-- x in a tuple (or list) of data of any depth -/
def rInT (K : PySem.W.Frag) (neg : Bool) : R2 := fun x y H Q => ∃ d ds, Dp K H x d ∧ Dp K H y (.tuple ds) ∧ SeqAt.shaped d = true ∧ d.depth ≤ 32 ∧ SeqAt.shaped (.tuple ds) = true ∧ Q (.bl (if neg then !(ds.any fun z => PyData.eqv z d) else ds.any fun z => PyData.eqv z d)) H
theorem op_inT (hu : X.A.units + 64 < cLine) : OpR X (compareOp .In) (rInT X.K false) := by
  intro pins s σ H x y v u Q I rx ry h
  obtain ⟨d, ds, hd, he, sd, dep, se, q⟩ := h
  obtain ⟨as, r1⟩ := Dp.reads I d x v hd rx
  obtain ⟨bs, r2⟩ := Dp.reads I (.tuple ds) y u he ry
  exact SeqAt.in_tuple_reads r2 r1 (SeqAt.canLay_of_shaped se) (SeqAt.canLay_of_shaped sd) (by omega) ⟨.bl _, H, I, rfl, q⟩
def sInT : Sem2 := fun x y _ k => match x, y with
  | .dat d, .dat (.tup ds) => ∃ px ps, d.py = some px ∧ D.pys ds = some ps ∧ SeqAt.shaped px = true ∧ px.depth ≤ 32 ∧ SeqAt.shaped (.tuple ps) = true ∧ k (.bool (ps.any fun z => PyData.eqv z px))
  | _, _ => False
theorem s_inT : S2 K C sInT (rInT K false) := fun rt ρ fps G H x y v u s a b k Q w q => by
  unfold sInT at w
  split at w
  · obtain ⟨px, ps, h1, h2, h3, h5, h4, w⟩ := w
    exact ⟨px, ps, DR.py s.sub _ _ _ a h1, DR.py s.sub _ _ _ b (by simp [D.py, h2]), h3, h5, h4, q _ _ w (.bool _)⟩
  · exact w.elim

/-! ### lists and tuples made of others -/
theorem DRs.drop : ∀ {ds : List D} {vs : List V} (n : Nat), DRs K C G vs ds → DRs K C G (vs.drop n) (ds.drop n)
  | _, _, 0, h => h
  | [], _, n + 1, .nil => .nil
  | _ :: _, _, n + 1, .cons _ r => DRs.drop n r
theorem DRs.take : ∀ {ds : List D} {vs : List V} (n : Nat), DRs K C G vs ds → DRs K C G (vs.take n) (ds.take n)
  | _, _, 0, _ => .nil
  | [], _, n + 1, .nil => .nil
  | _ :: _, _, n + 1, .cons h r => .cons h (DRs.take n r)
def cutD (ds : List D) (lo hi : Option Int) : List D := (ds.drop (HT.sIx ds.length 0 lo)).take (HT.sIx ds.length ds.length hi - HT.sIx ds.length 0 lo)
theorem DRs.cut {ds : List D} {vs : List V} (h : DRs K C G vs ds) (lo hi : Option Int) : DRs K C G (cutV vs lo hi) (cutD ds lo hi) := by
  unfold cutV cutD
  rw [h.len]
  exact DRs.take _ (DRs.drop _ h)
/-- a slice's part -/
abbrev WP := Cxt → Roots → (Option Int → Roots → Prop) → Prop
def wNo : WP := fun _ rt k => k none rt
def wPart (w : WE) : WP := fun sl rt k => w sl rt fun x rt1 => match x with
  | .dat (.int i) => k (some i) rt1
  | _ => False
def tP (K : PySem.W.Frag) (C : Cs) (U : UX) (w : WP) : TO := fun σ H Q => ∃ sl rt ρ fps G k, St K C sl.sl rt σ ρ fps G H ∧ Xf K C U ρ fps G H sl.ex ∧ w sl rt k ∧ ∀ o rt' fps' G' H', RSt K C rt' ρ fps' G' H' → Nx fps.flatten G H G' H' fps'.flatten → k o rt' → Q o H'
theorem po_imp {e : Option Expr} {t t' : TO} (h : PO X e t) (i : ∀ σ H Q, t' σ H Q → t σ H Q) : PO X e t' := ⟨fun pins s σ H Q I q => h.run pins s σ H Q I (i σ H Q q)⟩
theorem wp_none : PO X none (tP K C U wNo) := po_imp po_none fun σ H Q ⟨sl, rt, ρ, fps, G, k, s, xf, w, q⟩ => q none rt fps G H s.toRSt (Nx.refl _ _ _) w
theorem wp_some {w : WE} (h : PE X e (tE K C U w)) : PO X (some e) (tP K C U (wPart w)) := po_imp (po_some h) fun σ H Q ⟨sl, rt, ρ, fps, G, k, s, xf, w, q⟩ =>
  ⟨sl, rt, ρ, fps, G, _, s, xf, w, fun x rt1 fps1 G1 H1 v r1 n1 v1 w1 => by
    split at w1
    · cases v1
      exact ⟨_, rfl, q _ rt1 fps1 G1 H1 r1 n1 w1⟩
    · exact w1.elim⟩
/-- xs[lo:hi], a new list -/
def wSlL (w : WE) (lo hi : WP) : WO := fun sl rt k => w sl rt fun x rt1 => lo sl rt1 fun l rt2 => hi sl rt2 fun h rt3 => ∃ ds, listOf x rt3 = some ds ∧ k (.lst ((cutD ds l h).map .dat)) rt3
theorem o_slL {w : WE} {lo hi : WP} : ∀ σ H Q, tO K C U (wSlL w lo hi) σ H Q → tSl (rSlL K) (tE K C U w) (tP K C U lo) (tP K C U hi) σ H Q := fun σ H Q ⟨sl, rt, ρ, fps, G, k, s, xf, w, q⟩ =>
  ⟨sl, rt, ρ, fps, G, _, s, xf, w, fun x rt1 fps1 G1 H1 v r1 n1 v1 w1 => ⟨sl, rt1, ρ, fps1, G1, _, s.step r1 n1 fun _ _ e => e, xf.later n1 (Pre.refl _), w1, fun l rt2 fps2 G2 H2 r2 n2 w2 =>
    ⟨sl, rt2, ρ, fps2, G2, _, s.step r2 (n1.trans n2) fun _ _ e => e, xf.later (n1.trans n2) (Pre.refl _), w2, fun h rt3 fps3 G3 H3 r3 n3 w3 => by
      obtain ⟨ds, e, w3⟩ := w3
      · obtain ⟨a, xs, rfl, h2, h3⟩ := r3.listOf e ((v1.up n2 fun _ _ e => e).up n3 fun _ _ e => e)
        refine ⟨a, xs, rfl, h2, fun p hp => ?_⟩
        have n := n1.trans (n2.trans n3)
        obtain ⟨r4, o4⟩ := r3.newL hp ((h3.cut l h).trs (H := H3)) List.nodup_nil (fun _ z => nomatch z) (fun _ z => nomatch z) (fun _ z => nomatch z)
        exact q _ rt3 fps3 _ G3 _ _ r4 (n.trans (Nx.grow hp)) o4 (fun b hb => by
          have : b = p := by simpa using hb
          rw [this]
          exact .inr (n.dom p hp)) w3⟩⟩⟩
theorem wo_slL {w : WE} {lo hi : WP} {l h : Option Expr} {p2 : Pos} (he : PE X e (tE X.K C U w)) (hl : PO X l (tP X.K C U lo)) (hh : PO X h (tP X.K C U hi)) : PE X (.Subscript e (.Slice l h none p2) pos) (tO X.K C U (wSlL w lo hi)) := pe_imp (pe_slice sl_list he hl hh) o_slL
/-- a tuple's slice: data -/
def wSlT (w : WE) (lo hi : WP) : WE := fun sl rt k => w sl rt fun x rt1 => lo sl rt1 fun l rt2 => hi sl rt2 fun h rt3 => match x with
  | .dat (.tup ds) => k (.dat (.tup (cutD ds l h))) rt3
  | _ => False
theorem cut_whole {ds : List D} {l h : Option Int} (e : HT.sIx ds.length 0 l = 0 ∧ HT.sIx ds.length ds.length h = ds.length) : cutD ds l h = ds := by
  unfold cutD
  rw [e.1, e.2]
  simp
theorem e_slT {w : WE} {lo hi : WP} : ∀ σ H Q, tE K C U (wSlT w lo hi) σ H Q → tSl (rSlA K) (tE K C U w) (tP K C U lo) (tP K C U hi) σ H Q := fun σ H Q ⟨sl, rt, ρ, fps, G, k, s, xf, w, q⟩ =>
  ⟨sl, rt, ρ, fps, G, _, s, xf, w, fun x rt1 fps1 G1 H1 v r1 n1 v1 w1 => ⟨sl, rt1, ρ, fps1, G1, _, s.step r1 n1 fun _ _ e => e, xf.later n1 (Pre.refl _), w1, fun l rt2 fps2 G2 H2 r2 n2 w2 =>
    ⟨sl, rt2, ρ, fps2, G2, _, s.step r2 (n1.trans n2) fun _ _ e => e, xf.later (n1.trans n2) (Pre.refl _), w2, fun h rt3 fps3 G3 H3 r3 n3 w3 => by
      have n := n1.trans (n2.trans n3)
      split at w3
      · rename_i ds
        have v3 := (v1.up n2 fun _ _ e => e).up n3 fun _ _ e => e
        cases v3 with
        | @tup a xs _ h2 r =>
          refine ⟨_, _, rfl, ex_t r3.sub h2, fun hw => ?_, fun hw p hp => ?_⟩
          · rw [r.len] at hw
            rw [cut_whole hw] at w3
            exact q (.dat (.tup ds)) rt3 fps3 G3 H3 _ r3 n (.tup h2 r) w3
          · refine q (.dat (.tup (cutD ds l h))) rt3 fps3 _ _ _ (r3.laid hp) (n.trans (Nx.laid r3.sub hp _)) ?_ w3
            exact .tup (st_of upd_same) (DRs.up (Ex.new (fresh_back r3.sub hp)) _ _ (r.cut l h))
      · exact w3.elim⟩⟩⟩
theorem we_slT {w : WE} {lo hi : WP} {l h : Option Expr} {p2 : Pos} (he : PE X e (tE X.K C U w)) (hl : PO X l (tP X.K C U lo)) (hh : PO X h (tP X.K C U hi)) : PE X (.Subscript e (.Slice l h none p2) pos) (tE X.K C U (wSlT w lo hi)) := pe_imp (pe_slice sl_tupA he hl hh) e_slT
/-- a tracked list of data -/
def lstOf (x : Val) (rt : Roots) : Option (List D) := match x with
  | .dat (.lst ds) => some ds
  | .ref r p => match tat rt r p with
    | some (.lst ts) => dats ts
    | _ => none
  | _ => none
theorem RSt.lstOf (s : RSt K C rt ρ fps G H) {x : Val} {v : V} {ds : List D} (h : lstOf x rt = some ds) (hv : VR K C G H ρ x v) : ∃ a xs, v = .ref a ∧ H a = some (.lst xs) ∧ DRs K C G xs ds := by
  unfold Wv.lstOf at h
  split at h
  · cases h
    cases hv with
    | lst h r => exact ⟨_, _, rfl, s.sub _ _ h, r⟩
  · split at h
    · rename_i ts ht
      obtain ⟨a, fu, _, _, k, _⟩ := s.get ht hv
      cases k with
      | lst h2 r =>
        have e := dats_map h
        rw [e] at r
        exact ⟨_, _, rfl, h2, (TRs.dats r).1⟩
    · cases h
  · cases h
/-- xs + ys, a new list -/
def wCatL (wa wb : WE) : WO := fun sl rt k => wa sl rt fun x rt1 => wb sl rt1 fun y rt2 => ∃ ds es, lstOf x rt2 = some ds ∧ lstOf y rt2 = some es ∧ ds.length + es.length ≤ 40000 ∧ k (.lst ((ds ++ es).map .dat)) rt2
theorem o_catL : ∀ σ H Q, tO K C U (wCatL wa wb) σ H Q → tOp rCat (tE K C U wa) (tE K C U wb) σ H Q := fun σ H Q ⟨sl, rt, ρ, fps, G, k, s, xf, w, q⟩ =>
  ⟨sl, rt, ρ, fps, G, _, s, xf, w, fun x rt1 fps1 G1 H1 v r1 n1 v1 w1 => ⟨sl, rt1, ρ, fps1, G1, _, s.step r1 n1 fun _ _ e => e, xf.later n1 (Pre.refl _), w1, fun y rt2 fps2 G2 H2 u r2 n2 v2 w2 => by
    obtain ⟨ds, es, e1, e2, w2⟩ := w2
    · obtain ⟨a, xs, rfl, h1, d1⟩ := r2.lstOf e1 (v1.up n2 fun _ _ e => e)
      obtain ⟨b, ys, rfl, h2, d2⟩ := r2.lstOf e2 v2
      refine ⟨a, b, xs, ys, rfl, rfl, h1, h2, sz_le (by rw [d1.len, d2.len]; exact w2.1), fun p hp => ?_⟩
      have n := n1.trans n2
      obtain ⟨r4, o4⟩ := r2.newL hp ((d1.app d2).trs (H := H2)) List.nodup_nil (fun _ z => nomatch z) (fun _ z => nomatch z) (fun _ z => nomatch z)
      exact q _ rt2 fps2 _ G2 _ _ r4 (n.trans (Nx.grow hp)) o4 (fun b hb => by
        have : b = p := by simpa using hb
        rw [this]
        exact .inr (n.dom p hp)) w2.2⟩⟩
theorem wo_catL (ha : PE X a (tE K C U wa)) (hb : PE X b (tE K C U wb)) : PE X (.BinOp a .Add b pos) (tO K C U (wCatL wa wb)) := pe_imp (pe_op op_cat ha hb) o_catL
/-- [x, ..] * n -/
def wRepL (wa wb : WE) : WO := fun sl rt k => wa sl rt fun x rt1 => wb sl rt1 fun y rt2 => match lstOf x rt2, y with
  | some ds, .dat (.int n) => (-100000 ≤ n ∧ n ≤ 100000) ∧ ds.length * n.toNat ≤ 100000 ∧ k (.lst (((List.replicate n.toNat ds).flatten).map .dat)) rt2
  | _, _ => False
theorem DRs.rep {ds : List D} {vs : List V} (h : DRs K C G vs ds) : ∀ n : Nat, DRs K C G (List.replicate n vs).flatten (List.replicate n ds).flatten
  | 0 => .nil
  | n + 1 => by
    rw [List.replicate_succ, List.replicate_succ, List.flatten_cons, List.flatten_cons]
    exact h.app (DRs.rep h n)
theorem o_repL : ∀ σ H Q, tO K C U (wRepL wa wb) σ H Q → tOp rRep (tE K C U wa) (tE K C U wb) σ H Q := fun σ H Q ⟨sl, rt, ρ, fps, G, k, s, xf, w, q⟩ =>
  ⟨sl, rt, ρ, fps, G, _, s, xf, w, fun x rt1 fps1 G1 H1 v r1 n1 v1 w1 => ⟨sl, rt1, ρ, fps1, G1, _, s.step r1 n1 fun _ _ e => e, xf.later n1 (Pre.refl _), w1, fun y rt2 fps2 G2 H2 u r2 n2 v2 w2 => by
    split at w2
    · rename_i ds n e1
      obtain ⟨a, xs, rfl, h1, d1⟩ := r2.lstOf e1 (v1.up n2 fun _ _ e => e)
      cases v2
      refine ⟨a, n, xs, rfl, rfl, h1, by omega, by omega, sz_of (by rw [d1.len]; exact w2.2.1), fun p hp => ?_⟩
      have nn := n1.trans n2
      obtain ⟨r4, o4⟩ := r2.newL hp ((d1.rep n.toNat).trs (H := H2)) List.nodup_nil (fun _ z => nomatch z) (fun _ z => nomatch z) (fun _ z => nomatch z)
      exact q _ rt2 fps2 _ G2 _ _ r4 (nn.trans (Nx.grow hp)) o4 (fun b hb => by
        have : b = p := by simpa using hb
        rw [this]
        exact .inr (nn.dom p hp)) w2.2.2
    · exact w2.elim⟩⟩
theorem wo_repL (ha : PE X a (tE K C U wa)) (hb : PE X b (tE K C U wb)) : PE X (.BinOp a .Mult b pos) (tO K C U (wRepL wa wb)) := pe_imp (pe_op op_rep ha hb) o_repL
/-- t + u -/
def wCatT (wa wb : WE) : WE := fun sl rt k => wa sl rt fun x rt1 => wb sl rt1 fun y rt2 => match x, y with
  | .dat (.tup ds), .dat (.tup es) => ds.length + es.length ≤ 40000 ∧ k (.dat (.tup (ds ++ es))) rt2
  | _, _ => False
theorem e_catT : ∀ σ H Q, tE K C U (wCatT wa wb) σ H Q → tOp (rCatA K) (tE K C U wa) (tE K C U wb) σ H Q := fun σ H Q ⟨sl, rt, ρ, fps, G, k, s, xf, w, q⟩ =>
  ⟨sl, rt, ρ, fps, G, _, s, xf, w, fun x rt1 fps1 G1 H1 v r1 n1 v1 w1 => ⟨sl, rt1, ρ, fps1, G1, _, s.step r1 n1 fun _ _ e => e, xf.later n1 (Pre.refl _), w1, fun y rt2 fps2 G2 H2 u r2 n2 v2 w2 => by
    have v1 := v1.up n2 fun _ _ e => e
    have n := n1.trans n2
    split at w2
    · rename_i ds es _
      cases v1 with
      | @tup a xs _ h1 d1 =>
        cases v2 with
        | @tup b ys _ h2 d2 =>
          refine ⟨a, b, xs, ys, rfl, rfl, ex_t r2.sub h1, ex_t r2.sub h2, sz_le (by rw [d1.len, d2.len]; exact w2.1), fun e => ?_, fun _ e => ?_, fun _ _ p hp => ?_⟩
          · subst e
            cases d1
            exact q (.dat (.tup es)) rt2 fps2 G2 H2 _ r2 n (.tup h2 d2) w2.2
          · subst e
            cases d2
            have := w2.2
            rw [List.append_nil] at this
            exact q (.dat (.tup ds)) rt2 fps2 G2 H2 _ r2 n (.tup h1 d1) this
          · exact q (.dat (.tup (ds ++ es))) rt2 fps2 _ _ _ (r2.laid hp) (n.trans (Nx.laid r2.sub hp _)) (.tup (st_of upd_same) (DRs.up (Ex.new (fresh_back r2.sub hp)) _ _ (d1.app d2))) w2.2
    · exact w2.elim⟩⟩
theorem we_catT (ha : PE X a (tE X.K C U wa)) (hb : PE X b (tE X.K C U wb)) : PE X (.BinOp a .Add b pos) (tE X.K C U (wCatT wa wb)) := pe_imp (pe_op op_catA ha hb) e_catT
/-- divmod -/
def wDivmod (w : WA) : WE := fun sl rt k => w sl rt fun xs rt1 => match xs with
  | [.dat (.int i), .dat (.int j)] => CDiv i j ∧ k (.dat (.tup [.int (i / j), .int (i % j)])) rt1
  | _ => False
theorem e_divmod {w : WA} : ∀ σ H Q, tE K C U (wDivmod w) σ H Q → tCB (fun xs H Q => ∃ i j, xs = [.int i, .int j] ∧ CDiv i j ∧ ∀ p, H p = none → Q (.ref p) (upd H p (.tup [.int (i / j), .int (i % j)]))) (tA K C U w) σ H Q := fun σ H Q ⟨sl, rt, ρ, fps, G, k, s, xf, w, q⟩ =>
  ⟨sl, rt, ρ, fps, G, _, s, xf, w, fun xs rt1 fps1 G1 H1 vs r1 n1 v1 w1 => by
    split at w1
    · rename_i i j
      cases v1 with
      | cons h r =>
        cases r with
        | cons h' r =>
          cases r
          cases h
          cases h'
          refine ⟨i, j, rfl, w1.1, fun p hp => q (.dat (.tup [.int (i / j), .int (i % j)])) rt1 fps1 _ _ _ (r1.laid hp) (n1.trans (Nx.laid r1.sub hp _)) ?_ w1.2⟩
          exact .tup (st_of upd_same) (.cons (.int _) (.cons (.int _) .nil))
    · exact w1.elim⟩
/-- enumerate(list), the pairs new -/
def wEnum (w : WA) : WI := fun sl rt k => w sl rt fun xs rt1 => match xs with
  | [.dat (.lst ds)] => k (ds.zipIdx.map fun q => .tup [.int (q.2 : Nat), q.1]) rt1
  | _ => False
theorem i_enum {w : WA} : ∀ σ H Q, tI K C U (wEnum w) σ H Q → iEnum K (tA K C U w) σ H Q := fun σ H Q ⟨sl, rt, ρ, fps, G, k, s, xf, w, q⟩ =>
  ⟨sl, rt, ρ, fps, G, _, s, xf, w, fun xs rt1 fps1 G1 H1 vs r1 n1 v1 w1 => by
    split at w1
    · rename_i ds
      cases v1 with
      | cons h r =>
        cases r
        cases h with
        | @lst a xs _ h2 r =>
          refine ⟨a, xs, rfl, sq_of (r1.sub _ _ h2), q _ rt1 fps1 G1 H1 _ r1 n1 ⟨fun H => SqL K H a xs, YPair (fun i => some (.int (i : Nat))) (fun i => xs[i]?), ?_, fun H2 e2 => sq_of (e2 _ _ h2), fun i d H2 v H3 hd _ y => ?_⟩ w1⟩
          · rw [List.length_map, List.length_zipIdx, ← r.len]
            exact walk_enum
          · obtain ⟨T, x, y', rfl, hT, rfl, e1, e2⟩ := y
            cases e1
            rw [List.getElem?_map, List.getElem?_zipIdx] at hd
            cases z : ds[i]? with
            | none => rw [z] at hd; cases hd
            | some d0 =>
              rw [z] at hd
              cases hd
              obtain ⟨u, z1, z2⟩ := r.get z
              have e3 : some u = some y' := z1.symm.trans e2
              cases e3
              refine .inr ⟨T, _, _, hT, rfl, rfl, rfl, .cons ?_ (.cons z2 .nil)⟩
              show DR K C G1 (.int (i : Nat)) (.int ((0 + i : Nat) : Int))
              rw [Nat.zero_add]
              exact .int _
    · exact w1.elim⟩
end
end Wv
end

section
set_option Elab.async false
set_option linter.all false
set_option maxRecDepth 100000
set_option maxHeartbeats 4000000
namespace Wv
open PySem PySem.Spec PyProof.Rows L2 Evl
section
variable {K : PySem.W.Frag} {C : Cs} {U : UX} {G H G' H' G1 H1 G2 H2 : Hp} {sl sl' : Slots} {rt rt' : Roots} {σ : L2.St} {ρ ρ' ρ1 : List Addr} {fps fps' fps1 : List (List Addr)}
variable {X : Cx} {CX : CXT} {a b c e o : Expr} {es rest : List Expr} {wa wb wc : WE} {pos p apos cpos : Pos} {Z : WEnds} {E : L2.St → XK} {st : Stmt} {k : Nat} {f Ca : Addr} {fd : FuncData} {ps : List Str} {sp : Sp} {x m name : Str} {ta to : TE} {t : TA} {ds : List Value}
/-! ### a tuple whose object is known -/
def tTupX (t : TA) : TE := fun σ H Q => t σ H fun xs H1 => xs.length ≤ sizeLine ∧ ∀ p ob, ob.dict = none → H1 p = none → Q (.ref p) (upd H1 p (.frz ob (.tup xs)))
theorem pe_tupX {x1} (h : PA X es t) : PE X (.Tuple es x1 pos) (tTupX t) := by
  refine ⟨fun pins s σ H Q I hq => ?_⟩
  refine wpAny_Tuple_spliced (thn (h.run pos pins s σ H _ I hq) fun us s1 ⟨xs, H1, I1, r, z, q⟩ => ⟨by rw [← r.length]; exact z, ?_⟩)
  have hf : H1 s1.heap.objs.size = none := I1.hok.fresh (Nat.le_refl _)
  refine ⟨.ref s1.heap.objs.size, upd H1 s1.heap.objs.size (.frz { cls := .type "tuple", data := .seq us.toArray } (.tup xs)), I1.laid (t' := s1.toks) (fun b u e => Heap.get?_push_of_some _ e) (Nat.le_refl _) ?_, rfl, q _ _ rfl hf⟩
  exact ⟨Heap.get?_push_size _ rfl, z, us, r, ⟨_, Heap.get?_push_size _ rfl, rfl, _, rfl⟩⟩
def wTupX (w : WA) : WE := fun sl rt k => w sl rt fun xs rt1 => match datsV xs with
  | some ds => ds.length ≤ 1000 ∧ k (.dat (.tpx ds)) rt1
  | none => False
theorem we_tupX {x1} {w : WA} (h : PA X es (tA K C U w)) : PE X (.Tuple es x1 pos) (tE K C U (wTupX w)) := pe_imp (pe_tupX h) fun σ H Q ⟨sl, rt, ρ, fps, G, k, s, xf, w, q⟩ =>
  ⟨sl, rt, ρ, fps, G, _, s, xf, w, fun xs rt1 fps1 G1 H1 vs r1 n1 v1 w1 => by
    split at w1
    · rename_i ds e
      have dr := v1.dats e
      refine ⟨sz_le (by rw [dr.len]; exact w1.1), fun p ob ho hp => q (.dat (.tpx ds)) rt1 fps1 _ _ _ (r1.laid hp) (n1.trans (Nx.laid r1.sub hp _)) ?_ w1.2⟩
      exact .tpx upd_same ho (DRs.up (Ex.new (fresh_back r1.sub hp)) _ _ dr)
    · exact w1.elim⟩

/-! ### index of a flat thing in a list of flat things -/
def flatD : D → Bool
  | .int _ => true
  | .str _ => true
  | .bool _ => true
  | .non => true
  | _ => false
theorem flatD_ok {d : D} {v : V} (h : flatD d = true) (r : DR K C G v d) : flatV v = true := by
  cases r <;> first | rfl | cases h
/-- j is the first place of y in ds -/
def firstAt (ds : List D) (y : D) (j : Nat) : Prop := (∃ z, ds[j]? = some z ∧ D.sc z y = some true) ∧ ∀ (m : Nat) z, m < j → ds[m]? = some z → D.sc z y = some false
theorem sc_eqV {x y : D} {v u : V} {b : Bool} (h : D.sc x y = some b) (hx : DR K C G v x) (hy : DR K C G u y) : eqV v u = b := by
  unfold D.sc at h
  split at h
  case h_15 => cases h
  all_goals
    cases hx; cases hy; cases h
    first
      | rfl
      | (unfold eqV; simp)
theorem flats_ok : ∀ {ds : List D} {xs : List V}, ds.all flatD = true → DRs K C G xs ds → xs.all flatV = true
  | _, _, _, .nil => rfl
  | _, _, h, .cons r rs => by
    rw [List.all_cons, Bool.and_eq_true] at h ⊢
    exact ⟨flatD_ok h.1 r, flats_ok h.2 rs⟩
def wIxL (wo : WE) (w : WA) : WE := fun sl rt k => wo sl rt fun x rt1 => match x with
  | .dat (.lst ds) => w sl rt1 fun ys rt2 => match ys with
    | [.dat y] => flatD y = true ∧ ds.all flatD = true ∧ ∃ j, firstAt ds y j ∧ k (.dat (.int (j : Nat))) rt2
    | _ => False
  | _ => False
theorem e_ixL {wo : WE} {w : WA} : ∀ σ H Q, tE K C U (wIxL wo w) σ H Q → tBM K "list" (rIndex K) (tE K C U wo) (tA K C U w) σ H Q := fun σ H Q ⟨sl, rt, ρ, fps, G, k, s, xf, w, q⟩ =>
  ⟨sl, rt, ρ, fps, G, _, s, xf, w, fun x rt1 fps1 G1 H1 v r1 n1 v1 w1 => by
    split at w1
    · rename_i ds
      have v1' := v1
      cases v1 with
      | @lst a xs _ h r =>
        refine ⟨.inl ⟨rfl, xs, sq_of (r1.sub _ _ h)⟩, sl, rt1, ρ, fps1, G1, _, s.step r1 n1 fun _ _ e => e, xf.later n1 (Pre.refl _), w1, fun ys rt2 fps2 G2 H2 us r2 n2 v2 w2 => ?_⟩
        split at w2
        · rename_i y
          cases v2 with
          | cons hy rr =>
            cases rr
            obtain ⟨f1, f2, j, ⟨⟨z, z1, z2⟩, z3⟩, w2⟩ := w2
            have h' := n2.g _ _ h
            have r' := DRs.up n2.g _ _ r
            obtain ⟨u, u1, u2⟩ := r'.get z1
            refine ⟨a, xs, _, j, u, rfl, rfl, sq_of (r2.sub _ _ h'), flatD_ok f1 hy, flats_ok f2 r', u1, sc_eqV z2 u2 hy, fun m z' hm hz' => ?_, q (.dat (.int j)) rt2 fps2 G2 H2 _ r2 (n1.trans n2) (DR.int _) w2⟩
            have hl : m < ds.length := by
              have := (List.getElem?_eq_some_iff.mp hz').1
              rw [r'.len] at this
              exact this
            obtain ⟨u', k1, k2⟩ := r'.get (List.getElem?_eq_getElem hl)
            rw [k1] at hz'
            cases hz'
            exact sc_eqV (z3 m _ hm (List.getElem?_eq_getElem hl)) k2 hy
        · exact w2.elim
    · exact w1.elim⟩
theorem we_ixL {wo : WE} {w : WA} (h : PE X e (tBM X.K "list" (rIndex X.K) (tE X.K C U wo) (tA X.K C U w))) : PE X e (tE X.K C U (wIxL wo w)) := pe_imp h e_ixL
/-- t.index(x), t a tuple whose object is known -/
def rIndexT : V → List V → Hp → VK → Prop := fun x xs H Q => ∃ (a : Addr) (ob : Obj) (ys : List V) (y : V) (j : Nat) (z : V), x = V.ref a ∧ xs = [y] ∧ H a = some (.frz ob (.tup ys)) ∧ flatV y = true ∧ ys.all flatV = true ∧ ys[j]? = some z ∧ eqV z y = true ∧
  (∀ (m : Nat) (z' : V), m < j → ys[m]? = some z' → eqV z' y = false) ∧ Q (.int (j : Nat)) H
theorem mt_indexT : MtR X "tuple.index" rIndexT := by
  intro pins s σ H x xs v us Q I rx rxs h
  obtain ⟨a, ob, ys, y, j, z, rfl, rfl, hs, fy, fys, hz, hzj, hno, q⟩ := h
  cases rx
  cases rxs with
  | cons ry rt =>
    rename_i uy ut
    cases rt
    obtain ⟨its, rv, pl, hlen⟩ := I.tuple (.inl (.inr ⟨ob, hs⟩))
    obtain ⟨⟨cls, dd, dt, sl⟩, ho, hc, n, hd⟩ := pl
    simp only at hc hd
    subst hc hd
    obtain ⟨u, hu, ru⟩ := rv.get hz
    obtain ⟨hjl, hje⟩ := List.getElem?_eq_some_iff.mp hu
    have hvl := rv.length
    have hj : j < its.toArray.size := by simpa using hjl
    refine call_meets PySem.F.slot_tuple_index ⟨_, ho, rfl⟩ PySem.F.entry_tuple_index (PySem.F.args_tuple_index_2 _ _)
      (TI.tuple_indexAt a its.toArray n dd sl uy (eqU y) j hj ?_ ?_) ⟨ho, fun u' hu' => mem_eqAt ry fy rv fys u' (by simpa using hu'), ?_⟩
    · have e1 : its.toArray[j] = u := by simpa using hje
      rw [e1, eqU_of ru (flat_at fys hz)]
      exact hzj
    · intro m hm hmj
      have hml : m < its.length := by simpa using hm
      have hmy : m < ys.length := by omega
      have hy' : ys[m]? = some ys[m] := List.getElem?_eq_getElem hmy
      obtain ⟨u2, hu2, ru2⟩ := rv.get hy'
      obtain ⟨_, hme⟩ := List.getElem?_eq_some_iff.mp hu2
      have e1 : its.toArray[m] = u2 := by simpa using hme
      rw [e1, eqU_of ru2 (flat_at fys hy')]
      exact hno m _ hmj hy'
    · exact ⟨.int (j : Nat), H, I.tok _, ⟨_, rfl⟩, q⟩
def tBMT (r : V → List V → Hp → VK → Prop) (to : TE) (t : TA) : TE := fun σ H Q => to σ H fun x H1 => (∃ a ob xs, x = .ref a ∧ H1 a = some (.frz ob (.tup xs)) ∧ ob.dict = none) ∧ t σ H1 fun xs H2 => r x xs H2 Q
theorem pe_bmT {T id : String} {r : V → List V → Hp → VK → Prop} (hT : T = "tuple") (pa : PlainAttrs T) (slot : Slot T name id) (hty : typeOf (.builtin id) = pure (.type "method_descriptor")) (hm : MtR X id r) (ho : PE X o to) (ha : PA X (e :: es) t)
    (hbase : attributeBase o name X.env (eval o X.env) = eval o X.env := by rfl)
    (hfew : ((backTo cpos (starEach (e :: es) X.env)).all (fun x => !x.1) && (backToKw cpos (keywordEach [] X.env)).all (fun x => x.1.isSome)
      && decide ((e :: es).length + ([] : List Keyword).length + (if ([] : List Keyword).isEmpty then 0 else 1) < 30)) = true := by rfl)
    (hline : (apos.endLine == cpos.line) = true := by rfl) (hs : starEach (e :: es) X.env = (false, eval e X.env) :: starEach es X.env := by rfl) (hplain : (backTo cpos (starEach es X.env)).any (·.1) = false := by rfl) :
    PE X (.Call (.Attribute o name apos) (e :: es) [] cpos) (tBMT r to t) := by
  refine ⟨fun pins s σ H Q I h => ?_⟩
  refine wpAny_Call_method_late hbase hfew hline rfl (thn (ho.run pins s σ H _ I h) fun v s1 ⟨x, H1, I1, r1, ⟨a, ob, xs, ea, hx, hd⟩, q1⟩ => ?_)
  subst ea
  obtain rfl : v = Value.ref a := r1
  obtain ⟨h0, _, _, _, o', h1, h2, _⟩ := (show ObjOk X.prog X.w H1 s1.heap a (.frz ob (.tup xs)) from I1.hok a _ hx)
  have e : o' = ob := by rw [h0] at h1; exact (Option.some.inj h1).symm
  subst e
  subst hT
  refine ⟨_, id, pa, slot, hty, ⟨_, h0, h2⟩, fun a' e' => by cases e'; exact ⟨_, h0, hd⟩, ?_⟩
  have hA := ha.run cpos pins s1 σ H1 _ I1 q1
  rw [hs] at hA ⊢
  refine Calls.callWith_builtin (by show (false || (backTo cpos (starEach es X.env)).any (·.1)) = false; rw [hplain] <;> rfl) (Calls.evalArgs_plain ?_)
  exact thn hA fun us s2 ⟨vs, H2, I2, r2, q2⟩ => hm pins s2 σ H2 (.ref a) vs _ us Q I2 rfl r2 q2
def wIxT (wo : WE) (w : WA) : WE := fun sl rt k => wo sl rt fun x rt1 => match x with
  | .dat (.tpx ds) => w sl rt1 fun ys rt2 => match ys with
    | [.dat y] => flatD y = true ∧ ds.all flatD = true ∧ ∃ j, firstAt ds y j ∧ k (.dat (.int (j : Nat))) rt2
    | _ => False
  | _ => False
theorem e_ixT {wo : WE} {w : WA} : ∀ σ H Q, tE K C U (wIxT wo w) σ H Q → tBMT rIndexT (tE K C U wo) (tA K C U w) σ H Q := fun σ H Q ⟨sl, rt, ρ, fps, G, k, s, xf, w, q⟩ =>
  ⟨sl, rt, ρ, fps, G, _, s, xf, w, fun x rt1 fps1 G1 H1 v r1 n1 v1 w1 => by
    split at w1
    · rename_i ds
      cases v1 with
      | @tpx a ob xs _ h hd r =>
        refine ⟨⟨a, ob, xs, rfl, r1.sub _ _ h, hd⟩, sl, rt1, ρ, fps1, G1, _, s.step r1 n1 fun _ _ e => e, xf.later n1 (Pre.refl _), w1, fun ys rt2 fps2 G2 H2 us r2 n2 v2 w2 => ?_⟩
        split at w2
        · rename_i y
          cases v2 with
          | cons hy rr =>
            cases rr
            obtain ⟨f1, f2, j, ⟨⟨z, z1, z2⟩, z3⟩, w2⟩ := w2
            have h' := n2.g _ _ h
            have r' := DRs.up n2.g _ _ r
            obtain ⟨u, u1, u2⟩ := r'.get z1
            refine ⟨a, ob, xs, _, j, u, rfl, rfl, r2.sub _ _ h', flatD_ok f1 hy, flats_ok f2 r', u1, sc_eqV z2 u2 hy, fun m z' hm hz' => ?_, q (.dat (.int j)) rt2 fps2 G2 H2 _ r2 (n1.trans n2) (DR.int _) w2⟩
            have hl : m < ds.length := by
              have := (List.getElem?_eq_some_iff.mp hz').1
              rw [r'.len] at this
              exact this
            obtain ⟨u', k1, k2⟩ := r'.get (List.getElem?_eq_getElem hl)
            rw [k1] at hz'
            cases hz'
            exact sc_eqV (z3 m _ hm (List.getElem?_eq_getElem hl)) k2 hy
        · exact w2.elim
    · exact w1.elim⟩
theorem we_ixT {wo : WE} {w : WA} (h : PE X e (tBMT rIndexT (tE K C U wo) (tA K C U w))) : PE X e (tE K C U (wIxT wo w)) := pe_imp h e_ixT

/-! ### sorted of fewer than 64 integers -/
def intsD : List D → Option (List Int)
  | [] => some []
  | .int i :: ds => (intsD ds).map (i :: ·)
  | _ :: _ => none
theorem intsD_ok : ∀ (ds : List D) (xs : List V) (ns : List Int), intsD ds = some ns → DRs K C G xs ds → xs = ns.map V.int
  | [], _, ns, h, r => by cases r; cases h; rfl
  | d :: ds, _, ns, h, r => by
    cases r with
    | cons r rs =>
      cases d with
      | int i =>
        cases r
        obtain ⟨ms, h1, rfl⟩ := Option.map_eq_some_iff.mp (show (intsD ds).map (i :: ·) = some ns from h)
        rw [intsD_ok ds _ ms h1 rs]
        rfl
      | _ => cases h
theorem trs_ints : ∀ (ns : List Int), TRs K C G H (ns.map V.int) (ns.map fun i => .dat (.int i)) []
  | [] => .nil
  | i :: ns => .cons (fp := []) (fq := []) (.dat (.int i)) (trs_ints ns)
def wSorted (w : WA) : WO := fun sl rt k => w sl rt fun xs rt1 => match xs with
  | [x] => match listOf x rt1 with
    | some ds => ∃ ns, intsD ds = some ns ∧ ns.length < 64 ∧ ∀ ns' : List Int, ns'.Perm ns → ns'.Pairwise (· ≤ ·) → k (.lst (ns'.map fun i => .dat (.int i))) rt1
    | none => False
  | _ => False
theorem o_sorted {w : WA} : ∀ σ H Q, tO K C U (wSorted w) σ H Q → tCB (rSorted K) (tA K C U w) σ H Q := fun σ H Q ⟨sl, rt, ρ, fps, G, k, s, xf, w, q⟩ =>
  ⟨sl, rt, ρ, fps, G, _, s, xf, w, fun xs rt1 fps1 G1 H1 vs r1 n1 v1 w1 => by
    split at w1
    · split at w1
      · rename_i ds e
        cases v1 with
        | cons h r =>
          cases r
          obtain ⟨a, xs, rfl, h2, h3⟩ := r1.listOf e h
          obtain ⟨ns, i1, i2, w1⟩ := w1
          have hx := intsD_ok _ _ _ i1 h3
          subst hx
          refine ⟨a, ns, rfl, h2, i2, fun ns' p hp hs hn => ?_⟩
          obtain ⟨r2, o2⟩ := r1.newL hn (trs_ints (H := H1) ns') List.nodup_nil (fun _ z => nomatch z) (fun _ z => nomatch z) (fun _ z => nomatch z)
          exact q _ rt1 fps1 _ G1 _ _ r2 (n1.trans (Nx.grow hn)) o2 (fun b hb => by
            have : b = p := by simpa using hb
            rw [this]
            exact .inr (n1.dom p hn)) (w1 ns' hp hs)
      · exact w1.elim
    · exact w1.elim⟩

/-! ### isinstance of an own instance or an int; an own == -/
structure IsK (K : PySem.W.Frag) (C : Addr) : Prop where
  cl : Cls K C
  ha : PySem.W.findIn K (.ref C) "__class__" = some (some (.builtin "object.__class__"))
  hn : PySem.W.specialIn K (.builtin "object.__class__") "__get__" = some (some (.builtin "getset_descriptor.__get__"))
  htk : PySem.W.takesIn K (.builtin "object.__class__") = some true
  hm : PySem.W.mroIn K C (.type "object") = some true
  me : PySem.W.kitOne K (.ref C) (.ref C) = some true
  int : PySem.W.kitOne K (.type "int") (.ref C) = some false
def wIsC (c : Nat) (w : WE) : WE := fun sl rt k => w sl rt fun x rt1 => match x with
  | .dat (.obj c' _) => c' = c ∧ k (.dat (.bool true)) rt1
  | .dat (.int _) => k (.dat (.bool false)) rt1
  | _ => False
theorem e_isC {c : Nat} {w : WE} (hc : IsK K (C.at_ c)) : ∀ σ H Q, tE K C U (wIsC c w) σ H Q → tCB (rIsi K) (tCons (tE K C U w) (tCons (tC (.ref (C.at_ c))) tNil)) σ H Q := fun σ H Q ⟨sl, rt, ρ, fps, G, k, s, xf, w, q⟩ =>
  ⟨sl, rt, ρ, fps, G, _, s, xf, w, fun x rt1 fps1 G1 H1 v r1 n1 v1 w1 => by
    split at w1
    · obtain ⟨e, w1⟩ := w1
      subst e
      cases v1 with
      | obj h n r => exact ⟨_, _, _, _, true, rfl, .own _, .base (.ins (r1.sub _ _ h) hc.cl hc.ha hc.hn hc.htk hc.hm), hc.me, q (.dat (.bool true)) rt1 fps1 G1 H1 _ r1 n1 (DR.bool _) w1⟩
    · cases v1 with
      | int i => exact ⟨_, _, _, _, false, rfl, .own _, .base (.int _), hc.int, q (.dat (.bool false)) rt1 fps1 G1 H1 _ r1 n1 (DR.bool _) w1⟩
    · exact w1.elim⟩
theorem we_isC {c : Nat} {w : WE} (hc : IsK X.K (C.at_ c)) (h : PE X e (tCB (rIsi X.K) (tCons (tE X.K C U w) (tCons (tC (.ref (C.at_ c))) tNil)))) : PE X e (tE X.K C U (wIsC c w)) := pe_imp h (e_isC hc)
end
end Wv
end

section
set_option Elab.async false
set_option linter.all false
set_option maxRecDepth 100000
set_option maxHeartbeats 4000000
namespace Wv
open PySem PySem.Spec PyProof.Rows L2 Evl
section
variable {K : PySem.W.Frag} {C : Cs} {U : UX} {G H G' H' G1 H1 G2 H2 : Hp} {sl sl' : Slots} {rt rt' : Roots} {σ : L2.St} {ρ ρ' ρ1 : List Addr} {fps fps' fps1 : List (List Addr)}
variable {X : Cx} {CX : CXT} {a b c e o : Expr} {es rest : List Expr} {wa wb wc : WE} {pos p apos cpos : Pos} {Z : WEnds} {E : XK} {st : Stmt} {k : Nat} {f Ca : Addr} {fd : FuncData} {ps : List Str} {sp : Sp} {x m name : Str} {ta to : TE} {t : TA} {ds : List Value}
/-! ### an own ==, both answers -/
/-- a def called from below -/
theorem run_at {A : Around} {pins : List (Addr × Obj)} {H : Hp} {s : Shared} {Q : VK} {us : List Value} {vs : List V} (sb : Sub X k A) (F : FnOk X.prog X.w X.K X.mg X.base CX k f fd ps sp) (hb : Binds X.K fd ps []) (hx : Passes CX X E)
    (I : Inv X pins σ H s) (r : Vals vs us) (h : sp vs H Q E) : wpAny (model X.prog X.w) A (call (.ref f) us) (EP X pins σ Q) X.xe s := by
  have e0 : Env0 X.prog X.w X.K X.mg X.base A X.stack s H := by
    have e := I.env0
    exact ⟨by rw [sb.fr]; exact e.frames, e.mod, e.bs, e.bsz, e.funs, e.frf, e.hok, e.bare⟩
  have hl := F.len _ _ _ _ h
  refine wpAny_call (codeAny_mono (F.run A X.stack s H ⟨us, []⟩ us vs Q E sb.room e0 (by
    have := hb s us I.kIn (by rw [← hl, r.length]; simp)
    simpa using this) r h) fun z s' hq => ?_)
  cases z with
  | error e => exact hx pins σ H s e s' I hq
  | ok fl =>
    cases fl with
    | ret w => exact I.after hq
    | next => exact False.elim hq
    | brk => exact False.elim hq
    | cont => exact False.elim hq
def rOwn (Ca : Addr) (sp : Sp) (neg : Bool) : R2 := fun x y H Q => ∃ a dx fs, x = .ref a ∧ H a = some (.ins Ca dx fs) ∧ ((∃ i, y = .int i) ∨ ∃ b dy gs, y = .ref b ∧ H b = some (.ins Ca dy gs)) ∧
  sp [x, y] H (fun v H' => ∃ b, v = .bl b ∧ Q (.bl (neg != b)) H') fun _ _ _ => False
structure EqK (K : PySem.W.Frag) (Ca f : Addr) : Prop where
  eq : PySem.W.findIn K (.ref Ca) "__eq__" = some (some (.ref f))
  ne : PySem.W.findIn K (.ref Ca) "__ne__" = some (some (.builtin "object.__ne__"))
  fn : PySem.W.isFn K (.ref f) = true
  hm : PySem.W.mroIn K Ca (.type "object") = some true
theorem not_int {K : PySem.W.Frag} {C : Addr} : PySem.W.notFirst K C (.type "int") = true := by
  have e : fastBuiltinMro "int" = some [.type "int", .type "object"] := by decide +kernel
  have : PySem.W.subIn K (.type "int") (.ref C) = some false := by
    show (fastBuiltinMro "int").map (·.contains (.ref C)) = some false
    rw [e]
    first
      | rfl
      | simp
  unfold PySem.W.notFirst
  rw [this]
  simp
theorem op_ownEq (F : FnOk X.prog X.w X.K X.mg X.base CX k f fd ps sp) (hr : Room k X.A) (hk : EqK X.K Ca f) (hb : Binds X.K fd ps []) (hx : Passes CX X fun _ _ _ => False) : OpR X (compareOp .Eq) (rOwn Ca sp false) := by
  intro pins s σ H x y v u Q I rx ry ⟨a, dx, fs, ex, ha, hy, h⟩
  subst ex
  obtain rfl : v = Value.ref a := rx
  obtain ⟨mA, J, _⟩ := ins_get I.hok ha
  obtain ⟨od, J, _⟩ := J.look
  obtain ⟨m, hF⟩ := I.fr
  have r2 : Vals [V.ref a, y] [Value.ref a, u] := .cons rfl (.cons ry .nil)
  have hcall := run_at ⟨hr, rfl⟩ F hb hx I r2 h
  have back : wpAny (model X.prog X.w) X.A (call (.ref f) [.ref a, u]) (PySem.W.CmpBack (EP X pins σ Q)) X.xe s := wpAny_mono hcall (fun w s' hw => by
    obtain ⟨z, H', I', rz, b, ez, q⟩ := hw
    subst ez
    cases rz
    exact ⟨.bl b, H', I', rfl, by simpa using q⟩) fun _ _ z => z
  show wpAny (model X.prog X.w) X.A (richCompare .Eq (.ref a) u) (EP X pins σ Q) X.xe s
  rcases hy with ⟨i, rfl⟩ | ⟨b, dy, gs, rfl, hb'⟩
  · obtain ⟨t, rfl⟩ := ry
    exact PySem.W.cmp_K (op := .Eq) (tb := .type "int") hr.units0 hF I.ok.mod.kin J (PySem.W.Looks.of_pure rfl) not_int hk.eq hk.fn back
  · obtain rfl : u = Value.ref b := ry
    obtain ⟨mB, J', _⟩ := ins_get I.hok hb'
    obtain ⟨od', J', _⟩ := J'.look
    exact PySem.W.cmp_K (op := .Eq) (tb := .ref Ca) hr.units0 hF I.ok.mod.kin J J'.type (by simp [PySem.W.notFirst]) hk.eq hk.fn back
section
variable {A : Around} {EV : Value → Shared → Prop} {s : Shared} {ax : Addr} {ox : Obj} {od : Option Obj}
theorem ifBound_ne {args : List Value} {Q : Option Value → Shared → Prop} (hX : K.In s.heap) (I : PySem.W.InstAt s.heap ax ox Ca od) (hs : PySem.W.findIn K (.ref Ca) "__ne__" = some (some (.builtin "object.__ne__")))
    (h : wpAny (model X.prog X.w) A (call (.builtin "object.__ne__") (.ref ax :: args)) (fun v => Q (some v)) EV s) : wpAny (model X.prog X.w) A (callSpecialIfBound? (.ref ax) "__ne__" args) Q EV s := by
  simp only [callSpecialIfBound?, bindSpecialIfBound?]
  refine wpAny_holding (wpAny_bind (wpAny_bind (wpAny_bind (I.type.here ((PySem.W.looks_findIn hX hs).here ?_)))))
  refine wpAny_bind (wpAny_askSetting (wpAny_ite ?_))
  have fin : wpAny (model X.prog X.w) A (call (.builtin "object.__ne__") ([.ref ax] ++ args) >>= fun v => pure (some v)) Q EV s := wpAny_bind (wpAny_mono h (fun v s' h' => wpAny_pure h') fun _ _ h' => h')
  split
  · exact wpAny_bind (wpAny_of_eq (F.cmp_object.ne.bind _) (wpAny_pure (by exact fin)))
  · exact wpAny_tryCatch (wpAny_bind (wpAny_of_eq (F.cmp_object.ne.bind _) (wpAny_pure (by exact fin))))
theorem entry_ne {y : Value} {Q : PySem.Fin → Shared → Prop} (hX : K.In s.heap) (I : PySem.W.InstAt s.heap ax ox Ca od) (hk : EqK K Ca f) (hu : A.units < cLine)
    (h : wpAny (model X.prog X.w) A (call (.ref f) [.ref ax, y]) (fun v s' => ∃ b, v = .bool b ∧ Q (.done (.ret (.bool (!b)))) s') EV s) : wpAny (model X.prog X.w) A (Builtin.«object.__ne__» ⟨[.ref ax, y], []⟩) Q EV s := by
  unfold Builtin.«object.__ne__»
  repeat (first
    | with_reducible refine wpAny_cRoomFor hu ?_
    | (refine wpAny_bind (m := callSpecialIfBound? (.ref ax) (Str.ofString "__eq__") [y])
        (PySem.W.ifBound_K hX I hk.eq hk.fn (wpAny_mono h (fun r s' hr => by
          obtain ⟨b, rfl, hq⟩ := hr
          repeat (first | exact hq | exact wpAny_pure hq | exact wpAny_truthy_bool hq | (refine wpAny_bind (m := truthy (.bool _)) (wpAny_truthy_bool ?_)) | wp_step)) fun _ _ e => e)))
    | wp_step)
theorem rc_ne {y tb : Value} {Q : Value → Shared → Prop} (hX : K.In s.heap) (I : PySem.W.InstAt s.heap ax ox Ca od) (hk : EqK K Ca f) (hu : A.units + 1 < cLine) (hb : PySem.W.Looks (model X.prog X.w) s.heap (typeOf y) tb) (hn : PySem.W.notFirst K Ca tb = true)
    (h : wpAny (model X.prog X.w) A.in1 (call (.ref f) [.ref ax, y]) (fun v s' => ∃ b, v = .bool b ∧ Q (.bool (!b)) s') EV s) : wpAny (model X.prog X.w) A (richCompare .NotEq (.ref ax) y) Q EV s := by
  have one : wpAny (model X.prog X.w) A (tryCompare (.ref ax) (cmpInfo .NotEq).2.1 y) (fun r s' => ∃ v, r = some v ∧ Q v s') EV s := by
    unfold tryCompare
    refine wpAny_bind (ifBound_ne hX I hk.ne (wpAny_call (codeAny_call_builtin F.cmp_object.ne.plain F.cmpEntry_ne
      (PySem.W.check_slot F.cmpKind_ne F.cmpSplit_ne (I.type.andThen (PySem.W.looks_mroIn hX hk.hm)) (F.cmpArgs_ne _ _) (entry_ne (A := A.in1) hX I hk hu (wpAny_mono h (fun v s' hv => ?_) fun _ _ e => e))))))
    obtain ⟨b, rfl, hq⟩ := hv
    first
      | exact ⟨b, rfl, wpAny_pure ⟨_, rfl, hq⟩⟩
      | exact ⟨b, rfl, wpAny_pure (wpAny_pure ⟨_, rfl, hq⟩)⟩
  unfold richCompare
  simp only [oneThing_ref]
  refine wpAny_holding (wpAny_bind (wpAny_cRoomFor (Nat.lt_of_succ_lt hu) ?_))
  refine wpAny_bind (I.type.here (wpAny_bind (hb.here ?_)))
  split
  · rename_i q
    have e : PySem.W.subIn K tb (.ref Ca) = some false := by
      rcases Bool.or_eq_true_iff.mp hn with e | e
      · rw [beq_iff_eq.mp e] at q; simp at q
      · exact beq_iff_eq.mp e
    refine wpAny_bind ((PySem.W.looks_subIn hX e).here ?_)
    simp only [Bool.false_eq_true, if_false]
    refine wpAny_bind (wpAny_mono one (fun r s' z => ?_) fun _ _ e => e)
    obtain ⟨v, rfl, hq⟩ := z
    exact wpAny_pure hq
  · refine wpAny_bind (wpAny_pure ?_)
    simp only [Bool.false_eq_true, if_false]
    refine wpAny_bind (wpAny_mono one (fun r s' z => ?_) fun _ _ e => e)
    obtain ⟨v, rfl, hq⟩ := z
    exact wpAny_pure hq
end
theorem op_ownNe (F : FnOk X.prog X.w X.K X.mg X.base CX k f fd ps sp) (hr : Room (k + 1) X.A) (hk : EqK X.K Ca f) (hb : Binds X.K fd ps []) (hx : Passes CX X fun _ _ _ => False) : OpR X (compareOp .NotEq) (rOwn Ca sp true) := by
  intro pins s σ H x y v u Q I rx ry ⟨a, dx, fs, ex, ha, hy, h⟩
  subst ex
  obtain rfl : v = Value.ref a := rx
  obtain ⟨mA, J, _⟩ := ins_get I.hok ha
  obtain ⟨od, J, _⟩ := J.look
  have r2 : Vals [V.ref a, y] [Value.ref a, u] := .cons rfl (.cons ry .nil)
  have sb : Sub X (k + 1) X.A := ⟨hr, rfl⟩
  have hcall := run_at sb.in1 F hb hx I r2 h
  have back : wpAny (model X.prog X.w) X.A.in1 (call (.ref f) [.ref a, u]) (fun v s' => ∃ b, v = .bool b ∧ EP X pins σ Q (.bool (!b)) s') X.xe s := wpAny_mono hcall (fun w s' hw => by
    obtain ⟨z, H', I', rz, b, ez, q⟩ := hw
    subst ez
    cases rz
    exact ⟨b, rfl, .bl (!b), H', I', rfl, by simpa using q⟩) fun _ _ z => z
  have hu : X.A.units + 1 < cLine := by have := hr.un; omega
  show wpAny (model X.prog X.w) X.A (richCompare .NotEq (.ref a) u) (EP X pins σ Q) X.xe s
  rcases hy with ⟨i, rfl⟩ | ⟨b, dy, gs, rfl, hb'⟩
  · obtain ⟨t, rfl⟩ := ry
    exact rc_ne (tb := .type "int") I.kIn J hk hu (PySem.W.Looks.of_pure rfl) not_int back
  · obtain rfl : u = Value.ref b := ry
    obtain ⟨mB, J', _⟩ := ins_get I.hok hb'
    obtain ⟨od', J', _⟩ := J'.look
    exact rc_ne (tb := .ref Ca) I.kIn J hk hu J'.type (by simp [PySem.W.notFirst]) back
/-- a == b, a != b of an own instance and an instance of its class, or an int -/
def wOwn (c : Nat) (cw : CW) (neg : Bool) (wa wb : WE) : WE := fun sl rt k => wa sl rt fun x rt1 => wb sl rt1 fun y rt2 => match x, y with
  | .dat (.obj c1 d1), .dat (.obj c2 d2) => c1 = c ∧ c2 = c ∧ cw [x, y] [] (fun t _ => match t with
      | .dat (.bool b) => k (.dat (.bool (neg != b))) rt2
      | _ => False) fun _ _ => False
  | .dat (.obj c1 d1), .dat (.int i) => c1 = c ∧ cw [x, y] [] (fun t _ => match t with
      | .dat (.bool b) => k (.dat (.bool (neg != b))) rt2
      | _ => False) fun _ _ => False
  | _, _ => False
theorem e_own {c : Nat} {cw : CW} {neg : Bool} : ∀ σ H Q, tE K C U (wOwn c cw neg wa wb) σ H Q → tOp (rOwn (C.at_ c) (spW K C cw) neg) (tE K C U wa) (tE K C U wb) σ H Q := fun σ H Q ⟨sl, rt, ρ, fps, G, k, s, xf, w, q⟩ =>
  ⟨sl, rt, ρ, fps, G, _, s, xf, w, fun x rt1 fps1 G1 H1 v r1 n1 v1 w1 => ⟨sl, rt1, ρ, fps1, G1, _, s.step r1 n1 fun _ _ e => e, xf.later n1 (Pre.refl _), w1, fun y rt2 fps2 G2 H2 u r2 n2 v2 w2 => by
    have v1 := v1.up n2 fun _ _ e => e
    have n3 := n1.trans n2
    have main : ∀ d1 d2, x = .dat d1 → y = .dat d2 → (cw [x, y] [] (fun t _ => match t with
        | .dat (.bool b) => k (.dat (.bool (neg != b))) rt2
        | _ => False) fun _ _ => False) → spW K C cw [v, u] H2 (fun v H' => ∃ b, v = .bl b ∧ Q (.bl (neg != b)) H') fun _ _ _ => False := fun d1 d2 e1 e2 w => by
      subst e1 e2
      refine sp_use (k := fun t rt' => match t with
        | .dat (.bool b) => k (.dat (.bool (neg != b))) rt'
        | _ => False) (kx := fun _ _ => False) r2 (.cons v1 (.cons v2 .nil)) rfl rfl w (fun t rt' fps' fp G' H' v r' n' o' new hk => ?_) fun _ _ _ _ _ _ _ _ _ _ z => z.elim
      split at hk
      · rename_i b
        cases o'.tr with
        | dat h =>
          cases h
          exact ⟨b, rfl, q (.dat (.bool (neg != b))) rt' fps' G' H' _ r' (n3.trans n') (DR.bool _) hk⟩
      · exact hk.elim
    split at w2
    · obtain ⟨e1, e2, w2⟩ := w2
      subst e1
      have w3 := main _ _ rfl rfl w2
      cases v1 with
      | obj h n r =>
        cases v2 with
        | obj h' n' r' =>
          subst e2
          exact ⟨_, _, _, rfl, r2.sub _ _ h, .inr ⟨_, _, _, rfl, r2.sub _ _ h'⟩, w3⟩
    · obtain ⟨e1, w2⟩ := w2
      subst e1
      have w3 := main _ _ rfl rfl w2
      cases v1 with
      | obj h n r =>
        cases v2
        exact ⟨_, _, _, rfl, r2.sub _ _ h, .inl ⟨_, rfl⟩, w3⟩
    · exact w2.elim⟩⟩
theorem we_own {c : Nat} {cw : CW} {op : CmpOp} {neg : Bool} (ho : OpR X (compareOp op) (rOwn (C.at_ c) (spW K C cw) neg)) (ha : PE X a (tE K C U wa)) (hb : PE X b (tE K C U wb)) (hm : behindInMarks op b = false) : PE X (.Compare a [op] [b] pos) (tE K C U (wOwn c cw neg wa wb)) := pe_imp (pe_cmpR ho ha hb hm) e_own
theorem wt_own {c : Nat} {cw : CW} {op : CmpOp} {neg : Bool} (ho : OpR X (compareOp op) (rOwn (C.at_ c) (spW K C cw) neg)) (ha : PE X a (tE K C U wa)) (hb : PE X b (tE K C U wb)) (hm : behindInMarks op b = false) : PT X (.Compare a [op] [b] pos) (tT K C U (wB (wOwn c cw neg wa wb))) :=
  pt_imp (pt_cmpR ho ha hb hm) fun σ H Q h => e_own σ H _ (t_test σ H Q h)
end
end Wv
end

section
set_option Elab.async false
set_option linter.all false
set_option maxRecDepth 100000
set_option maxHeartbeats 4000000
namespace Wv
open PySem PySem.Spec PyProof.Rows L2 Evl
open PySem (Sem.wp)
theorem meets_enumerate_newT (l : Addr) (items : Array Value) (n : Nat) (dct : Option Addr) (sl : Array (Option Value)) :
    Meets (Builtin.«enumerate.__new__» ⟨[.type "enumerate", .ref l], []⟩) (fun _ R s => s.heap.get? l = some { cls := .type "tuple", dict := dct, data := .seq items n, slots := sl } ∧
      R (.ok (.ret (.ref (s.heap.push { cls := .type "tuple_iterator", data := .fields #[.ref l, .int 0 0] }).objs.size)))
        { s with heap := (s.heap.push { cls := .type "tuple_iterator", data := .fields #[.ref l, .int 0 0] }).push { cls := .type "enumerate", data := .fields #[.none, .bool false, .ref s.heap.objs.size, rawInt 0, .none, .none] } }) :=
  .of_wp fun prog w A R s h => by
    obtain ⟨hp, g, d, tk, os⟩ := s; obtain ⟨hl, h⟩ := h
    have hsub := sub_enumerate
    have hL : Heap.IsTuple (Shared.heap ⟨hp, g, d, tk, os⟩) l items := ⟨_, hl, rfl, n, rfl⟩
    wp_walk using AutoSeq1.wpAny_loadPart' hl
    refine wpAny_stack_any fun st => wpAny_pure ?_
    split
    · rename_i c _ _ _ _ _
      cases (c == Value.type "enumerate")
      · wp_walk using AutoSeq1.wpAny_loadPart' hl, wpAny_pyIter_tuple hL
        exact ⟨_, rfl, h⟩
      · wp_walk using AutoSeq1.wpAny_loadPart' hl, wpAny_pyIter_tuple hL
        exact ⟨_, rfl, h⟩
    · wp_walk using AutoSeq1.wpAny_loadPart' hl, wpAny_pyIter_tuple hL
      exact ⟨_, rfl, h⟩
theorem call_enumerate_tuple {prog : Program} {w : World} {A : Around} {E : Value → Shared → Prop} {s : Shared} {l : Addr} {items : Array Value} {Q : Value → Shared → Prop} (hL : s.heap.IsTuple l items)
    (h : ∀ h', IsEnum h' (s.heap.objs.size + 1) s.heap.objs.size 0 .none → h'.IsTupleIter s.heap.objs.size l 0 → h'.objs.size = s.heap.objs.size + 2 →
      (∀ b o, s.heap.get? b = some o → h'.get? b = some o) → Q (.ref (s.heap.objs.size + 1)) { s with heap := h' }) :
    wpAny (model prog w) A (call (.type "enumerate") [.ref l]) Q E s := by
  obtain ⟨⟨c, dct, dt, sl⟩, hl, hc, n, hd⟩ := hL
  replace hc : c = .type "tuple" := hc
  replace hd : dt = .seq items n := hd
  subst hc hd
  refine callType_new F.called_enumerate (by decide) (F.typeCall_enumerate_1 _) (F.newCall_enumerate_1 _) (fun obj => F.args_object_init_2 obj _) F.entry_enumerate_new
    (meets_enumerate_newT l items n dct sl) ⟨hl, ?_⟩
  have hz : (s.heap.push { cls := .type "tuple_iterator", data := .fields #[.ref l, .int 0 0] }).objs.size = s.heap.objs.size + 1 := Heap.size_push ..
  show _ ∧ _
  rw [hz]
  have he : IsEnum ((s.heap.push { cls := .type "tuple_iterator", data := .fields #[.ref l, .int 0 0] }).push
      { cls := .type "enumerate", data := .fields #[.none, .bool false, .ref s.heap.objs.size, rawInt 0, .none, .none] }) (s.heap.objs.size + 1) s.heap.objs.size 0 .none := by
    have := Heap.get?_push_size (s.heap.push { cls := .type "tuple_iterator", data := .fields #[.ref l, .int 0 0] })
      (o := { cls := .type "enumerate", data := .fields #[.none, .bool false, .ref s.heap.objs.size, rawInt 0, .none, .none] }) rfl
    rw [hz] at this; exact this
  refine ⟨⟨_, he, rfl⟩, h _ he ⟨_, Heap.get?_push_of_some _ (Heap.get?_push_size _ rfl), rfl, rfl⟩ (by rw [Heap.size_push, hz]) fun b o x => Heap.get?_push_of_some _ (Heap.get?_push_of_some _ x)⟩
/-! ### enumerate(tuple) -/
def ItTe (K : PySem.W.Frag) (a : Addr) : It :=
  ⟨fun i H => ∃ (xs : List V) (x : V), SqT K H a xs ∧ xs[i]? = some x, fun i H v H' => ∃ T x, v = .ref T ∧ H T = none ∧ H' = upd H T (.tup [.int (i : Nat), x]) ∧ ∀ xs, SqT K H a xs → xs[i]? = some x, fun i H => ∃ xs : List V, SqT K H a xs ∧ xs.length ≤ i⟩
theorem enum_apart {h : Heap} {e it a : Addr} {c : Int} {old : Value} {items : Array Value} (he : IsEnum h e it c old) (p : Heap.IsTuple h a items) : e ≠ a := fun z => by
  obtain ⟨o, ho, hc, _⟩ := p
  rw [← z, show h.get? e = some _ from he] at ho
  cases ho
  injection hc with y
  exact absurd y (by decide)
theorem iter_apart {h : Heap} {it a b : Addr} {i : Nat} {items : Array Value} (he : h.IsTupleIter it b i) (p : Heap.IsTuple h a items) : a ≠ it := fun z => by
  obtain ⟨o, ho, hc, _⟩ := p
  obtain ⟨o', ho', hc', _⟩ := he
  rw [z, ho'] at ho
  cases ho
  rw [hc] at hc'
  injection hc' with y
  exact absurd y (by decide)
theorem turn_enumT {P : Program} {w : World} {K : PySem.W.Frag} {elts : List Expr} {kk : Nat} {tpos : Pos} (a e it : Addr) :
    Turn P w K (.Tuple elts kk tpos) (ItTe K a) [e, it] e (fun i h => (∃ old, IsEnum h e it ((i : Nat) : Int) old) ∧ h.IsTupleIter it a i ∧ e ≠ it) where
  mem := by simp
  obj := fun i h st b hb => by
    obtain ⟨⟨old, he⟩, ⟨o, ho, hc, hd⟩, _⟩ := st
    have e' : b = e ∨ b = it := by simpa using hb
    rcases e' with z | z
    · rw [z]; exact ⟨_, he, fun v q => nomatch q⟩
    · rw [z]; exact ⟨o, ho, fun v q => by rw [hd] at q; cases q⟩
  keep := fun i h h' st k => let ⟨⟨old, he⟩, hi, hne⟩ := st; ⟨⟨old, k e (by simp) _ he⟩, hi.at fun o q => k it (by simp) o q, hne⟩
  item := by
    intro X hP hw hK hc i pins s σ H E I hf st hg
    subst hP hw hK
    obtain ⟨⟨old, he⟩, hit, hne⟩ := st
    obtain ⟨xs, x, hq, hx⟩ := hg
    obtain ⟨its, rv, p, hz⟩ := I.tuple hq
    obtain ⟨u, hu, ru⟩ := rv.get hx
    have pT : Heap.IsTuple s.heap a its.toArray := p
    have hel : e < s.heap.objs.size := Heap.lt_size he
    have hil : it < s.heap.objs.size := by obtain ⟨_, q, _⟩ := hit; exact Heap.lt_size q
    have ha := iter_apart hit pT
    have hea := enum_apart he pT
    have hlt : i < its.toArray.size := by
      have := (List.getElem?_eq_some_iff.mp hu).1
      simpa using this
    refine wpAny_pyNext_enum_itemD (Draws.tuple (A := X.A.in1) (I.ok.hd hc) it a ha its.toArray) he ⟨hit, pT⟩ hlt hne (by simp [hne, hea]) fun u2 h' tk hP ho hit2 hT hsz hk => ?_
    have hit' := hit2.1
    have eu : u2 = u := by
      have h1 : its.toArray[i]? = some u2 := hP
      have h2 : its.toArray[i]? = some u := by simpa using hu
      rw [h1] at h2
      exact Option.some.inj h2
    subst eu
    refine ⟨_, rfl, wpAny_letOwnedTupleGo_enum (s := { s with heap := h', toks := tk + 1 }) ho fun h'' he' sb => ?_⟩
    have hT2 : h''.get? s.heap.objs.size = some { cls := .type "tuple", data := .seq #[.int i tk, u2] } := (sb.2 _ (Nat.ne_of_gt hel)).trans hT
    have new : ObjOk X.prog X.w (upd H s.heap.objs.size (.tup [.int (i : Nat), x])) h'' s.heap.objs.size (.tup [.int (i : Nat), x]) :=
      ⟨by show 2 ≤ sizeLine; decide, [.int i tk, u2], .cons ⟨_, rfl⟩ (.cons ru .nil), ⟨_, hT2, rfl, _, rfl⟩⟩
    have I1 : Inv X pins σ (upd H s.heap.objs.size (.tup [.int (i : Nat), x])) { s with heap := h'', toks := tk + 1 } :=
      I.turnedNew (ch := [e, it]) (fun b ob hb q => (sb.2 b (fun z => hb (by simp [z]))).trans (hk b ob (fun z => hb (by simp [z])) (fun z => hb (by simp [z])) q)) hf (Nat.le_refl _) new
    refine ⟨.ref s.heap.objs.size, _, I1, rfl, ⟨_, x, rfl, I.hok.fresh (Nat.le_refl _), rfl, fun ys hy => by rw [I.tuple_inj hy hq]; exact hx⟩, ⟨⟨u2, ?_⟩, hit'.at fun o q => (sb.2 it (Ne.symm hne)).trans q, hne⟩, fun b hb => ?_⟩
    · have e1 : ((i + 1 : Nat) : Int) = (i : Int) + 1 := by omega
      rw [e1]; exact he'
    · have hb' : b < s.heap.objs.size := by
        have e' : b = e ∨ b = it := by simpa using hb
        rcases e' with z | z
        · rw [z]; exact hel
        · rw [z]; exact hil
      rw [upd_ne (Nat.ne_of_lt hb')]
      exact (hf b hb).1
  done := by
    intro X hP hw hK hc i pins s σ H E I hf st hg
    subst hP hw hK
    obtain ⟨⟨old, he⟩, hit, hne⟩ := st
    obtain ⟨xs, hq, hx⟩ := hg
    obtain ⟨its, rv, p, hz⟩ := I.tuple hq
    have hl := rv.length
    obtain ⟨f0, f1, f2, f3, f4, f5⟩ := hf it (by simp)
    have pT : Heap.IsTuple s.heap a its.toArray := p
    have he' := he
    have hT : s.TypeIs (.ref e) "enumerate" := ⟨_, he, rfl⟩
    have hd : X.A.handled = none := I.ok.hd hc
    unfold pyNext
    refine wpAny_bind (wpAny_attempt (wpAny_callSpecial?_slot (name := Str.ofString "__next__") hT F.slot_enumerate_next
      (wpAny_call_entry F.slot_enumerate_next hT F.entry_enumerate_next ?_ (F.args_enumerate_next_1 _))))
    show wpAny _ _ (field (.ref e) 2 >>= _) _ _ _
    refine wpAny_bind (wpAny_field he rfl (x := .ref it) rfl ?_)
    refine wpAny_bind (wpAny_nextOf_tuple_end hd hit pT (by simp; omega) fun h' x eb hx' => ?_)
    obtain ⟨o, ho, hcl⟩ := hx'
    refine wpAny_bind (wpAny_isInstance (T := "StopIteration") (b := true) ⟨o, ho, hcl⟩ isSubtype_stop ?_)
    exact wpAny_pure ⟨rfl, I.turned (t' := s.toks) (fun b o hb q => eb b o hb q) f0 f1 f3 f4 f5⟩
  self := fun A i s Q E st h => let ⟨⟨_, he⟩, _⟩ := st; wpAny_pyIter_enum he h
def iEnumT (K : PySem.W.Frag) (ta : TA) : TI := fun σ H R => ta σ H fun vs H1 => ∃ a xs, vs = [.ref a] ∧ SqT K H1 a xs ∧ R (ItTe K a) H1
theorem pi_enumT {X : Cx} {e : Expr} {ta : TA} {p pos tpos : Pos} {elts : List Expr} {kk : Nat} (hg : Gl X "enumerate") (hm : X.mg "enumerate" = none) (ha : PA X [e] ta) (hs : starEach [e] X.env = [(false, eval e X.env)] := by rfl) :
    PI X (.Tuple elts kk tpos) (.Call (.Name "enumerate" p) [e] [] pos) (iEnumT X.K ta) := by
  refine ⟨fun pins s σ H R I h => ?_⟩
  refine Call_ (ld_blt I hg hm boot_enumerate (PyProof.Rows.callWith_type1 (thn (ha.run pos pins s σ H _ I h) fun us s1 ⟨vs, H1, I1, r1, q1⟩ => ?_) hs rfl))
  obtain ⟨a, xs, ex, hq, q⟩ := q1
  subst ex
  cases r1 with
  | cons r rr =>
    cases rr
    cases r
    obtain ⟨its, rv, p', hz⟩ := I1.tuple hq
    refine call_enumerate_tuple p' fun h' he hit hsz hk => wpAny_pyIter_enum he ?_
    have I2 : Inv X pins σ H1 { s1 with heap := h' } := I1.kept (t' := s1.toks) hk
    refine ⟨s1.heap.objs.size + 1, [s1.heap.objs.size + 1, s1.heap.objs.size], _, _, H1, rfl, I2, turn_enumT a (s1.heap.objs.size + 1) s1.heap.objs.size, ⟨⟨.none, he⟩, hit, Nat.succ_ne_self _⟩, fun b hb => ?_, q⟩
    have e' : b = s1.heap.objs.size + 1 ∨ b = s1.heap.objs.size := by simpa using hb
    have hle : s1.heap.objs.size ≤ b := by
      rcases e' with z | z
      · rw [z]; exact Nat.le_add_right _ _
      · rw [z]; exact Nat.le_refl _
    exact I1.fpOk hle (I1.hok.fresh hle)
section
variable {K : PySem.W.Frag} {C : Cs} {U : UX} {a : Addr} {xs : List V}
theorem walk_enumT : Walk (ItTe K a) xs.length (fun H => SqT K H a xs) (YPair (fun i => some (.int (i : Nat))) (fun i => xs[i]?)) := by
  refine ⟨fun i _ hi q => ⟨xs, xs[i], q, by simp [hi]⟩, fun _ q => ⟨xs, q, Nat.le_refl _⟩, fun i H v H' _ q y => ?_⟩
  obtain ⟨T, x, h1, h2, h3, h4⟩ := y
  exact ⟨T, .int (i : Nat), x, h1, h2, h3, rfl, h4 xs q⟩
def wEnumT (w : WA) : WI := fun sl rt k => w sl rt fun xs rt1 => match xs with
  | [.dat (.tup ds)] => k (ds.zipIdx.map fun q => .tup [.int (q.2 : Nat), q.1]) rt1
  | _ => False
theorem i_enumT {w : WA} : ∀ σ H Q, tI K C U (wEnumT w) σ H Q → iEnumT K (tA K C U w) σ H Q := fun σ H Q ⟨sl, rt, ρ, fps, G, k, s, xf, w, q⟩ =>
  ⟨sl, rt, ρ, fps, G, _, s, xf, w, fun xs rt1 fps1 G1 H1 vs r1 n1 v1 w1 => by
    split at w1
    · rename_i ds
      cases v1 with
      | cons h r =>
        cases r
        cases h with
        | @tup a xs _ h2 r =>
          refine ⟨a, xs, rfl, ex_t r1.sub h2, q _ rt1 fps1 G1 H1 _ r1 n1 ⟨fun H => SqT K H a xs, YPair (fun i => some (.int (i : Nat))) (fun i => xs[i]?), ?_, fun H2 e2 => ex_t e2 h2, fun i d H2 v H3 hd _ y => ?_⟩ w1⟩
          · rw [List.length_map, List.length_zipIdx, ← r.len]
            exact walk_enumT
          · obtain ⟨T, x, y', rfl, hT, rfl, e1, e2⟩ := y
            cases e1
            rw [List.getElem?_map, List.getElem?_zipIdx] at hd
            cases z : ds[i]? with
            | none => rw [z] at hd; cases hd
            | some d0 =>
              rw [z] at hd
              cases hd
              obtain ⟨u, z1, z2⟩ := r.get z
              have e3 : some u = some y' := z1.symm.trans e2
              cases e3
              refine .inr ⟨T, _, _, hT, rfl, rfl, rfl, .cons ?_ (.cons z2 .nil)⟩
              show DR K C G1 (.int (i : Nat)) (.int ((0 + i : Nat) : Int))
              rw [Nat.zero_add]
              exact .int _
    · exact w1.elim⟩
end
end Wv
end

section
set_option Elab.async false
set_option linter.all false
set_option maxRecDepth 100000
set_option maxHeartbeats 4000000
namespace Wv
open PySem PySem.Spec PyProof.Rows L2 Evl
section
open PySem.SeqAt
variable {prog : Program} {w : World} {A : Around} {R : Result → Shared → Prop}
theorem tuple_eqB (l b : Addr) (items items2 : Array Value) (n n2 : Nat) (dd dd2 : Option Addr) (sl sl2 : Array (Option Value)) (I : Nat → Shared → Prop)
    (turn : ∀ i (h1 : i < items.size) (h2 : i < items2.size) s, I i s → wpAny (model prog w) A.in1 (eqBool items[i] items2[i]) (fun r s' => (r = true ∧ I (i + 1) s') ∨ (r = false ∧ R (.ok (.ret (.bool false))) s')) (fun e s' => R (.error e) s') s)
    (fin : ∀ s, I (min items.size items2.size) s → R (.ok (.ret (.bool (items.size == items2.size)))) s) {s : Shared} (hl1 : s.heap.get? l = some { cls := .type "tuple", dict := dd, data := .seq items n, slots := sl }) (hb1 : s.heap.get? b = some { cls := .type "tuple", dict := dd2, data := .seq items2 n2, slots := sl2 }) (h : I 0 s) :
    wpAny (model prog w) A.in1 (Builtin.«tuple.__eq__» ⟨[.ref l, .ref b], []⟩) (GQ.FinOf prog w A R) (fun e s' => R (.error e) s') s := by
  have f2 := AutoSeq1.sub_tuple_tuple
  have hZ : (items.toList.zip items2.toList).length = min items.size items2.size := by simp
  have h0 := h
  obtain ⟨hp, g, d, tk, os⟩ := s
  wp_walk using AutoSeq1.wpAny_loadPart' hl1, AutoSeq1.wpAny_loadPart' hb1, wpAny_forIn_list _ (fun rest b s' => b.1 = none ∧ ∃ i, rest = (items.toList.zip items2.toList).drop i ∧ i ≤ min items.size items2.size ∧ I i s') _
  case turn =>
    rintro ⟨y, x⟩ rest b s' ⟨hb', i, hz, hi, hI⟩
    have hlt : i < (items.toList.zip items2.toList).length := by
      rcases Nat.lt_or_ge i (items.toList.zip items2.toList).length with h' | h'
      · exact h'
      · rw [List.drop_of_length_le h'] at hz; cases hz
    have hm : i < min items.size items2.size := hZ ▸ hlt
    have h1 : i < items.size := Nat.lt_of_lt_of_le hm (Nat.min_le_left _ _)
    have h2 : i < items2.size := Nat.lt_of_lt_of_le hm (Nat.min_le_right _ _)
    rw [List.drop_eq_getElem_cons hlt] at hz
    injection hz with hyx hrest
    have hy : y = items[i] := by have := congrArg Prod.fst hyx; simpa using this
    have hx : x = items2[i] := by have := congrArg Prod.snd hyx; simpa using this
    subst hy hx
    refine wpAny_bind (wpAny_mono (turn i h1 h2 s' hI) (fun r s2 q2 => ?_) fun _ _ x => x)
    rcases q2 with ⟨hr, q2⟩ | ⟨hr, q2⟩
    · subst hr
      wp_walk
      exact ⟨rfl, i + 1, hrest, hm, q2⟩
    · subst hr
      wp_walk
      exact q2
  case fin =>
    rintro ⟨b1, b2⟩ s' ⟨hb', i, hz, hi, hI⟩
    simp only at hb'
    subst hb'
    have hge : min items.size items2.size ≤ i := by
      rcases Nat.lt_or_ge i (items.toList.zip items2.toList).length with h' | h'
      · rw [List.drop_eq_getElem_cons h'] at hz; cases hz
      · exact hZ ▸ h'
    have hi' : i = min items.size items2.size := by omega
    have hR := fin s' (hi' ▸ hI)
    wp_walk
    simpa [Builtin.Tuple.tupleCompareSizes] using hR
  case h =>
    exact ⟨rfl, 0, rfl, Nat.zero_le _, h0⟩
theorem tuple_neB (l b : Addr) (items items2 : Array Value) (n n2 : Nat) (dd dd2 : Option Addr) (sl sl2 : Array (Option Value)) (I : Nat → Shared → Prop)
    (turn : ∀ i (h1 : i < items.size) (h2 : i < items2.size) s, I i s → wpAny (model prog w) A.in1 (eqBool items[i] items2[i]) (fun r s' => (r = true ∧ I (i + 1) s') ∨ (r = false ∧ R (.ok (.ret (.bool true))) s')) (fun e s' => R (.error e) s') s)
    (fin : ∀ s, I (min items.size items2.size) s → R (.ok (.ret (.bool (items.size != items2.size)))) s) {s : Shared} (hl1 : s.heap.get? l = some { cls := .type "tuple", dict := dd, data := .seq items n, slots := sl }) (hb1 : s.heap.get? b = some { cls := .type "tuple", dict := dd2, data := .seq items2 n2, slots := sl2 }) (h : I 0 s) :
    wpAny (model prog w) A.in1 (Builtin.«tuple.__ne__» ⟨[.ref l, .ref b], []⟩) (GQ.FinOf prog w A R) (fun e s' => R (.error e) s') s := by
  have f2 := AutoSeq1.sub_tuple_tuple
  have hZ : (items.toList.zip items2.toList).length = min items.size items2.size := by simp
  have h0 := h
  obtain ⟨hp, g, d, tk, os⟩ := s
  wp_walk using AutoSeq1.wpAny_loadPart' hl1, AutoSeq1.wpAny_loadPart' hb1, wpAny_forIn_list _ (fun rest b s' => b.1 = none ∧ ∃ i, rest = (items.toList.zip items2.toList).drop i ∧ i ≤ min items.size items2.size ∧ I i s') _
  case turn =>
    rintro ⟨y, x⟩ rest b s' ⟨hb', i, hz, hi, hI⟩
    have hlt : i < (items.toList.zip items2.toList).length := by
      rcases Nat.lt_or_ge i (items.toList.zip items2.toList).length with h' | h'
      · exact h'
      · rw [List.drop_of_length_le h'] at hz; cases hz
    have hm : i < min items.size items2.size := hZ ▸ hlt
    have h1 : i < items.size := Nat.lt_of_lt_of_le hm (Nat.min_le_left _ _)
    have h2 : i < items2.size := Nat.lt_of_lt_of_le hm (Nat.min_le_right _ _)
    rw [List.drop_eq_getElem_cons hlt] at hz
    injection hz with hyx hrest
    have hy : y = items[i] := by have := congrArg Prod.fst hyx; simpa using this
    have hx : x = items2[i] := by have := congrArg Prod.snd hyx; simpa using this
    subst hy hx
    refine wpAny_bind (wpAny_mono (turn i h1 h2 s' hI) (fun r s2 q2 => ?_) fun _ _ x => x)
    rcases q2 with ⟨hr, q2⟩ | ⟨hr, q2⟩
    · subst hr
      wp_walk
      exact ⟨rfl, i + 1, hrest, hm, q2⟩
    · subst hr
      wp_walk
      exact q2
  case fin =>
    rintro ⟨b1, b2⟩ s' ⟨hb', i, hz, hi, hI⟩
    simp only at hb'
    subst hb'
    have hge : min items.size items2.size ≤ i := by
      rcases Nat.lt_or_ge i (items.toList.zip items2.toList).length with h' | h'
      · rw [List.drop_eq_getElem_cons h'] at hz; cases hz
      · exact hZ ▸ h'
    have hi' : i = min items.size items2.size := by omega
    have hR := fin s' (hi' ▸ hI)
    wp_walk
    simpa [Builtin.Tuple.tupleCompareSizes] using hR
  case h =>
    exact ⟨rfl, 0, rfl, Nat.zero_le _, h0⟩
end
section
variable {prog : Program} {w : World} {A : Around} {E : Value → Shared → Prop} {s : Shared}
theorem rc_tupB {l b : Addr} {items items2 : Array Value} {neg : Bool} {Q : Value → Shared → Prop} (hu : A.units < cLine) (I : Nat → Shared → Prop)
    (hl : s.heap.IsTuple l items) (hb : s.heap.IsTuple b items2)
    (turn : ∀ i (h1 : i < items.size) (h2 : i < items2.size) s, I i s → wpAny (model prog w) A.in1 (eqBool items[i] items2[i]) (fun r s' => (r = true ∧ I (i + 1) s') ∨ (r = false ∧ Q (.bool neg) s')) E s)
    (fin : ∀ s, I (min items.size items2.size) s → Q (.bool (neg != (items.size == items2.size))) s) (h : I 0 s) : wpAny (model prog w) A (richCompare (if neg then .NotEq else .Eq) (.ref l) (.ref b)) Q E s := by
  obtain ⟨⟨cls, dd, data, sl⟩, ho, hc, n, hd⟩ := id hl
  obtain ⟨⟨cls2, dd2, data2, sl2⟩, ho2, hc2, n2, hd2⟩ := id hb
  simp only at hc hd hc2 hd2
  subst hc hd hc2 hd2
  cases neg with
  | false =>
    refine wpAny_richCompare_same_room (op := .Eq) ⟨_, ho, rfl⟩ ⟨_, ho2, rfl⟩ F.slot_tuple_eq (GQ.call_here F.slot_tuple_eq ⟨_, ho, rfl⟩ F.entry_tuple_eq (F.args_tuple_eq_2 _ _) ?_) hu
    refine tuple_eqB (R := wants (fun v s' => v ≠ .notImplemented ∧ Q v s') E) l b items items2 n n2 dd dd2 sl sl2 I (fun i h1 h2 s q => wpAny_mono (turn i h1 h2 s q) (fun r s' q => ?_) fun _ _ x => x) (fun s' q => ⟨(fun x => nomatch x), by simpa using fin s' q⟩) ho ho2 h
    rcases q with q | ⟨q1, q2⟩
    · exact .inl q
    · exact .inr ⟨q1, (fun x => nomatch x), q2⟩
  | true =>
    refine wpAny_richCompare_same_room (op := .NotEq) ⟨_, ho, rfl⟩ ⟨_, ho2, rfl⟩ F.slot_tuple_ne (GQ.call_here F.slot_tuple_ne ⟨_, ho, rfl⟩ F.entry_tuple_ne (F.args_tuple_ne_2 _ _) ?_) hu
    refine tuple_neB (R := wants (fun v s' => v ≠ .notImplemented ∧ Q v s') E) l b items items2 n n2 dd dd2 sl sl2 I (fun i h1 h2 s q => wpAny_mono (turn i h1 h2 s q) (fun r s' q => ?_) fun _ _ x => x) (fun s' q => ⟨(fun x => nomatch x), by have z := fin s' q; simpa [bne] using z⟩) ho ho2 h
    rcases q with q | ⟨q1, q2⟩
    · exact .inl q
    · exact .inr ⟨q1, (fun x => nomatch x), q2⟩
end

/-! ### == of data with own instances in it -/
mutual
def D.deep : D → Nat
  | .tup ds => D.deeps ds + 1
  | .tpx ds => D.deeps ds + 1
  | _ => 0
def D.deeps : List D → Nat
  | [] => 0
  | d :: ds => max d.deep (D.deeps ds)
end
/-- ok c: the number of fields of a class whose own == compares them as a tuple of plain data -/
def noOk : Nat → Option Nat := fun _ => none
mutual
def eqD : (Nat → Option Nat) → D → D → Option Bool
  | ok, .tup ds, .tup es => eqDs ok ds es
  | ok, .tup ds, .tpx es => eqDs ok ds es
  | ok, .tpx ds, .tup es => eqDs ok ds es
  | ok, .tpx ds, .tpx es => eqDs ok ds es
  | ok, .obj c ds, .obj c' es => if c = c' ∧ ok c = some ds.length ∧ es.length = ds.length ∧ D.deeps ds ≤ 4 then eqDs noOk ds es else none
  | _, d, e => D.sc d e
def eqDs : (Nat → Option Nat) → List D → List D → Option Bool
  | _, [], [] => some true
  | _, [], _ :: _ => some false
  | _, _ :: _, [] => some false
  | ok, d :: ds, e :: es => match eqD ok d e with
    | some true => eqDs ok ds es
    | some false => some false
    | none => none
end
section
variable {C : Cs} {X : Cx} {CX : CXT} {k n : Nat} {ok : Nat → Option Nat}
/-- what a comparison leaves -/
def Lp (X : Cx) (pins : List (Addr × Obj)) (σ : L2.St) (G H : Hp) (s' : Shared) : Prop := ∃ G' H', Inv X pins σ H' s' ∧ Ex G' H' ∧ Nx [] G H G' H' []
def EqP (X : Cx) (C : Cs) (n : Nat) (d e : D) (b : Bool) : Prop :=
  ∀ (A : Around) (pins : List (Addr × Obj)) (s : Shared) (σ : L2.St) (G H : Hp) (x y : V) (u v : Value), Sub X n A → Inv X pins σ H s → Ex G H → RelV x u → RelV y v → DR X.K C G x d → DR X.K C G y e →
    wpAny (model X.prog X.w) A (eqBool u v) (fun r s' => r = b ∧ Lp X pins σ G H s') X.xe s
def RcP (X : Cx) (C : Cs) (n : Nat) (neg : Bool) (d e : D) (b : Bool) : Prop :=
  ∀ (A : Around) (pins : List (Addr × Obj)) (s : Shared) (σ : L2.St) (G H : Hp) (x y : V) (u v : Value), Sub X n A → Inv X pins σ H s → Ex G H → RelV x u → RelV y v → DR X.K C G x d → DR X.K C G y e →
    wpAny (model X.prog X.w) A (richCompare (if neg then .NotEq else .Eq) u v) (fun r s' => r = .bool (neg != b) ∧ Lp X pins σ G H s') X.xe s
/-- the class's own == says what eqDs says -/
structure OwnQ (X : Cx) (CX : CXT) (C : Cs) (n k c : Nat) : Prop where
  ex : ∃ f fd ps cw, FnOk X.prog X.w X.K X.mg X.base CX k f fd ps (spW X.K C cw) ∧ EqK X.K (C.at_ c) f ∧ Binds X.K fd ps [] ∧ ∀ ds es b, ds.length = n → es.length = n → D.deeps ds ≤ 4 → eqDs noOk ds es = some b → ∀ (kk : T → Roots → Prop) kx, kk (.dat (.bool b)) [] → cw [.dat (.obj c ds), .dat (.obj c es)] [] kk kx
theorem Lp.refl {pins : List (Addr × Obj)} {σ : L2.St} {G H : Hp} {s : Shared} (I : Inv X pins σ H s) (e : Ex G H) : Lp X pins σ G H s := ⟨G, H, I, e, Nx.refl _ _ _⟩
theorem same_true {pins : List (Addr × Obj)} {σ : L2.St} {G H : Hp} {s : Shared} (I : Inv X pins σ H s) (eg : Ex G H) :
    (∀ (d : D) (ok : Nat → Option Nat) (e : D) (v : V) (b : Bool), eqD ok d e = some b → DR X.K C G v d → DR X.K C G v e → b = true) := by
  have sc : ∀ {d e : D} {v : V} {b : Bool}, D.sc d e = some b → DR X.K C G v d → DR X.K C G v e → b = true := fun h h1 h2 => by
    have := (sc_ok h h1 h2).2
    simpa using this.symm
  have inj : ∀ {a : Addr} {xs ys : List V}, SqT X.K G a xs → SqT X.K G a ys → xs = ys := fun h h' => I.tuple_inj (ex_t eg h) (ex_t eg h')
  refine D.rec (motive_1 := fun d => ∀ (ok : Nat → Option Nat) (e : D) (v : V) (b : Bool), eqD ok d e = some b → DR X.K C G v d → DR X.K C G v e → b = true)
    (motive_2 := fun ds => ∀ (ok : Nat → Option Nat) (es : List D) (vs : List V) (b : Bool), eqDs ok ds es = some b → DRs X.K C G vs ds → DRs X.K C G vs es → b = true) ?_ ?_ ?_ ?_ ?_ ?_ ?_ ?_ ?_ ?_ ?_ ?_ ?_ ?_ ?_ ?_ ?_
  · intro ok e v b h h1 h2; exact sc (by simpa [eqD] using h) h1 h2
  · intro _ ok e v b h h1 h2; exact sc (by simpa [eqD] using h) h1 h2
  · intro _ ok e v b h h1 h2; exact sc (by simpa [eqD] using h) h1 h2
  · intro _ ok e v b h h1 h2; exact sc (by simpa [eqD] using h) h1 h2
  · intro _ _ ok e v b h h1 h2; exact sc (by simpa [eqD] using h) h1 h2
  · intro _ _ ok e v b h h1 h2; exact sc (by simpa [eqD] using h) h1 h2
  · intro ds ih ok e v b h h1 h2
    cases h1 with
    | tup a1 r1 =>
      cases e with
      | tup es =>
        cases h2 with
        | tup a2 r2 =>
          cases inj a1 a2
          exact ih ok es _ b (by simpa [eqD] using h) r1 r2
      | tpx es =>
        cases h2 with
        | tpx a2 _ r2 =>
          cases inj a1 (.inl (.inr ⟨_, a2⟩))
          exact ih ok es _ b (by simpa [eqD] using h) r1 r2
      | _ => simp [eqD, D.sc] at h
  · intro ds ih ok e v b h h1 h2
    cases h1 with
    | tpx a1 _ r1 =>
      cases e with
      | tup es =>
        cases h2 with
        | tup a2 r2 =>
          cases inj (.inl (.inr ⟨_, a1⟩)) a2
          exact ih ok es _ b (by simpa [eqD] using h) r1 r2
      | tpx es =>
        cases h2 with
        | tpx a2 _ r2 =>
          rw [a1] at a2
          cases a2
          exact ih ok es _ b (by simpa [eqD] using h) r1 r2
      | _ => simp [eqD, D.sc] at h
  · intro _ _ ok e v b h h1 h2; exact sc (by simpa [eqD] using h) h1 h2
  · intro c ds ih ok e v b h h1 h2
    cases h1 with
    | obj a1 n1 r1 =>
      cases e with
      | obj c' es =>
        cases h2 with
        | obj a2 n2 r2 =>
          have h : (if c = c' ∧ ok c = some ds.length ∧ es.length = ds.length ∧ D.deeps ds ≤ 4 then eqDs noOk ds es else none) = some b := by simpa [eqD] using h
          split at h
          · have z := Option.some.inj (a1.symm.trans a2)
            injection z with z1 z2 z3
            subst z3
            exact ih noOk es _ b h r1 r2
          · cases h
      | _ => simp [eqD, D.sc] at h
  · intro _ _ _ ok e v b h h1 h2; exact sc (by simpa [eqD] using h) h1 h2
  · intro _ ok e v b h h1 h2; exact sc (by simpa [eqD] using h) h1 h2
  · intro _ _ _ _ _ ok e v b h h1 h2; exact sc (by simpa [eqD] using h) h1 h2
  · intro _ ok e v b h h1 h2; exact sc (by simpa [eqD] using h) h1 h2
  · intro ok e v b h h1 h2; exact sc (by simpa [eqD] using h) h1 h2
  · intro ok es vs b h h1 h2
    cases h1
    cases h2
    simpa [eqDs] using h.symm
  · intro d ds ihd ihs ok es vs b h h1 h2
    cases h1 with
    | cons p1 r1 =>
      cases h2 with
      | cons p2 r2 =>
        rename_i e es
        have h : (match eqD ok d e with | some true => eqDs ok ds es | some false => some false | none => none) = some b := by simpa [eqDs] using h
        split at h
        · exact ihs ok es _ b h r1 r2
        · rename_i z
          exact absurd (ihd ok e _ _ z p1 p2) (by simp)
        · cases h
end
end Wv
end

section
set_option Elab.async false
set_option linter.all false
set_option maxRecDepth 100000
set_option maxHeartbeats 4000000
namespace Wv
open PySem PySem.Spec PyProof.Rows L2 Evl
section
variable {C : Cs} {X : Cx} {CX : CXT} {k n : Nat} {ok : Nat → Option Nat} {ds es : List D} {b : Bool}
theorem DRs.at {K : PySem.W.Frag} {G : Hp} {xs : List V} {i : Nat} {d : D} (r : DRs K C G xs ds) (h : ds[i]? = some d) : ∃ v, xs[i]? = some v ∧ DR K C G v d := r.get h
theorem rc_items (hit : ∀ (i : Nat) (d e : D) (b' : Bool), ds[i]? = some d → es[i]? = some e → eqD ok d e = some b' → EqP X C n d e b') (h : eqDs ok ds es = some b) {A : Around} {pins : List (Addr × Obj)} {s : Shared} {σ : L2.St} {G H : Hp} {a1 a2 : Addr} {xs ys : List V}
    (sb : Sub X (n + 1) A) (I : Inv X pins σ H s) (eg : Ex G H) (h1 : SqT X.K G a1 xs) (h2 : SqT X.K G a2 ys) (r1 : DRs X.K C G xs ds) (r2 : DRs X.K C G ys es) (neg : Bool) :
    wpAny (model X.prog X.w) A (richCompare (if neg then .NotEq else .Eq) (.ref a1) (.ref a2)) (fun r s' => r = .bool (neg != b) ∧ Lp X pins σ G H s') X.xe s := by
  obtain ⟨its, rv, e, z⟩ := I.tuple (ex_t eg h1)
  obtain ⟨its2, rv2, e2, z2⟩ := I.tuple (ex_t eg h2)
  have l1 : its.toArray.size = ds.length := by rw [List.size_toArray, ← rv.length, r1.len]
  have l2 : its2.toArray.size = es.length := by rw [List.size_toArray, ← rv2.length, r2.len]
  refine rc_tupB sb.room.units0 (fun i s' => Lp X pins σ G H s' ∧ eqDs ok (ds.drop i) (es.drop i) = some b) e e2 (fun i h1 h2 s' ⟨lp, hr⟩ => ?_) (fun s' ⟨lp, hr⟩ => ?_) ⟨.refl I eg, by simpa using h⟩
  · obtain ⟨G1, H1, I1, eg1, n1⟩ := lp
    have k1 : i < ds.length := by omega
    have k2 : i < es.length := by omega
    have d1 : ds[i]? = some ds[i] := List.getElem?_eq_getElem k1
    have d2 : es[i]? = some es[i] := List.getElem?_eq_getElem k2
    obtain ⟨v1, p1, q1⟩ := r1.get d1
    obtain ⟨v2, p2, q2⟩ := r2.get d2
    obtain ⟨u1, w1, t1⟩ := rv.get p1
    obtain ⟨u2, w2, t2⟩ := rv2.get p2
    have x1 : its.toArray[i] = u1 := by
      have := (List.getElem?_eq_some_iff.mp w1).2
      simpa using this
    have x2 : its2.toArray[i] = u2 := by
      have := (List.getElem?_eq_some_iff.mp w2).2
      simpa using this
    rw [x1, x2]
    rw [List.drop_eq_getElem_cons k1, List.drop_eq_getElem_cons k2] at hr
    simp only [eqDs] at hr
    cases hq : eqD ok ds[i] es[i] with
    | none => rw [hq] at hr; cases hr
    | some b' =>
      rw [hq] at hr
      refine wpAny_mono (hit i _ _ b' d1 d2 hq A.in1 pins s' σ G1 H1 v1 v2 u1 u2 sb.in1 I1 eg1 t1 t2 (DR.up n1.g _ _ q1) (DR.up n1.g _ _ q2)) (fun r s2 q => ?_) fun _ _ x => x
      obtain ⟨er, G2, H2, I2, eg2, n2⟩ := q
      have lp2 : Lp X pins σ G H s2 := ⟨G2, H2, I2, eg2, n1.trans n2⟩
      cases b' with
      | true => exact .inl ⟨er, lp2, hr⟩
      | false =>
        cases hr
        exact .inr ⟨er, by simp, lp2⟩
  · refine ⟨?_, lp⟩
    have : (its.toArray.size == its2.toArray.size) = b := by
      rw [l1, l2] at hr ⊢
      rcases Nat.lt_trichotomy ds.length es.length with c | c | c
      · have m : min ds.length es.length = ds.length := by omega
        rw [m, List.drop_length, List.drop_eq_getElem_cons c] at hr
        have : some false = some b := by simpa [eqDs] using hr
        cases this
        simp; omega
      · have m : min ds.length es.length = ds.length := by omega
        rw [m, List.drop_length, c, List.drop_length] at hr
        have : some true = some b := by simpa [eqDs] using hr
        cases this
        simp [c]
      · have m : min ds.length es.length = es.length := by omega
        rw [m, List.drop_length, List.drop_eq_getElem_cons c] at hr
        have : some false = some b := by simpa [eqDs] using hr
        cases this
        simp; omega
    rw [this]
theorem rc_own {c : Nat} (own : OwnQ X CX C n k c) (hx : Passes CX X fun _ _ _ => False) (hn1 : ds.length = n) (hn2 : es.length = n) (hn3 : D.deeps ds ≤ 4) (h : eqDs noOk ds es = some b) {A : Around} {pins : List (Addr × Obj)} {s : Shared} {σ : L2.St} {G H : Hp} {a1 a2 : Addr}
    (sb : Sub X k A) (I : Inv X pins σ H s) (eg : Ex G H) (r1 : DR X.K C G (.ref a1) (.obj c ds)) (r2 : DR X.K C G (.ref a2) (.obj c es)) :
    wpAny (model X.prog X.w) A (richCompare .Eq (.ref a1) (.ref a2)) (fun r s' => r = .bool b ∧ Lp X pins σ G H s') X.xe s := by
  obtain ⟨f, fd, ps, cw, F, hk, hb, hc⟩ := own.ex
  have p1 : ∃ dx fs, H a1 = some (.ins (C.at_ c) dx fs) := by
    cases r1 with
    | obj h n r => exact ⟨_, _, eg _ _ h⟩
  have p2 : ∃ dx fs, H a2 = some (.ins (C.at_ c) dx fs) := by
    cases r2 with
    | obj h n r => exact ⟨_, _, eg _ _ h⟩
  obtain ⟨dx, fs, ha⟩ := p1
  obtain ⟨dy, gs, hb'⟩ := p2
  obtain ⟨mA, J, _⟩ := ins_get I.hok ha
  obtain ⟨mB, J', _⟩ := ins_get I.hok hb'
  obtain ⟨od, J, _⟩ := J.look
  obtain ⟨od', J', _⟩ := J'.look
  obtain ⟨m, hF⟩ := I.fr
  have sp : spW X.K C cw [V.ref a1, V.ref a2] H (fun v H' => v = .bl b ∧ ∃ G', Ex G' H' ∧ Nx [] G H G' H' []) fun _ _ _ => False :=
    ⟨G, [], [], [.dat (.obj c ds), .dat (.obj c es)], [], fun t _ => t = .dat (.bool b), fun _ _ => False, ⟨eg, .nil, List.nodup_nil, fun _ z => nomatch z⟩, .cons r1 (.cons r2 .nil), hc ds es b hn1 hn2 hn3 h _ _ rfl, fun t rt' fps' fp G' H' v r' n' o' new hk => by
      subst hk
      cases o'.tr with
      | dat h =>
        cases h
        exact ⟨rfl, G', r'.sub, n'.less fun _ z => nomatch z⟩, fun _ _ _ _ _ _ _ _ _ _ z => z.elim⟩
  have r3 : Vals [V.ref a1, V.ref a2] [Value.ref a1, Value.ref a2] := .cons rfl (.cons rfl .nil)
  refine PySem.W.cmp_K (op := .Eq) (tb := .ref (C.at_ c)) sb.room.units0 hF I.ok.mod.kin J J'.type (by simp [PySem.W.notFirst]) hk.eq hk.fn (wpAny_mono (run_at sb F hb hx I r3 sp) (fun w s' hw => ?_) fun _ _ z => z)
  obtain ⟨z, H', I', rz, ez, G', eg', n'⟩ := hw
  subst ez
  cases rz
  exact ⟨rfl, G', H', I', eg', n'⟩
theorem sc_flat {x y : D} (h : D.sc x y = some b) : flatD x = true ∧ flatD y = true := by
  unfold D.sc at h
  split at h <;> first | exact ⟨rfl, rfl⟩ | cases h
theorem deep_mem : ∀ {ds : List D} {i : Nat} {d : D}, ds[i]? = some d → d.deep ≤ D.deeps ds
  | [], _, _, h => by simp at h
  | d :: ds, 0, _, h => by
    cases Option.some.inj h
    exact Nat.le_max_left _ _
  | d :: ds, i + 1, _, h => Nat.le_trans (deep_mem (i := i) (show ds[i]? = some _ from h)) (Nat.le_max_right _ _)
theorem eqP_all (own : ∀ c n, ok c = some n → OwnQ X CX C n k c) (hx : Passes CX X fun _ _ _ => False) : ∀ (m : Nat) (d e : D) (b : Bool), d.deep ≤ m → eqD ok d e = some b → EqP X C (m + k) d e b := by
  have scal : ∀ {m : Nat} {d e : D} {b : Bool}, D.sc d e = some b → EqP X C (m + k) d e b := fun h A pins s σ G H x y u v sb I eg rx ry r1 r2 => by
    obtain ⟨f1, f2⟩ := sc_flat h
    have q := eqAt_V (A := A) (s := s) rx ry (flatD_ok f1 r1) (flatD_ok f2 r2)
    rw [sc_eqV h r1 r2] at q
    exact q X.prog X.w X.xe _ ⟨rfl, .refl I eg⟩
  have tups : ∀ {m : Nat} {d e : D} {b : Bool} {ds es : List D}, (∀ (i : Nat) (d e : D) (b' : Bool), ds[i]? = some d → es[i]? = some e → eqD ok d e = some b' → EqP X C (m + k) d e b') → eqDs ok ds es = some b → eqD ok d e = some b →
      (∀ G v, DR X.K C G v d → ∃ a xs, v = .ref a ∧ SqT X.K G a xs ∧ DRs X.K C G xs ds) → (∀ G v, DR X.K C G v e → ∃ a xs, v = .ref a ∧ SqT X.K G a xs ∧ DRs X.K C G xs es) → EqP X C (m + 1 + k) d e b := fun {m d e b ds es} hit h hd k1 k2 A pins s σ G H x y u v sb I eg rx ry r1 r2 => by
    obtain ⟨a1, xs, rfl, s1, t1⟩ := k1 _ _ r1
    obtain ⟨a2, ys, rfl, s2, t2⟩ := k2 _ _ r2
    cases rx
    cases ry
    by_cases hab : a1 = a2
    · subst hab
      have := same_true I eg _ ok _ _ _ hd r1 r2
      subst this
      exact SeqAt.EqAt.same (A := A) (s := s) (.ref a1) X.prog X.w X.xe _ ⟨rfl, .refl I eg⟩
    · have sb2 : Sub X (m + k + 1) A := by
        have e : m + 1 + k = m + k + 1 := by omega
        rw [← e]; exact sb
      refine GQ.eqBool_refG hab (wpAny_mono (rc_items hit h sb2 I eg s1 s2 t1 t2 false) (fun r s' q => ?_) fun _ _ x => x)
      obtain ⟨er, lp⟩ := q
      exact ⟨b, by simpa using er, rfl, lp⟩
  have ex1 : ∀ (ds : List D) G v, DR X.K C G v (.tup ds) → ∃ a xs, v = .ref a ∧ SqT X.K G a xs ∧ DRs X.K C G xs ds := fun ds G v h => by
    cases h with
    | tup h r => exact ⟨_, _, rfl, h, r⟩
  have ex2 : ∀ (ds : List D) G v, DR X.K C G v (.tpx ds) → ∃ a xs, v = .ref a ∧ SqT X.K G a xs ∧ DRs X.K C G xs ds := fun ds G v h => by
    cases h with
    | tpx h _ r => exact ⟨_, _, rfl, .inl (.inr ⟨_, h⟩), r⟩
  have objs : ∀ {m c : Nat} {ds es : List D} {b : Bool}, ok c = some ds.length → es.length = ds.length → D.deeps ds ≤ 4 → eqDs noOk ds es = some b → eqD ok (.obj c ds) (.obj c es) = some b → EqP X C (m + k) (.obj c ds) (.obj c es) b := fun {m c ds es b} hc hl h4 h hd A pins s σ G H x y u v sb I eg rx ry r1 r2 => by
    obtain ⟨a1, e1⟩ : ∃ a, x = .ref a := by cases r1 with | obj h n r => exact ⟨_, rfl⟩
    obtain ⟨a2, e2⟩ : ∃ a, y = .ref a := by cases r2 with | obj h n r => exact ⟨_, rfl⟩
    subst e1 e2
    cases rx
    cases ry
    by_cases hab : a1 = a2
    · subst hab
      have := same_true I eg _ ok _ _ _ hd r1 r2
      subst this
      exact SeqAt.EqAt.same (A := A) (s := s) (.ref a1) X.prog X.w X.xe _ ⟨rfl, .refl I eg⟩
    · refine GQ.eqBool_refG hab (wpAny_mono (rc_own (own c _ hc) hx rfl hl h4 h (sb.mono (by omega)) I eg r1 r2) (fun r s' q => ?_) fun _ _ x => x)
      obtain ⟨er, lp⟩ := q
      exact ⟨b, er, rfl, lp⟩
  intro m
  induction m with
  | zero =>
    intro d e b hm h
    cases d with
    | tup ds => exact absurd hm (by simp [D.deep])
    | tpx ds => exact absurd hm (by simp [D.deep])
    | obj c ds =>
      cases e with
      | obj c' es =>
        have h' : (if c = c' ∧ ok c = some ds.length ∧ es.length = ds.length ∧ D.deeps ds ≤ 4 then eqDs noOk ds es else none) = some b := by simpa [eqD] using h
        split at h'
        · rename_i z
          obtain ⟨z1, z2, z3, z4⟩ := z
          subst z1
          exact objs z2 z3 z4 h' h
        · cases h'
      | _ => simp [eqD, D.sc] at h
    | _ => exact scal (by simpa [eqD] using h)
  | succ m ih =>
    intro d e b hm h
    have hit : ∀ ds es : List D, D.deeps ds ≤ m → ∀ (i : Nat) (d e : D) (b' : Bool), ds[i]? = some d → es[i]? = some e → eqD ok d e = some b' → EqP X C (m + k) d e b' := fun ds es hd i d e b' h1 h2 h3 => ih d e b' (Nat.le_trans (deep_mem h1) hd) h3
    cases d with
    | tup ds =>
      have hd : D.deeps ds ≤ m := by simpa [D.deep] using hm
      cases e with
      | tup es => exact tups (hit ds es hd) (by simpa [eqD] using h) h (ex1 ds) (ex1 es)
      | tpx es => exact tups (hit ds es hd) (by simpa [eqD] using h) h (ex1 ds) (ex2 es)
      | _ => simp [eqD, D.sc] at h
    | tpx ds =>
      have hd : D.deeps ds ≤ m := by simpa [D.deep] using hm
      cases e with
      | tup es => exact tups (hit ds es hd) (by simpa [eqD] using h) h (ex2 ds) (ex1 es)
      | tpx es => exact tups (hit ds es hd) (by simpa [eqD] using h) h (ex2 ds) (ex2 es)
      | _ => simp [eqD, D.sc] at h
    | obj c ds =>
      cases e with
      | obj c' es =>
        have h' : (if c = c' ∧ ok c = some ds.length ∧ es.length = ds.length ∧ D.deeps ds ≤ 4 then eqDs noOk ds es else none) = some b := by simpa [eqD] using h
        split at h'
        · rename_i z
          obtain ⟨z1, z2, z3, z4⟩ := z
          subst z1
          exact objs z2 z3 z4 h' h
        · cases h'
      | _ => simp [eqD, D.sc] at h
    | _ => exact scal (by simpa [eqD] using h)
def rEqO (K : PySem.W.Frag) (C : Cs) (ok : Nat → Option Nat) (m : Nat) (neg : Bool) : R2 := fun x y H Q => ∃ G ds es b a1 a2 xs ys, x = .ref a1 ∧ y = .ref a2 ∧ Ex G H ∧ SqT K G a1 xs ∧ SqT K G a2 ys ∧ DRs K C G xs ds ∧ DRs K C G ys es ∧ D.deeps ds ≤ m ∧ eqDs ok ds es = some b ∧
  ∀ G' H', Ex G' H' → Nx [] G H G' H' [] → Q (.bl (neg != b)) H'
theorem op_eqO {m : Nat} (neg : Bool) (own : ∀ c n, ok c = some n → OwnQ X CX C n k c) (hx : Passes CX X fun _ _ _ => False) (hr : Room (m + k + 1) X.A) : OpR X (compareOp (if neg then .NotEq else .Eq)) (rEqO X.K C ok m neg) := by
  intro pins s σ H x y v u Q I rx ry ⟨G, ds, es, b, a1, a2, xs, ys, e1, e2, eg, s1, s2, t1, t2, hd, h, q⟩
  subst e1 e2
  cases rx
  cases ry
  have go := rc_items (A := X.A) (fun i d e b' h1 h2 h3 => eqP_all own hx m d e b' (Nat.le_trans (deep_mem h1) hd) h3) h ⟨hr, rfl⟩ I eg s1 s2 t1 t2 neg
  have fin : wpAny (model X.prog X.w) X.A (richCompare (if neg then .NotEq else .Eq) (.ref a1) (.ref a2)) (EP X pins σ Q) X.xe s := wpAny_mono go (fun r s' hq => by
    obtain ⟨er, G', H', I', eg', n'⟩ := hq
    subst er
    exact ⟨.bl (neg != b), H', I', rfl, q G' H' eg' n'⟩) fun _ _ z => z
  cases neg with
  | false => exact fin
  | true => exact fin
def tupD : Val → Option (List D)
  | .dat (.tup ds) => some ds
  | .dat (.tpx ds) => some ds
  | _ => none
theorem tupD_ok {K : PySem.W.Frag} {G H : Hp} {ρ : List Addr} {x : Val} {v : V} (h : tupD x = some ds) (r : VR K C G H ρ x v) : ∃ a xs, v = .ref a ∧ SqT K G a xs ∧ DRs K C G xs ds := by
  unfold tupD at h
  split at h
  · cases h
    cases r with
    | tup h r => exact ⟨_, _, rfl, h, r⟩
  · cases h
    cases r with
    | tpx h _ r => exact ⟨_, _, rfl, .inl (.inr ⟨_, h⟩), r⟩
  · cases h
/-- a == b, a != b of tuples with own instances in them -/
def wEqO (ok : Nat → Option Nat) (m : Nat) (neg : Bool) (wa wb : WE) : WE := fun sl rt k => wa sl rt fun x rt1 => wb sl rt1 fun y rt2 => match tupD x with
  | some ds => match tupD y with
    | some es => D.deeps ds ≤ m ∧ ∃ b, eqDs ok ds es = some b ∧ k (.dat (.bool (neg != b))) rt2
    | none => False
  | none => False
variable {K : PySem.W.Frag} {U : UX} {wa wb : WE} {e1 e2 : Expr} {pos : Pos}
theorem RSt.free {rt : Roots} {ρ : List Addr} {fps : List (List Addr)} {G H G' H' : Hp} (r : RSt K C rt ρ fps G H) (eg : Ex G' H') (n : Nx [] G H G' H' []) : ∃ fps', RSt K C rt ρ fps' G' H' ∧ Nx fps.flatten G H G' H' fps'.flatten := by
  obtain ⟨bs, fpsc, b1, b2, b3, b4⟩ := borrowed (xs := []) (vs := []) (ts := []) r .nil rfl rfl
  obtain ⟨l1, l2⟩ := b1.root.lens
  have e1 : bs = [] := List.length_eq_zero_iff.mp l1
  have e2 : fpsc = [] := List.length_eq_zero_iff.mp l2
  subst e1 e2
  obtain ⟨fps', z1, z2, _⟩ := b4 [] [] G' H' ⟨eg, .nil, List.nodup_nil, fun _ z => nomatch z⟩ n
  exact ⟨fps', z1, z2⟩
theorem e_eqO {m : Nat} {neg : Bool} : ∀ σ H Q, tE K C U (wEqO ok m neg wa wb) σ H Q → tOp (rEqO K C ok m neg) (tE K C U wa) (tE K C U wb) σ H Q := fun σ H Q ⟨sl, rt, ρ, fps, G, k, s, xf, w, q⟩ =>
  ⟨sl, rt, ρ, fps, G, _, s, xf, w, fun x rt1 fps1 G1 H1 v r1 n1 v1 w1 => ⟨sl, rt1, ρ, fps1, G1, _, s.step r1 n1 fun _ _ e => e, xf.later n1 (Pre.refl _), w1, fun y rt2 fps2 G2 H2 u r2 n2 v2 w2 => by
    have v1 := v1.up n2 fun _ _ e => e
    split at w2
    · rename_i ds h1
      split at w2
      · rename_i es h2
        obtain ⟨hd, b, hb, w2⟩ := w2
        obtain ⟨a1, xs, rfl, s1, t1⟩ := tupD_ok h1 v1
        obtain ⟨a2, ys, rfl, s2, t2⟩ := tupD_ok h2 v2
        refine ⟨G2, ds, es, b, a1, a2, xs, ys, rfl, rfl, r2.sub, s1, s2, t1, t2, hd, hb, fun G' H' eg n => ?_⟩
        obtain ⟨fps', r3, n3⟩ := r2.free eg n
        exact q (.dat (.bool (neg != b))) rt2 fps' G' H' _ r3 ((n1.trans n2).trans n3) (DR.bool _) w2
      · exact w2.elim
    · exact w2.elim⟩⟩
theorem we_eqO {m : Nat} {neg : Bool} {op : CmpOp} (ho : OpR X (compareOp op) (rEqO K C ok m neg)) (ha : PE X e1 (tE K C U wa)) (hb : PE X e2 (tE K C U wb)) (hm : behindInMarks op e2 = false) : PE X (.Compare e1 [op] [e2] pos) (tE K C U (wEqO ok m neg wa wb)) := pe_imp (pe_cmpR ho ha hb hm) e_eqO
theorem wt_eqO {m : Nat} {neg : Bool} {op : CmpOp} (ho : OpR X (compareOp op) (rEqO K C ok m neg)) (ha : PE X e1 (tE K C U wa)) (hb : PE X e2 (tE K C U wb)) (hm : behindInMarks op e2 = false) : PT X (.Compare e1 [op] [e2] pos) (tT K C U (wB (wEqO ok m neg wa wb))) :=
  pt_imp (pt_cmpR ho ha hb hm) fun σ H Q h => e_eqO σ H _ (t_test σ H Q h)
end
end Wv
end

section
set_option Elab.async false
set_option linter.all false
set_option maxRecDepth 100000
set_option maxHeartbeats 4000000
namespace Wv
open PySem PySem.Spec PyProof.Rows L2 Evl
section
variable {K : PySem.W.Frag} {C : Cs} {U : UX} {X : Cx} {CX : CXT} {k n : Nat} {ds es : List D} {b : Bool} {G H : Hp} {f : Addr} {fd : FuncData} {ps : List Str} {cw : CW}
/-! ### in a list of data of any depth -/
def rInL (K : PySem.W.Frag) : R2 := fun x y H Q => ∃ d ds, Dp K H x d ∧ Dp K H y (.list ds) ∧ SeqAt.shaped d = true ∧ d.depth ≤ 32 ∧ SeqAt.shaped (.list ds) = true ∧ Q (.bl (ds.any fun z => PyData.eqv z d)) H
theorem op_inL (hu : X.A.units + 64 < cLine) : OpR X (compareOp .In) (rInL X.K) := by
  intro pins s σ H x y v u Q I rx ry h
  obtain ⟨d, ds, hd, he, sd, dep, se, q⟩ := h
  obtain ⟨as, r1⟩ := Dp.reads I d x v hd rx
  obtain ⟨bs, r2⟩ := Dp.reads I (.list ds) y u he ry
  exact SeqAt.in_list_reads r2 r1 (SeqAt.canLay_of_shaped se) (SeqAt.canLay_of_shaped sd) (by omega) ⟨.bl _, H, I, rfl, q⟩
def sInL : Sem2 := fun x y rt k => match x with
  | .dat d => match listOf y rt with
    | some ds => ∃ px ps, d.py = some px ∧ D.pys ds = some ps ∧ SeqAt.shaped px = true ∧ px.depth ≤ 32 ∧ SeqAt.shaped (.list ps) = true ∧ k (.bool (ps.any fun z => PyData.eqv z px))
    | none => False
  | _ => False
theorem s_inL : S2 K C sInL (rInL K) := fun rt ρ fps G H x y v u s a b k Q w q => by
  unfold sInL at w
  split at w
  · split at w
    · rename_i ds e
      obtain ⟨px, ps, h1, h2, h3, h5, h4, w⟩ := w
      obtain ⟨p, xs, rfl, z1, z2⟩ := s.listOf e b
      exact ⟨px, ps, DR.py s.sub _ _ _ a h1, .lst z1 (DRs.py s.sub _ _ _ z2 h2), h3, h5, h4, q _ _ w (.bool _)⟩
    · exact w.elim
  · exact w.elim
/-- one class whose own == compares n fields -/
def ok1 (c0 n0 : Nat) : Nat → Option Nat := fun c => if c = c0 then some n0 else none
theorem own1 {c0 n0 : Nat} (F : FnOk X.prog X.w X.K X.mg X.base CX k f fd ps (spW X.K C cw)) (hk : EqK X.K (C.at_ c0) f) (hb : Binds X.K fd ps [])
    (hs : ∀ ds es b, ds.length = n0 → es.length = n0 → D.deeps ds ≤ 4 → eqDs noOk ds es = some b → ∀ (kk : T → Roots → Prop) kx, kk (.dat (.bool b)) [] → cw [.dat (.obj c0 ds), .dat (.obj c0 es)] [] kk kx) : ∀ c n, ok1 c0 n0 c = some n → OwnQ X CX C n k c := fun c n h => by
  unfold ok1 at h
  split at h
  · rename_i e
    cases h
    subst e
    exact ⟨f, fd, ps, cw, F, hk, hb, hs⟩
  · cases h
theorem own0 : ∀ c n, noOk c = some n → OwnQ X CX C n 0 c := fun _ _ h => nomatch h
/-! ### and, or whose second part may change what is owned -/
variable {ta tb : WT} {wa wb : WE} {ea eb : Expr} {rest : List Expr} {pos : Pos}
def wAndD (ta tb : WT) : WT := fun sl rt k => ta sl rt fun a rt1 => (a = true → tb sl rt1 k) ∧ (a = false → k false rt1)
def wOrD (ta tb : WT) : WT := fun sl rt k => ta sl rt fun a rt1 => (a = false → tb sl rt1 k) ∧ (a = true → k true rt1)
theorem t_andD : ∀ σ H Q, tT K C U (wAndD ta tb) σ H Q → tAnd (tT K C U ta) (tT K C U tb) σ H Q := fun σ H Q ⟨sl, rt, ρ, fps, G, k, s, xf, w, q⟩ =>
  ⟨sl, rt, ρ, fps, G, _, s, xf, w, fun a rt1 fps1 G1 H1 r1 n1 w1 => by
    cases a with
    | true => exact ⟨sl, rt1, ρ, fps1, G1, k, s.step r1 n1 fun _ _ e => e, xf.later n1 (Pre.refl _), w1.1 rfl, fun b' rt2 fps2 G2 H2 r2 n2 hk => q b' rt2 fps2 G2 H2 r2 (n1.trans n2) hk⟩
    | false => exact q false rt1 fps1 G1 H1 r1 n1 (w1.2 rfl)⟩
theorem t_orD : ∀ σ H Q, tT K C U (wOrD ta tb) σ H Q → tOr (tT K C U ta) (tT K C U tb) σ H Q := fun σ H Q ⟨sl, rt, ρ, fps, G, k, s, xf, w, q⟩ =>
  ⟨sl, rt, ρ, fps, G, _, s, xf, w, fun a rt1 fps1 G1 H1 r1 n1 w1 => by
    cases a with
    | false => exact ⟨sl, rt1, ρ, fps1, G1, k, s.step r1 n1 fun _ _ e => e, xf.later n1 (Pre.refl _), w1.1 rfl, fun b' rt2 fps2 G2 H2 r2 n2 hk => q b' rt2 fps2 G2 H2 r2 (n1.trans n2) hk⟩
    | true => exact q true rt1 fps1 G1 H1 r1 n1 (w1.2 rfl)⟩
theorem ww_andD (ha : PT X ea (tT K C U ta)) (hb : PW X (.BoolOp .And (eb :: rest) pos) (tT K C U tb)) : PW X (.BoolOp .And (ea :: eb :: rest) pos) (tT K C U (wAndD ta tb)) := pw_imp (pw_and ha hb) t_andD
theorem ww_orD (ha : PT X ea (tT K C U ta)) (hb : PW X (.BoolOp .Or (eb :: rest) pos) (tT K C U tb)) : PW X (.BoolOp .Or (ea :: eb :: rest) pos) (tT K C U (wOrD ta tb)) := pw_imp (pw_or ha hb) t_orD
def wAndE (wa wb : WE) : WE := fun sl rt k => wa sl rt fun x rt1 => match x with
  | .dat (.bool a) => (a = true → wb sl rt1 k) ∧ (a = false → k (.dat (.bool false)) rt1)
  | _ => False
def wOrE (wa wb : WE) : WE := fun sl rt k => wa sl rt fun x rt1 => match x with
  | .dat (.bool a) => (a = false → wb sl rt1 k) ∧ (a = true → k (.dat (.bool true)) rt1)
  | _ => False
theorem e_andE : ∀ σ H Q, tE K C U (wAndE wa wb) σ H Q → tAndV (tE K C U wa) (tE K C U wb) σ H Q := fun σ H Q ⟨sl, rt, ρ, fps, G, k, s, xf, w, q⟩ =>
  ⟨sl, rt, ρ, fps, G, _, s, xf, w, fun x rt1 fps1 G1 H1 v r1 n1 v1 w1 => by
    split at w1
    · rename_i a
      cases v1
      refine ⟨a, rfl, ?_⟩
      cases a with
      | true => exact ⟨sl, rt1, ρ, fps1, G1, k, s.step r1 n1 fun _ _ e => e, xf.later n1 (Pre.refl _), w1.1 rfl, fun y rt2 fps2 G2 H2 u r2 n2 v2 hk => q y rt2 fps2 G2 H2 u r2 (n1.trans n2) v2 hk⟩
      | false => exact q (.dat (.bool false)) rt1 fps1 G1 H1 _ r1 n1 (DR.bool _) (w1.2 rfl)
    · exact w1.elim⟩
theorem e_orE : ∀ σ H Q, tE K C U (wOrE wa wb) σ H Q → tOrV (tE K C U wa) (tE K C U wb) σ H Q := fun σ H Q ⟨sl, rt, ρ, fps, G, k, s, xf, w, q⟩ =>
  ⟨sl, rt, ρ, fps, G, _, s, xf, w, fun x rt1 fps1 G1 H1 v r1 n1 v1 w1 => by
    split at w1
    · rename_i a
      cases v1
      refine ⟨a, rfl, ?_⟩
      cases a with
      | false => exact ⟨sl, rt1, ρ, fps1, G1, k, s.step r1 n1 fun _ _ e => e, xf.later n1 (Pre.refl _), w1.1 rfl, fun y rt2 fps2 G2 H2 u r2 n2 v2 hk => q y rt2 fps2 G2 H2 u r2 (n1.trans n2) v2 hk⟩
      | true => exact q (.dat (.bool true)) rt1 fps1 G1 H1 _ r1 n1 (DR.bool _) (w1.2 rfl)
    · exact w1.elim⟩
theorem we_andE (ha : PE X ea (tE K C U wa)) (hb : PE X (.BoolOp .And (eb :: rest) pos) (tE K C U wb)) : PE X (.BoolOp .And (ea :: eb :: rest) pos) (tE K C U (wAndE wa wb)) := pe_imp (pe_and ha hb) e_andE
theorem we_orE (ha : PE X ea (tE K C U wa)) (hb : PE X (.BoolOp .Or (eb :: rest) pos) (tE K C U wb)) : PE X (.BoolOp .Or (ea :: eb :: rest) pos) (tE K C U (wOrE wa wb)) := pe_imp (pe_or ha hb) e_orE
end
end Wv
end

section
set_option Elab.async false
set_option linter.all false
set_option maxRecDepth 100000
set_option maxHeartbeats 4000000
namespace Wv
open PySem PySem.Spec PyProof.Rows L2 Evl
section
variable {K : PySem.W.Frag} {C : Cs} {U : UX} {G H G' H' G1 H1 G2 H2 : Hp} {sl sl' : Slots} {rt rt' : Roots} {σ : L2.St} {ρ ρ' ρ1 : List Addr} {fps fps' fps1 : List (List Addr)}
variable {X : Cx} {CX : CXT} {a b c e o : Expr} {es rest : List Expr} {wa wb wc : WE} {pos p apos cpos : Pos} {Z : WEnds} {E : L2.St → XK} {st : Stmt} {k : Nat} {f Ca : Addr} {fd : FuncData} {ps : List Str} {sp : Sp} {x m name : Str} {ta to : TE} {t : TA} {ds : List Value}
/-! ### what never comes to pass -/
def wNever : WS := fun _ _ _ => False
theorem ws_never : PS X st (tS K C U wNever) := ⟨fun _ _ _ _ _ _ h => by
  obtain ⟨_, _, _, _, _, _, _, z, _⟩ := h
  exact z.elim⟩
def cNever : CW := fun _ _ _ _ => False
theorem ok_never {P : Program} {w : World} {mg : Str → Option Value} {base : Heap} {CX : CXT} : FnOk P w K mg base CX k f fd ps (spW K C cNever) :=
  ⟨fun vs H Q E h => by obtain ⟨_, _, _, _, _, _, _, _, _, z, _⟩ := h; exact z.elim, fun A outer s H args us vs Q E hr he hb hv h => by obtain ⟨_, _, _, _, _, _, _, _, _, z, _⟩ := h; exact z.elim⟩
/-! ### try whose body raises nothing -/
def wTry0 (u : WS) : WS := fun Z sl rt => u { Z with ex := fun _ _ _ => False } sl rt
theorem s_try0 {u : WS} : ∀ D σ H, tS K C U (wTry0 u) D σ H → tS K C (fun _ _ _ _ => False) u D σ H := fun D σ H ⟨Z, sl, rt, ρ, fps, G, s, w, f⟩ =>
  ⟨{ Z with ex := fun _ _ _ => False }, sl, rt, ρ, fps, G, s, w, { f with xf := Xf.no }⟩
theorem ws_try0 {u : WS} {body : List Stmt} {h₀ : ExceptHandler} {hs : List ExceptHandler} (hb : PSs X.nox body (tS K C (fun _ _ _ _ => False) u)) : PS X (.Try body (h₀ :: hs) [] [] pos) (tS K C U (wTry0 u)) := ps_imp (ps_try_thru0 hb) s_try0
/-! ### a place as data, and back -/
def wBk (w : WE) : WO := fun sl rt k => w sl rt fun x rt1 => match x with
  | .ref r p => match tatN rt1 r p with
    | some (.nm a _) => k (.dat (.cst (.ref a))) rt1
    | _ => False
  | _ => False
theorem o_bk {w : WE} : ∀ σ H Q, tO K C U (wBk w) σ H Q → tE K C U w σ H Q := fun σ H Q ⟨sl, rt, ρ, fps, G, k, s, xf, w, q⟩ =>
  ⟨sl, rt, ρ, fps, G, _, s, xf, w, fun x rt1 fps1 G1 H1 v r1 n1 v1 w1 => by
    split at w1
    · rename_i r p
      split at w1
      · rename_i a t ht
        obtain ⟨b, h1, h2, h3⟩ := v1
        obtain ⟨w0, L, fu, R, k1, k2, _, _⟩ := r1.atN ht h1
        rw [h2] at k1
        cases k1
        have e : v = .ref a := by cases k2; rfl
        exact q (.dat (.cst (.ref a))) rt1 fps1 [] G1 H1 v r1 n1 (Own.dat (by rw [e]; exact .cst _)) (fun _ z => nomatch z) w1
      · exact w1.elim
    · exact w1.elim⟩
theorem wo_bk {w : WE} (h : PE X e (tE K C U w)) : PE X e (tO K C U (wBk w)) := pe_imp h o_bk
def wRes (w : WE) : WE := fun sl rt k => w sl rt fun x rt1 => match x with
  | .dat (.cst (.ref a)) => ∃ r t, rt1[r]? = some (.nm a t) ∧ t.isD = false ∧ k (.ref r []) rt1
  | _ => False
theorem e_res {w : WE} : ∀ σ H Q, tE K C U (wRes w) σ H Q → tE K C U w σ H Q := fun σ H Q ⟨sl, rt, ρ, fps, G, k, s, xf, w, q⟩ =>
  ⟨sl, rt, ρ, fps, G, _, s, xf, w, fun x rt1 fps1 G1 H1 v r1 n1 v1 w1 => by
    split at w1
    · rename_i a
      obtain ⟨r, t, h1, h2, w1⟩ := w1
      have e : v = .ref a := by cases v1; rfl
      obtain ⟨b, L, fu, R, z1, z2, _, _⟩ := r1.root.split h1
      cases z2 with
      | nm z2 => exact q (.ref r []) rt1 fps1 G1 H1 v r1 n1 ⟨a, z1, by rw [e]; rfl, by rw [e]; exact z2.nodeB h2, rfl⟩ w1
    · exact w1.elim⟩
theorem we_res {w : WE} (h : PE X e (tE K C U w)) : PE X e (tE K C U (wRes w)) := pe_imp h e_res
/-! ### a method that gets all roots -/
def wMethA (c : Nat) (cw : CW) (wo : WE) (w : WA) : WO := fun sl rt k => wo sl rt fun x rt1 => isObj c x rt1 ∧ w sl rt1 fun xs rt2 => cw (x :: xs) rt2 k fun y ts' => sl.ex y sl.sl ts'
theorem o_methA {c : Nat} {cw : CW} {wo : WE} {w : WA} {m : Str} (hm : m ∉ C.ly c) : ∀ σ H Q, tO K C U (wMethA c cw wo w) σ H Q → tMethX (C.at_ c) m (spW K C cw) (fun σ cls d H => U cls d σ H) (tE K C U wo) (tA K C U w) σ H Q := fun σ H Q ⟨sl, rt, ρ, fps, G, k, s, xf, w, q⟩ =>
  ⟨sl, rt, ρ, fps, G, _, s, xf, w, fun x rt1 fps1 G1 H1 v r1 n1 v1 ⟨hx, w1⟩ => by
    obtain ⟨a, dx, fs, rfl, h, n⟩ := r1.isObj v1 hx
    refine ⟨a, dx, fs, rfl, h, look_no fun z => hm (List.mem_of_mem_take (by rw [← n]; exact z)), sl, rt1, ρ, fps1, G1, _, s.step r1 n1 fun _ _ e => e, xf.later n1 (Pre.refl _), w1, fun xs rt2 fps2 G2 H2 vs r2 n2 v2 w2 => ?_⟩
    have n3 := n1.trans n2
    exact ⟨G2, ρ, fps2, x :: xs, rt2, k, _, r2, .cons (v1.up n2 fun _ _ e => e) v2, w2, fun t rt' fps' fp G' H' v r' n' o' new hk => q t rt' fps' fp G' H' v r' (n3.trans n') o' (fun a ha => (new a ha).elim (fun y => n3.new a y) fun y => .inr (n3.dom a y)) hk,
      fun y rt' fps' G' H' cls d r' n' xr hk => xf y _ rt' σ ρ fps' G' H' cls d (s.step r' (n3.trans n') fun _ _ e => e) (n3.trans n') (Pre.refl _) (xr.early n3.dom) hk⟩⟩
theorem wo_methA {c : Nat} {cw : CW} {wo : WE} {w : WA} {m : Str} (hm : m ∉ C.ly c) (h : PE X e (tMethX (C.at_ c) m (spW K C cw) (fun σ cls d H => U cls d σ H) (tE K C U wo) (tA K C U w))) : PE X e (tO K C U (wMethA c cw wo w)) := pe_imp h (o_methA hm)
end
end Wv
end

section
set_option Elab.async false
set_option linter.all false
set_option maxRecDepth 100000
set_option maxHeartbeats 4000000
namespace Wv
open PySem PySem.Spec PyProof.Rows L2 Evl
section
variable {K : PySem.W.Frag} {C : Cs} {U : UX} {G H G' H' G1 H1 G2 H2 : Hp} {sl sl' : Slots} {rt rt' : Roots} {σ : L2.St} {ρ ρ' ρ1 : List Addr} {fps fps' fps1 : List (List Addr)}
variable {X : Cx} {CX : CXT} {a b c e o : Expr} {es rest : List Expr} {wa wb wc : WE} {pos p apos cpos : Pos} {Z : WEnds} {E : L2.St → XK} {st : Stmt} {k : Nat} {f Ca : Addr} {fd : FuncData} {ps : List Str} {sp : Sp} {x m name : Str} {ta to : TE} {t : TA} {ds : List Value}
/-! ### a new list that never changes -/
def tFzl (t : TE) : TE := fun σ H Q => t σ H fun v H1 => ∃ a xs, v = .ref a ∧ H1 a = some (.lst xs) ∧ ∀ od, Q v (upd H1 a (.frz od (.lst xs)))
theorem pe_fzl (h : PE X e ta) : PE X e (tFzl ta) := by
  refine ⟨fun pins s σ H Q I hw => ?_⟩
  refine thn (h.run pins s σ H _ I hw) fun v s1 ⟨x, H1, I1, r, q⟩ => ?_
  obtain ⟨a, xs, rfl, ha, q⟩ := q
  obtain ⟨od, I2⟩ := I1.lock ha trivial
  exact ⟨_, _, I2, r, q od⟩
def wRepF (wa wb : WE) : WE := fun sl rt k => wa sl rt fun x rt1 => wb sl rt1 fun y rt2 => match lstOf x rt2, y with
  | some ds, .dat (.int n) => (-100000 ≤ n ∧ n ≤ 100000) ∧ ds.length * n.toNat ≤ 100000 ∧ k (.dat (.fzl (List.replicate n.toNat ds).flatten)) rt2
  | _, _ => False
theorem e_repF : ∀ σ H Q, tE K C U (wRepF wa wb) σ H Q → tFzl (tOp rRep (tE K C U wa) (tE K C U wb)) σ H Q := fun σ H Q ⟨sl, rt, ρ, fps, G, k, s, xf, w, q⟩ =>
  ⟨sl, rt, ρ, fps, G, _, s, xf, w, fun x rt1 fps1 G1 H1 v r1 n1 v1 w1 => ⟨sl, rt1, ρ, fps1, G1, _, s.step r1 n1 fun _ _ e => e, xf.later n1 (Pre.refl _), w1, fun y rt2 fps2 G2 H2 u r2 n2 v2 w2 => by
    split at w2
    · rename_i ds n e1
      obtain ⟨a, xs, rfl, h1, d1⟩ := r2.lstOf e1 (v1.up n2 fun _ _ e => e)
      cases v2
      refine ⟨a, n, xs, rfl, rfl, h1, by omega, by omega, sz_of (by rw [d1.len]; exact w2.2.1), fun p hp => ?_⟩
      refine ⟨p, _, rfl, upd_same, fun od => ?_⟩
      rw [upd_upd]
      exact q (.dat (.fzl _)) rt2 fps2 _ _ _ (r2.laid hp) ((n1.trans n2).trans (Nx.laid r2.sub hp _)) (.fzl upd_same (DRs.up (Ex.new (fresh_back r2.sub hp)) _ _ (d1.rep n.toNat))) w2.2.2
    · exact w2.elim⟩⟩
theorem we_repF (ha : PE X a (tE K C U wa)) (hb : PE X b (tE K C U wb)) : PE X (.BinOp a .Mult b pos) (tE K C U (wRepF wa wb)) := pe_imp (pe_fzl (pe_op op_rep ha hb)) e_repF
/-- t * n -/
def wRepT (wa wb : WE) : WE := fun sl rt k => wa sl rt fun x rt1 => wb sl rt1 fun y rt2 => match x, y with
  | .dat (.tup ds), .dat (.int n) => ds ≠ [] ∧ (2 ≤ n ∧ n ≤ 1000) ∧ ds.length ≤ 1000 ∧ k (.dat (.tup (List.replicate n.toNat ds).flatten)) rt2
  | _, _ => False
theorem e_repT : ∀ σ H Q, tE K C U (wRepT wa wb) σ H Q → tOp (rRepT K) (tE K C U wa) (tE K C U wb) σ H Q := fun σ H Q ⟨sl, rt, ρ, fps, G, k, s, xf, w, q⟩ =>
  ⟨sl, rt, ρ, fps, G, _, s, xf, w, fun x rt1 fps1 G1 H1 v r1 n1 v1 w1 => ⟨sl, rt1, ρ, fps1, G1, _, s.step r1 n1 fun _ _ e => e, xf.later n1 (Pre.refl _), w1, fun y rt2 fps2 G2 H2 u r2 n2 v2 w2 => by
    have v1 := v1.up n2 fun _ _ e => e
    split at w2
    · rename_i ds n _
      cases v2
      cases v1 with
      | @tup a xs _ h1 d1 =>
        obtain ⟨w0, w3, w4, w5⟩ := w2
        refine ⟨a, n, xs, rfl, rfl, ex_t r2.sub h1, fun z => w0 ?_, w3.1, w3.2, by rw [d1.len]; exact w4, fun p hp => ?_⟩
        · have := d1.len
          rw [z] at this
          exact List.eq_nil_of_length_eq_zero this.symm
        · exact q (.dat (.tup _)) rt2 fps2 _ _ _ (r2.laid hp) ((n1.trans n2).trans (Nx.laid r2.sub hp _)) (.tup (st_of upd_same) (DRs.up (Ex.new (fresh_back r2.sub hp)) _ _ (d1.rep n.toNat))) w5
    · exact w2.elim⟩⟩
theorem we_repT (ha : PE X a (tE X.K C U wa)) (hb : PE X b (tE X.K C U wb)) : PE X (.BinOp a .Mult b pos) (tE X.K C U (wRepT wa wb)) := pe_imp (pe_op op_repT ha hb) e_repT
/-! ### xs.pop(i) -/
def wPop (wo : WE) (w : WA) : WE := fun sl rt k => wo sl rt fun x rt1 => match x with
  | .ref r p => match tat rt1 r p with
    | some (.lst _) => w sl rt1 fun ys rt2 => match ys with
      | [.dat (.int n)] => match tat rt2 r p with
        | some (.lst ts) => (-100000 ≤ n ∧ n ≤ 100000) ∧ ts.all leafT = true ∧ ∃ j d, seqIndex? n ts.length = some j ∧ ts[j]? = some (.dat d) ∧ k (.dat d) (rt2.modify r (T.put (.lst (ts.eraseIdx j)) p))
        | _ => False
      | _ => False
    | _ => False
  | _ => False
theorem TRs.leaves : ∀ {ts : List T} {vs : List V} {fp : List Addr}, TRs K C G H vs ts fp → ts.all leafT = true → fp = [] ∧ ∀ (i : Nat) v, vs[i]? = some v → ∀ H', Ex G H' → ¬ False
  | _, _, _, .nil, _ => ⟨rfl, fun _ _ z => by simp at z⟩
  | _, _, _, .cons h r, l => by
    simp only [List.all_cons, Bool.and_eq_true] at l
    obtain ⟨h1, h2⟩ := TRs.leaves r l.2
    obtain ⟨_, k1, k2⟩ := leaf_ok l.1 h
    refine ⟨by rw [k1, h1]; rfl, fun i v hi => ?_⟩
    cases i with
    | zero => cases Option.some.inj hi; exact k2
    | succ i => exact h2 i v hi
theorem TRs.erase : ∀ {ts : List T} {vs : List V} (j : Nat), TRs K C G H vs ts [] → ts.all leafT = true → TRs K C G H (vs.eraseIdx j) (ts.eraseIdx j) [] := by
  intro ts vs j h l
  suffices ∀ {ts : List T} {vs : List V} {fp : List Addr} (j : Nat), TRs K C G H vs ts fp → ts.all leafT = true → TRs K C G H (vs.eraseIdx j) (ts.eraseIdx j) [] from this j h l
  intro ts
  induction ts with
  | nil =>
    intro vs fp j h _
    cases h
    exact .nil
  | cons t ts ih =>
    intro vs fp j h l
    simp only [List.all_cons, Bool.and_eq_true] at l
    cases h with
    | cons h r =>
      obtain ⟨_, k1, _⟩ := leaf_ok l.1 h
      obtain ⟨k2, _⟩ := TRs.leaves r l.2
      subst k1 k2
      cases j with
      | zero => exact r
      | succ j => exact TRs.cons (fp := []) (fq := []) h (ih j r l.2)
theorem e_pop {wo : WE} {w : WA} : ∀ σ H Q, tE K C U (wPop wo w) σ H Q → tBM K "list" rPopAt (tE K C U wo) (tA K C U w) σ H Q := fun σ H Q ⟨sl, rt, ρ, fps, G, k, s, xf, w, q⟩ =>
  ⟨sl, rt, ρ, fps, G, _, s, xf, w, fun x rt1 fps1 G1 H1 v r1 n1 v1 w1 => by
    split at w1
    · rename_i r p
      split at w1
      · rename_i ts0 ht0
        obtain ⟨a, fu, k1, k2, k3, _⟩ := r1.get ht0 v1
        cases k3 with
        | @lst b xs0 _ fq0 hb0 tr0 =>
          refine ⟨.inl ⟨rfl, xs0, sq_of hb0⟩, sl, rt1, ρ, fps1, G1, _, s.step r1 n1 fun _ _ e => e, xf.later n1 (Pre.refl _), w1, fun ys rt2 fps2 G2 H2 vs r2 n2 vv w2 => ?_⟩
          have v2 := v1.up n2 fun _ _ e => e
          split at w2
          · rename_i n
            split at w2
            · rename_i ts ht
              obtain ⟨hn, hl, j, d, hj, hd, w2⟩ := w2
              obtain ⟨a', fu, z1, z2, z3, _⟩ := r2.get ht v2
              cases z3 with
              | @lst _ xs _ fq hb tr =>
                obtain ⟨e0, lv⟩ := tr.leaves hl
                subst e0
                have idn : Idn H2 (upd H2 b (.lst (xs.eraseIdx j))) := idn_lst hb fun i q hq hn => absurd hn (lv i q hq _ r2.sub)
                obtain ⟨fps3, r3, mem, hbF⟩ := r2.write (t' := .lst (ts.eraseIdx j)) (fn := []) ht z1 z2 (by intro d q; cases q) idn (fun fu hfu => by
                  cases hfu with
                  | @lst _ xs' _ fq' hb' tr' =>
                    rw [hb] at hb'
                    cases hb'
                    obtain ⟨e1, _⟩ := tr'.leaves hl
                    subst e1
                    refine ⟨List.mem_cons_self, fun nd dis => ⟨[b], .lst upd_same ?_, by simp⟩⟩
                    exact (TRs.stay (Ex.refl _) _ _ _ tr' fun q hq => nomatch hq).erase j hl) List.nodup_nil (fun _ q => nomatch q) (fun _ q => nomatch q)
                cases vv with
                | cons va vr =>
                  cases vr
                  cases va
                  obtain ⟨y, fy, y1, y2, _⟩ := tr.get hd
                  refine ⟨b, xs, n, j, y, rfl, rfl, hb, by omega, by omega, by rw [TRs.len tr]; exact hj, y1, ?_⟩
                  have nW : Nx fps2.flatten G2 H2 G2 (upd H2 b (.lst (xs.eraseIdx j))) fps2.flatten := Nx.write (fps' := fps2) hbF (by rw [hb]; exact fun q => nomatch q) idn (fp := []) (fun _ q => nomatch q)
                  have n5 : Nx fps.flatten G H G2 (upd H2 b (.lst (xs.eraseIdx j))) fps3.flatten := ((n1.trans n2).trans nW).less fun l hl => by
                    rcases mem l hl with q | q
                    · exact q
                    · cases q
                  cases y2 with
                  | dat y2 => exact q (.dat d) _ fps3 G2 _ _ r3 n5 y2 w2
            · exact w2.elim
          · exact w2.elim
      · exact w1.elim
    · exact w1.elim⟩
theorem we_pop {wo : WE} {w : WA} (h : PE X e (tBM K "list" rPopAt (tE K C U wo) (tA K C U w))) : PE X e (tE K C U (wPop wo w)) := pe_imp h e_pop
end
end Wv
end

section
set_option Elab.async false
set_option linter.all false
set_option maxRecDepth 100000
set_option maxHeartbeats 4000000
namespace Wv
open PySem PySem.Spec PyProof.Rows L2 Evl
section
variable {K : PySem.W.Frag} {C : Cs} {U : UX} {G H G' H' G1 H1 G2 H2 : Hp} {sl sl' : Slots} {rt rt' : Roots} {σ : L2.St} {ρ ρ' ρ1 : List Addr} {fps fps' fps1 : List (List Addr)}
variable {X : Cx} {CX : CXT} {a b c e o : Expr} {es rest : List Expr} {wa wb wc : WE} {pos p apos cpos : Pos} {Z : WEnds} {E : L2.St → XK} {st : Stmt} {k : Nat} {f Ca : Addr} {fd : FuncData} {ps : List Str} {sp : Sp} {x m name : Str} {ta to : TE} {t : TA} {ds : List Value}
/-! ### a leaf becomes a tree -/
theorem TRs.setT : ∀ {ts : List T} {vs : List V} {fp fq : List Addr} {j : Nat} {u t : T} {v : V}, TRs K C G H vs ts fp → ts[j]? = some u → leafT u = true → TR K C G H v t fq → ∃ fp', TRs K C G H (vs.set j v) (ts.set j t) fp' ∧ fp'.Perm (fp ++ fq)
  | _, _, _, _, _, _, _, _, .nil, e, _, _ => by simp at e
  | _, _, _, fq, 0, _, _, _, .cons (fp := fp) (fq := fr) h r, e, l, d => by
    cases Option.some.inj e
    obtain ⟨_, hf, _⟩ := leaf_ok l h
    subst hf
    exact ⟨_, .cons d r, by simpa using List.perm_append_comm⟩
  | _, _, _, _, j + 1, _, _, _, .cons (fp := fp) h r, e, l, d => by
    obtain ⟨fp', t1, t2⟩ := TRs.setT (j := j) r e l d
    exact ⟨_, .cons h t1, by rw [List.append_assoc]; exact List.Perm.append_left fp t2⟩
def wSetFT (F : Nat → Option Nat) (w : WO) (wx : WE) : WS := fun Z sl rt => w ⟨sl, Z.ex⟩ rt fun t rt1 => wx ⟨sl, Z.ex⟩ rt1 fun x rt2 => match x with
  | .ref r p => match tat rt2 r p with
    | some (.obj c ts) => match F c with
      | some i => ts.length < 900 ∧ ∃ u, ts[i]? = some u ∧ leafT u = true ∧ Z.nx sl (rt2.modify r (T.put (.obj c (ts.set i t)) p))
      | none => False
    | _ => False
  | _ => False
theorem s_setFT {F : Nat → Option Nat} {f : Str} (hF : FOk K C F f) {w : WO} {wx : WE} : ∀ D σ H, tS K C U (wSetFT F w wx) D σ H → sFld K (tE K C U wx) (tO K C U w) f D σ H := fun D σ H ⟨Z, sl, rt, ρ, fps, G, s, w, fn⟩ =>
  ⟨⟨sl, Z.ex⟩, rt, ρ, fps, G, _, s, fn.xf, w, fun t rt1 fps1 fp G1 H1 y r1 n1 o1 new w1 => ⟨⟨sl, Z.ex⟩, rt1, ρ, fps1, G1, _, s.step r1 n1 fun _ _ e => e, fn.xf.later n1 (Pre.refl _), w1, fun x rt2 fps2 G2 H2 v r2 n2 v2 w2 => by
    split at w2
    · rename_i r p
      split at w2
      · rename_i c ts ht
        split at w2
        · rename_i i hi
          obtain ⟨f1, f2, f3, f4⟩ := hF _ _ hi
          obtain ⟨a, fu, z1, z2, z3, _⟩ := r2.get ht v2
          have o2 := o1.past n2
          cases z3 with
          | @obj b dx fs _ _ fq hb nm tr =>
            have hlen : fs.length = ts.length := by
              have := TRs.len tr
              simpa using this
            obtain ⟨w0, w2⟩ := w2
            refine ⟨b, _, dx, fs, rfl, hb, f1, f2, by omega, ?_⟩
            obtain ⟨u, hu, hlf, w2⟩ := w2
            have hi2 : i < fs.length := by rw [hlen]; exact (List.getElem?_eq_some_iff.mp hu).1
            have e0 : putF f y fs = fs.set i (f, y) := putF_old nm f4 f3 hi2
            rw [e0]
            obtain ⟨vo, fo, q1, q2, _⟩ := tr.get hu
            have ms : (fs.set i (f, y)).map Prod.snd = (fs.map Prod.snd).set i y := by rw [List.map_set]
            have mf : (fs.set i (f, y)).map Prod.fst = (C.ly c).take (fs.set i (f, y)).length := by
              rw [List.map_set, nm, List.length_set]
              refine List.ext_getElem? fun j => ?_
              rw [List.getElem?_set]
              split
              · rename_i e
                subst e
                split
                · rw [List.getElem?_take_of_lt hi2, f3]
                · rename_i h
                  exfalso
                  rw [List.length_take] at h
                  have := (List.getElem?_eq_some_iff.mp f3).1
                  omega
              · rfl
            have idn : Idn H2 (upd H2 b (.ins (C.at_ c) dx (fs.set i (f, y)))) := idn_ins hb fun j q hq nq => by
              rw [ms]
              by_cases z : i = j
              · subst z
                rw [q1] at hq
                cases hq
                exact absurd nq ((leaf_ok hlf q2).2.2 _ r2.sub)
              · rw [List.getElem?_set_ne z]
                exact hq
            obtain ⟨fps3, r3, mem, hbF⟩ := r2.write (t' := .obj c (ts.set i t)) (fn := fp) ht z1 z2 (by intro d q; cases q) idn (fun fu hfu => by
              cases hfu with
              | @obj _ dx' fs' _ _ fq' hb' nm' tr' =>
                rw [hb] at hb'
                cases hb'
                refine ⟨List.mem_cons_self, fun nd dis => ?_⟩
                have nb := (List.nodup_cons.mp nd).1
                obtain ⟨fp', t1, t2⟩ := TRs.setT (TRs.stay (Ex.refl _) _ _ _ tr' fun q hq => upd_ne fun z => nb (by rw [← z]; exact hq)) hu hlf (TR.stay (H' := upd H2 b (.ins (C.at_ c) dx (fs.set i (f, y)))) (Ex.refl _) _ _ _ o2.tr fun q hq => upd_ne fun z => dis q hq (by rw [z]; exact List.mem_cons_self))
                refine ⟨b :: fp', .obj upd_same mf ?_, List.Perm.cons b t2⟩
                rw [ms]
                exact t1) o2.nd o2.ap o2.fr
            have nW : Nx fps2.flatten G2 H2 G2 (upd H2 b (.ins (C.at_ c) dx (fs.set i (f, y)))) fps2.flatten := Nx.write (fps' := fps2) hbF (by rw [hb]; exact fun q => nomatch q) idn (fp := []) (fun _ q => nomatch q)
            have n3 := (n1.trans n2).trans nW
            have n4 : Nx fps.flatten G H G2 (upd H2 b (.ins (C.at_ c) dx (fs.set i (f, y)))) fps3.flatten := ⟨n3.g, n3.keep, n3.dom, fun l hl => by
              rcases mem l hl with q | q
              · exact n3.new l q
              · exact new l q, n3.idn⟩
            exact fn.nx sl _ σ ρ fps3 G2 _ (s.step r3 n4 fun _ _ e => e) n4 (Pre.refl _) w2
        · exact w2.elim
      · exact w2.elim
    · exact w2.elim⟩⟩
theorem ws_setFT {F : Nat → Option Nat} {f : Str} (hF : FOk X.K C F f) {w : WO} {wx : WE} {pos' : Pos} (ha : PE X o (tE X.K C U wx)) (hv : PE X e (tO X.K C U w)) (hs : swapsWith e (some (.Attribute o f pos')) pos.line X.env = pure false) : PS X (.Assign [.Attribute o f pos'] e pos) (tS X.K C U (wSetFT F w wx)) :=
  ps_imp (ps_fld ha hv hs) (s_setFT hF)
end
end Wv
end

section
set_option Elab.async false
set_option linter.all false
set_option maxRecDepth 100000
set_option maxHeartbeats 4000000
namespace Wv
open PySem PySem.Spec PyProof.Rows L2 Evl
section
variable {K : PySem.W.Frag} {C : Cs} {U : UX} {G H G' H' G1 H1 G2 H2 : Hp} {sl sl' : Slots} {rt rt' : Roots} {σ : L2.St} {ρ ρ' ρ1 : List Addr} {fps fps' fps1 : List (List Addr)}
variable {X : Cx} {CX : CXT} {a b c e o : Expr} {es rest : List Expr} {wa wb wc : WE} {pos p apos cpos : Pos} {Z : WEnds} {E : L2.St → XK} {st : Stmt} {k : Nat} {f Ca : Addr} {fd : FuncData} {ps : List Str} {sp : Sp} {x m name : Str} {ta to : TE} {t : TA} {ds : List Value}
/-! ### o.f += e -/
def wAugF (F : Nat → Option Nat) (w : WE) (wx : WE) : WS := fun Z sl rt => wx ⟨sl, Z.ex⟩ rt fun x rt1 => match x with
  | .ref r p => match tat rt1 r p with
    | some (.obj c ts) => match F c with
      | some i => ∃ va, ts[i]? = some (.dat (.int va)) ∧ ts.length < 900 ∧ w ⟨sl, Z.ex⟩ rt1 fun y rt2 => rt2 = rt1 ∧ ∃ vb, y = .dat (.int vb) ∧ Z.nx sl (rt1.modify r (T.put (.obj c (ts.set i (.dat (.int (va + vb))))) p))
      | none => False
    | _ => False
  | _ => False
theorem s_augF {F : Nat → Option Nat} {f : Str} (hF : FOk K C F f) {w : WE} {wx : WE} : ∀ D σ H, tS K C U (wAugF F w wx) D σ H → sFldAug K (tE K C U wx) (tE K C U w) rAdd f D σ H := fun D σ H ⟨Z, sl, rt, ρ, fps, G, s, w, fn⟩ =>
  ⟨⟨sl, Z.ex⟩, rt, ρ, fps, G, _, s, fn.xf, w, fun x rt1 fps1 G1 H1 v r1 n1 v1 w1 => by
    split at w1
    · rename_i r p
      split at w1
      · rename_i c ts ht
        split at w1
        · rename_i i hi
          obtain ⟨va, hu, wl, w1⟩ := w1
          obtain ⟨f1, f2, f3, f4⟩ := hF _ _ hi
          obtain ⟨a0, fu0, y1, y2, y3, _⟩ := r1.get ht v1
          cases y3 with
          | @obj b dx0 fs0 _ _ fq0 hb0 nm0 tr0 =>
            obtain ⟨vo0, fo0, u1, u2, _⟩ := tr0.get hu
            have e0 : vo0 = .int va := by
              cases u2 with
              | dat h => cases h; rfl
            subst e0
            refine ⟨b, _, dx0, fs0, _, rfl, hb0, f1, f2, look_at nm0 f4 f3 u1, ⟨sl, Z.ex⟩, rt1, ρ, fps1, G1, _, s.step r1 n1 fun _ _ e => e, fn.xf.later n1 (Pre.refl _), w1, fun yv rt2 fps2 G2 H2 yy r2 n2 vy w2 => ?_⟩
            obtain ⟨e1, vb, rfl, w2⟩ := w2
            subst e1
            cases vy
            have v2 := v1.up n2 fun _ _ e => e
            obtain ⟨a, fu, z1, z2, z3, _⟩ := r2.get ht v2
            cases z3 with
            | @obj _ dx fs _ _ fq hb nm tr =>
              have hlen : fs.length = ts.length := by
                have := TRs.len tr
                simpa using this
              refine ⟨va, vb, rfl, rfl, dx, fs, hb, by omega, ?_⟩
              have hi2 : i < fs.length := by rw [hlen]; exact (List.getElem?_eq_some_iff.mp hu).1
              have e0 : putF f (.int (va + vb)) fs = fs.set i (f, .int (va + vb)) := putF_old nm f4 f3 hi2
              rw [e0]
              obtain ⟨vo, fo, q1, q2, _⟩ := tr.get hu
              have ms : (fs.set i (f, .int (va + vb))).map Prod.snd = (fs.map Prod.snd).set i (.int (va + vb)) := by rw [List.map_set]
              have mf : (fs.set i (f, .int (va + vb))).map Prod.fst = (C.ly c).take (fs.set i (f, .int (va + vb))).length := by
                rw [List.map_set, nm, List.length_set]
                refine List.ext_getElem? fun j => ?_
                rw [List.getElem?_set]
                split
                · rename_i e
                  subst e
                  split
                  · rw [List.getElem?_take_of_lt hi2, f3]
                  · rename_i h
                    exfalso
                    rw [List.length_take] at h
                    have := (List.getElem?_eq_some_iff.mp f3).1
                    omega
                · rfl
              have idn : Idn H2 (upd H2 b (.ins (C.at_ c) dx (fs.set i (f, .int (va + vb))))) := idn_ins hb fun j q hq nq => by
                rw [ms]
                by_cases z : i = j
                · subst z
                  rw [q1] at hq
                  cases hq
                  exact absurd nq ((leaf_ok (t := .dat (.int va)) rfl q2).2.2 _ r2.sub)
                · rw [List.getElem?_set_ne z]
                  exact hq
              obtain ⟨fps3, r3, mem, hbF⟩ := r2.write (t' := .obj c (ts.set i (.dat (.int (va + vb))))) (fn := []) ht z1 z2 (by intro d q; cases q) idn (fun fu hfu => by
                cases hfu with
                | @obj _ dx' fs' _ _ fq' hb' nm' tr' =>
                  rw [hb] at hb'
                  cases hb'
                  refine ⟨List.mem_cons_self, fun nd dis => ?_⟩
                  have nb := (List.nodup_cons.mp nd).1
                  refine ⟨b :: fq', .obj upd_same mf ?_, by rw [List.append_nil]⟩
                  rw [ms]
                  exact TRs.set (TRs.stay (Ex.refl _) _ _ _ tr' fun q hq => upd_ne fun z => nb (by rw [← z]; exact hq)) hu rfl (DR.int _)) List.nodup_nil (fun _ q => nomatch q) (fun _ q => nomatch q)
              have nW : Nx fps2.flatten G2 H2 G2 (upd H2 b (.ins (C.at_ c) dx (fs.set i (f, .int (va + vb))))) fps2.flatten := Nx.write (fps' := fps2) hbF (by rw [hb]; exact fun q => nomatch q) idn (fp := []) (fun _ q => nomatch q)
              have n3 := (n1.trans n2).trans nW
              have n4 : Nx fps.flatten G H G2 (upd H2 b (.ins (C.at_ c) dx (fs.set i (f, .int (va + vb))))) fps3.flatten := n3.less fun l hl => by
                rcases mem l hl with q | q
                · exact q
                · cases q
              exact fn.nx sl _ σ ρ fps3 G2 _ (s.step r3 n4 fun _ _ e => e) n4 (Pre.refl _) w2
        · exact w1.elim
      · exact w1.elim
    · exact w1.elim⟩
theorem ws_augF {F : Nat → Option Nat} {f : Str} (hF : FOk X.K C F f) {w : WE} {wx : WE} {tpos : Pos} (ha : PE X o (tE X.K C U wx)) (hv : PE X e (tE X.K C U w)) : PS X (.AugAssign (.Attribute o f tpos) .Add e pos) (tS X.K C U (wAugF F w wx)) :=
  ps_imp (ps_fldaug ha hv in_add) (s_augF hF)
/-! ### == of lists that are owned, too -/
def valPy (x : Val) (rt : Roots) : Option PyData := match x with
  | .dat d => d.py
  | .ref r p => match listOf (.ref r p) rt with
    | some ds => (D.pys ds).map .list
    | none => none
theorem RSt.valPy (s : RSt K C rt ρ fps G H) {x : Val} {v : V} {d : PyData} (h : valPy x rt = some d) (hv : VR K C G H ρ x v) : Dp K H v d := by
  unfold Wv.valPy at h
  split at h
  · exact DR.py s.sub _ _ _ hv h
  · split at h
    · rename_i ds e
      obtain ⟨q, hq, rfl⟩ := Option.map_eq_some_iff.mp h
      obtain ⟨a, xs, rfl, k1, k2⟩ := s.listOf e hv
      exact .lst k1 (DRs.py s.sub _ _ _ k2 hq)
    · cases h
def sEqV (neg : Bool) : Sem2 := fun x y rt k => ∃ px py, valPy x rt = some px ∧ valPy y rt = some py ∧ SeqAt.shaped px = true ∧ SeqAt.shaped py = true ∧ k (.bool (if neg then !PyData.eqv px py else PyData.eqv px py))
theorem s_eqV : S2 K C (sEqV false) (fun x y H Q => rEq x y H Q ∨ rEqD K x y H Q) := fun rt ρ fps G H x y v u s a b k Q w q => by
  obtain ⟨px, py, h1, h2, h3, h4, w⟩ := w
  exact .inr ⟨px, py, s.valPy h1 a, s.valPy h2 b, h3, h4, q _ _ w (.bool _)⟩
theorem s_neV : S2 K C (sEqV true) (fun x y H Q => rNe x y H Q ∨ rNeD K x y H Q) := fun rt ρ fps G H x y v u s a b k Q w q => by
  obtain ⟨px, py, h1, h2, h3, h4, w⟩ := w
  exact .inr ⟨px, py, s.valPy h1 a, s.valPy h2 b, h3, h4, q _ _ w (.bool _)⟩
/-! ### an item of a written dict -/
def KTab (K : PySem.W.Frag) (C : Cs) (w : World) (a : Addr) (tb : Str → Option D) : Prop := ∀ z d, tb z = some d → ∃ v, KDct K w a z v ∧ ∀ G, DR K C G v d
def wKD (tb : Str → Option D) (w : WE) : WE := fun sl rt k => w sl rt fun x rt1 => match x with
  | .dat (.str z) => ∃ d, tb z = some d ∧ k (.dat d) rt1
  | _ => False
theorem e_kd {wd : World} {a : Addr} {tb : Str → Option D} (hT : KTab K C wd a tb) {w : WE} : ∀ σ H Q, tE K C U (wKD tb w) σ H Q → tOp (rIxD K wd) (tC (.ref a)) (tE K C U w) σ H Q := fun σ H Q ⟨sl, rt, ρ, fps, G, k, s, xf, w, q⟩ =>
  ⟨sl, rt, ρ, fps, G, _, s, xf, w, fun x rt1 fps1 G1 H1 v r1 n1 v1 w1 => by
    split at w1
    · obtain ⟨d, hd, w1⟩ := w1
      cases v1
      obtain ⟨u, h1, h2⟩ := hT _ _ hd
      exact ⟨a, _, u, rfl, rfl, h1, q (.dat d) rt1 fps1 G1 H1 _ r1 n1 (h2 _) w1⟩
    · exact w1.elim⟩
theorem we_kd {a : Addr} {tb : Str → Option D} (hT : KTab X.K C X.w a tb) {w : WE} (h : PE X e (tOp (rIxD X.K X.w) (tC (.ref a)) (tE X.K C U w))) : PE X e (tE X.K C U (wKD tb w)) := pe_imp h (e_kd hT)
end
end Wv
end

section
set_option Elab.async false
set_option linter.all false
set_option maxRecDepth 100000
set_option maxHeartbeats 4000000
namespace Wv
open PySem PySem.Spec PyProof.Rows L2 Evl
section
variable {K : PySem.W.Frag} {C : Cs} {U : UX} {X : Cx} {st : Stmt}
/-! ### a, b, c = e, f, g -/
def wPar3 (i j l : Nat) (w : WA) : WS := fun Z sl rt => w ⟨sl, Z.ex⟩ rt fun xs rt1 => match xs with
  | [x, y, z] => Z.nx (((sl.set i (some x)).set j (some y)).set l (some z)) rt1
  | _ => False
theorem s_par3 {i j l : Nat} {w : WA} : ∀ D σ H, tS K C U (wPar3 i j l w) D σ H → tPar3 i j l (tA K C U w) D σ H := fun D σ H ⟨Z, sl, rt, ρ, fps, G, s, w, f⟩ =>
  ⟨⟨sl, Z.ex⟩, rt, ρ, fps, G, _, s, f.xf, w, fun xs rt1 fps1 G1 H1 vs r1 n1 v1 w1 => by
    split at w1
    · cases v1 with
      | cons a r =>
        cases r with
        | cons b r =>
          cases r with
          | cons c r =>
            cases r
            exact ⟨_, _, _, rfl, f.nx _ _ _ ρ fps1 G1 H1 ((((s.step r1 n1 fun _ _ e => e).set a).set b).set c) n1 (Pre.refl _) w1⟩
    · exact w1.elim⟩
theorem ws_par3 {i j l : Nat} {w : WA} (h : PS X st (tPar3 i j l (tA K C U w))) : PS X st (tS K C U (wPar3 i j l w)) := ps_imp h s_par3
end
end Wv
end

section
set_option linter.all false
set_option maxRecDepth 100000
namespace Wv
open PySem PySem.Spec PyProof.Rows L2 Evl
section
variable {K : PySem.W.Frag} {w : World}
/-! ### what the program's top has written: tuples, dicts -/
def vchk : List Value → List V → Bool
  | [], [] => true
  | .str x _ :: us, .str s :: ss => decide (x = s) && vchk us ss
  | .int x _ :: us, .int s :: ss => decide (x = s) && vchk us ss
  | .ref x :: us, .ref s :: ss => decide (x = s) && vchk us ss
  | .bool x :: us, .bl s :: ss => decide (x = s) && vchk us ss
  | .none :: us, .non :: ss => vchk us ss
  | _, _ => false
theorem vchk_ok : ∀ {us : List Value} {ss : List V}, vchk us ss = true → Vals ss us
  | [], [], _ => .nil
  | .str x t :: us, .str s :: ss, h => by
    have h' : (decide (x = s) && vchk us ss) = true := h
    rw [Bool.and_eq_true] at h'
    have e := of_decide_eq_true h'.1
    subst e
    exact .cons ⟨t, rfl⟩ (vchk_ok h'.2)
  | .int x t :: us, .int s :: ss, h => by
    have h' : (decide (x = s) && vchk us ss) = true := h
    rw [Bool.and_eq_true] at h'
    have e := of_decide_eq_true h'.1
    subst e
    exact .cons ⟨t, rfl⟩ (vchk_ok h'.2)
  | .ref x :: us, .ref s :: ss, h => by
    have h' : (decide (x = s) && vchk us ss) = true := h
    rw [Bool.and_eq_true] at h'
    have e := of_decide_eq_true h'.1
    subst e
    exact .cons rfl (vchk_ok h'.2)
  | .bool x :: us, .bl s :: ss, h => by
    have h' : (decide (x = s) && vchk us ss) = true := h
    rw [Bool.and_eq_true] at h'
    have e := of_decide_eq_true h'.1
    subst e
    exact .cons rfl (vchk_ok h'.2)
  | .none :: us, .non :: ss, h => .cons rfl (vchk_ok (show vchk us ss = true from h))
theorem dr_tup {a : Addr} {od : Option Addr} {its : Array Value} {n : Nat} {sl : Array (Option Value)} {vs : List V} {ds : List D} (l : K.lookup a = some ⟨.type "tuple", od, .seq its n, sl⟩) (h : vchk its.toList vs = true) (hz : vs.length ≤ 100000) (r : ∀ (C : Cs) (G : Hp), DRs K C G vs ds) : ∀ (C : Cs) (G : Hp), DR K C G (.ref a) (.tup ds) := fun C G => by
  have v := vchk_ok h
  refine .tup (.inr ⟨_, its, n, l, rfl, rfl, ?_, v⟩) (r C G)
  have e := v.length
  exact sz_of (by rw [← Array.length_toList, ← e]; exact hz)
def KRows (K : PySem.W.Frag) (C : Cs) (w : World) (a : Addr) (rows : List (Str × D)) : Prop := ∀ z d, (z, d) ∈ rows → ∃ v, KDct K w a z v ∧ ∀ G, DR K C G v d
theorem krow_nil {C : Cs} {a : Addr} : KRows K C w a [] := fun _ _ h => (nomatch h)
theorem krow_cons {C : Cs} {a : Addr} {z : Str} {d : D} {rows : List (Str × D)} {v : V} {u : Value} {es : Array DictEntry} {n : Nat} (l : K.lookup a = some ⟨.type "dict", none, .dict es n, #[]⟩) (k : PySem.W.KeysLit w.params es.toList) (e : PySem.W.nsIn K a z = some (some u)) (r : RelV v u) (hd : ∀ G, DR K C G v d)
    (t : KRows K C w a rows) : KRows K C w a ((z, d) :: rows) := fun z' d' h => by
  rcases List.mem_cons.mp h with h | h
  · cases h
    exact ⟨v, ⟨es, n, u, l, k, e, r⟩, hd⟩
  · exact t _ _ h
theorem lookup_mem {α β : Type} [BEq α] [LawfulBEq α] : ∀ {l : List (α × β)} {x : α} {y : β}, l.lookup x = some y → (x, y) ∈ l
  | (a, b) :: l, x, y, h => by
    rw [List.lookup_cons] at h
    split at h
    · rename_i e
      have e := eq_of_beq e
      subst e
      cases h
      exact List.mem_cons_self
    · exact List.mem_cons_of_mem _ (lookup_mem h)
theorem ktab {C : Cs} {a : Addr} {rows : List (Str × D)} (h : KRows K C w a rows) : KTab K C w a fun z => List.lookup z rows := fun z d e => h z d (lookup_mem e)
end
end Wv
end

section
set_option Elab.async false
set_option linter.all false
set_option maxRecDepth 100000
set_option maxHeartbeats 4000000
namespace Wv
open PySem PySem.Spec PyProof.Rows L2 Evl
section
variable {K : PySem.W.Frag} {C : Cs} {U : UX} {G H G' H' G1 H1 G2 H2 : Hp} {sl sl' : Slots} {rt rt' : Roots} {σ : L2.St} {ρ ρ' ρ1 : List Addr} {fps fps' fps1 : List (List Addr)}
variable {X : Cx} {CX : CXT} {a b c e o i value : Expr} {es rest : List Expr} {wa wb wc : WE} {pos p apos cpos pos' : Pos} {Z : WEnds} {E : L2.St → XK} {st : Stmt} {k : Nat} {f Ca : Addr} {fd : FuncData} {ps : List Str} {sp : Sp} {x m name : Str} {ta to : TE} {t : TA} {ds : List Value}
/-! ### dicts whose keys are ints and texts -/
def D.key : D → Option Key
  | .int i => some (.inl i)
  | .str s => some (.inr s)
  | _ => none
theorem key_ok {d : D} {v : V} {q : Key} (h : D.key d = some q) (r : DR K C G v d) : v = kV q := by
  unfold D.key at h
  split at h
  · cases h; cases r; rfl
  · cases h; cases r; rfl
  · cases h
def kat : List Key → Key → Option Nat
  | [], _ => none
  | a :: l, q => if a = q then some 0 else (kat l q).map (· + 1)
theorem kat_val {q : Key} : ∀ {kvs : List (Key × V)} {j : Nat} {v : V}, kat (kvs.map Prod.fst) q = some j → (kvs.map Prod.snd)[j]? = some v → valV kvs q = some v
  | [], _, _, h, _ => by cases h
  | (a, u) :: kvs, j, v, h, hv => by
    have h : (if a = q then some 0 else (kat (kvs.map Prod.fst) q).map (· + 1)) = some j := h
    by_cases e : a = q
    · rw [if_pos e] at h
      cases h
      rw [valV_pos e]
      exact hv
    · rw [if_neg e] at h
      obtain ⟨j', h1, rfl⟩ := Option.map_eq_some_iff.mp h
      rw [valV_neg e]
      exact kat_val h1 (by simpa using hv)
theorem kat_none {q : Key} : ∀ {kvs : List (Key × V)}, kat (kvs.map Prod.fst) q = none → valV kvs q = none
  | [], _ => valV_nil
  | (a, u) :: kvs, h => by
    have h : (if a = q then some 0 else (kat (kvs.map Prod.fst) q).map (· + 1)) = none := h
    by_cases e : a = q
    · rw [if_pos e] at h
      cases h
    · rw [if_neg e] at h
      rw [valV_neg e]
      exact kat_none (Option.map_eq_none_iff.mp h)
theorem kat_lt {q : Key} : ∀ {ks : List Key} {j : Nat}, kat ks q = some j → ks[j]? = some q
  | [], _, h => by cases h
  | a :: ks, j, h => by
    have h : (if a = q then some 0 else (kat ks q).map (· + 1)) = some j := h
    by_cases e : a = q
    · rw [if_pos e] at h
      cases h
      rw [e]
      rfl
    · rw [if_neg e] at h
      obtain ⟨j', h1, rfl⟩ := Option.map_eq_some_iff.mp h
      have := kat_lt h1
      simpa using this
/-- d[k] -/
def wKey (wa wb : WE) : WE := fun sl rt k => wa sl rt fun x rt1 => wb sl rt1 fun y rt2 => match y with
  | .dat d => match D.key d with
    | some q => match x with
      | .ref r p => match tat rt2 r p with
        | some (.dct ks ts) => ∃ j u, kat ks q = some j ∧ ts[j]? = some u ∧ (match u with | .dat d => k (.dat d) rt2 | _ => False)
        | _ => False
      | .dat (.dct ks ds) => ∃ j u, kat ks q = some j ∧ ds[j]? = some u ∧ k (.dat u) rt2
      | _ => False
    | none => False
  | _ => False
theorem e_key : ∀ σ H Q, tE K C U (wKey wa wb) σ H Q → tDGet (tE K C U wa) (tE K C U wb) σ H Q := fun σ H Q ⟨sl, rt, ρ, fps, G, k, s, xf, w, q⟩ =>
  ⟨sl, rt, ρ, fps, G, _, s, xf, w, fun x rt1 fps1 G1 H1 v r1 n1 v1 w1 => ⟨sl, rt1, ρ, fps1, G1, _, s.step r1 n1 fun _ _ e => e, xf.later n1 (Pre.refl _), w1, fun y rt2 fps2 G2 H2 u r2 n2 v2 w2 => by
    have v1 := v1.up n2 fun _ _ e => e
    split at w2
    · rename_i d
      split at w2
      · rename_i kq hq
        obtain rfl := key_ok hq v2
        split at w2
        · rename_i r p
          split at w2
          · rename_i ks ts ht
            obtain ⟨j, t, hj, hu, w2⟩ := w2
            obtain ⟨a, fu, k1, k2, k3, _⟩ := r2.get ht v1
            cases k3 with
            | dct h n tr =>
              subst n
              obtain ⟨z, fz, z1, z2, _⟩ := tr.get hu
              split at w2
              · exact ⟨_, z, rfl, by rw [← kat_val hj z1]; exact DGet.k h, q _ rt2 fps2 G2 H2 z r2 (n1.trans n2) (VR.ofD z2) w2⟩
              · exact w2.elim
          · exact w2.elim
        · rename_i ks ds
          obtain ⟨j, t, hj, hu, w2⟩ := w2
          cases v1 with
          | dct h n tr =>
            subst n
            obtain ⟨z, z1, z2⟩ := tr.get hu
            exact ⟨_, z, rfl, by rw [← kat_val hj z1]; exact DGet.k (r2.sub _ _ h), q (.dat _) rt2 fps2 G2 H2 z r2 (n1.trans n2) z2 w2⟩
        · exact w2.elim
      · exact w2.elim
    · exact w2.elim⟩⟩
theorem we_key (hu : X.A.units + 1 < cLine) (ha : PE X a (tE K C U wa)) (hb : PE X b (tE K C U wb)) (hs : NoSl b) : PE X (.Subscript a b pos) (tE K C U (wKey wa wb)) := pe_imp (pe_dget hu ha hb hs) e_key
theorem idn_dk {b : Addr} {fs fs' : List (Key × V)} (hb : H b = some (.dK fs)) (k : ∀ (i : Nat) x, (fs.map Prod.snd)[i]? = some x → False → (fs'.map Prod.snd)[i]? = some x) : Idn H (upd H b (.dK fs')) := by
  refine Idn.of (fun w hw => ?_)
  · obtain ⟨a, rfl, h⟩ := hw
    refine ⟨a, rfl, ?_⟩
    by_cases z : a = b
    · exact .inr (.inr ⟨fs', by rw [z, upd_same]⟩)
    · rw [upd_ne z]
      exact h
theorem putK_at {q : Key} {v : V} : ∀ {kvs : List (Key × V)} {j : Nat}, (kvs.map Prod.fst).Nodup → kat (kvs.map Prod.fst) q = some j → (kvs.map fun kv => if kv.1 = q then (kv.1, v) else kv) = kvs.set j (q, v)
  | [], _, _, h => by cases h
  | (a, u) :: kvs, j, nd, h => by
    have h : (if a = q then some 0 else (kat (kvs.map Prod.fst) q).map (· + 1)) = some j := h
    have nd : (a :: kvs.map Prod.fst).Nodup := nd
    rw [List.nodup_cons] at nd
    by_cases e : a = q
    · rw [if_pos e] at h
      cases h
      subst e
      show (if a = a then (a, v) else (a, u)) :: (kvs.map fun kv => if kv.1 = a then (kv.1, v) else kv) = (a, v) :: kvs
      rw [if_pos rfl]
      congr 1
      have : ∀ kv ∈ kvs, (if kv.1 = a then (kv.1, v) else kv) = kv := fun kv hkv => if_neg fun z => nd.1 (by rw [← z]; exact List.mem_map_of_mem (f := Prod.fst) hkv)
      rw [List.map_congr_left this, List.map_id']
    · rw [if_neg e] at h
      obtain ⟨j', h1, rfl⟩ := Option.map_eq_some_iff.mp h
      show (if a = q then (a, v) else (a, u)) :: (kvs.map fun kv => if kv.1 = q then (kv.1, v) else kv) = (a, u) :: kvs.set j' (q, v)
      rw [if_neg e, putK_at nd.2 h1]
theorem putK_old {q : Key} {v : V} {kvs : List (Key × V)} {j : Nat} (nd : (kvs.map Prod.fst).Nodup) (h : kat (kvs.map Prod.fst) q = some j) : putK kvs q v = kvs.set j (q, v) := by
  unfold putK
  have hj : (kvs.map Prod.snd)[j]? ≠ none := fun z => by
    have h1 := (List.getElem?_eq_some_iff.mp (kat_lt h)).1
    rw [List.getElem?_eq_none_iff] at z
    rw [List.length_map] at h1 z
    omega
  obtain ⟨u, hu⟩ := Option.ne_none_iff_exists'.mp hj
  rw [valV_any, kat_val h hu]
  exact putK_at nd h
/-- d[k] = e -/
def wKeySet (w : WO) (wx wk : WE) : WS := fun Z sl rt => w ⟨sl, Z.ex⟩ rt fun t rt1 => wx ⟨sl, Z.ex⟩ rt1 fun x rt2 => wk ⟨sl, Z.ex⟩ rt2 fun y rt3 => match x, y with
  | .ref r p, .dat d => match D.key d with
    | some q => match tat rt3 r p with
      | some (.dct ks ts) => ts.length < 900 ∧ ((∃ j u, kat ks q = some j ∧ ks.Nodup ∧ ts[j]? = some u ∧ leafT u = true ∧ Z.nx sl (rt3.modify r (T.put (.dct ks (ts.set j t)) p))) ∨
          (kat ks q = none ∧ Z.nx sl (rt3.modify r (T.put (.dct (ks ++ [q]) (ts ++ [t])) p))))
      | _ => False
    | none => False
  | _, _ => False
theorem s_keySet {w : WO} {wx wk : WE} : ∀ D σ H, tS K C U (wKeySet w wx wk) D σ H → sDPut (tE K C U wx) (tE K C U wk) (tO K C U w) D σ H := fun D σ H ⟨Z, sl, rt, ρ, fps, G, s, w, fn⟩ =>
  ⟨⟨sl, Z.ex⟩, rt, ρ, fps, G, _, s, fn.xf, w, fun t rt1 fps1 fp G1 H1 y r1 n1 o1 new w1 => ⟨⟨sl, Z.ex⟩, rt1, ρ, fps1, G1, _, s.step r1 n1 fun _ _ e => e, fn.xf.later n1 (Pre.refl _), w1, fun x rt2 fps2 G2 H2 v r2 n2 v2 w2 =>
    ⟨⟨sl, Z.ex⟩, rt2, ρ, fps2, G2, _, s.step r2 (n1.trans n2) fun _ _ e => e, fn.xf.later (n1.trans n2) (Pre.refl _), w2, fun x3 rt3 fps3 G3 H3 v3 r3 n3 v3' w3 => by
    split at w3
    · rename_i r p d
      split at w3
      · rename_i kq hq
        split at w3
        · rename_i ks ts ht
          obtain rfl := key_ok hq v3'
          obtain ⟨a, fu, z1, z2, z3, _⟩ := r3.get ht (v2.up n3 fun _ _ e => e)
          have o2 := (o1.past n2).past n3
          have n23 := n2.trans n3
          cases z3 with
          | @dct b kvs _ _ fq hb nm tr =>
            subst nm
            have hlen : kvs.length = ts.length := by
              have := TRs.len tr
              simpa using this
            obtain ⟨w0, w3⟩ := w3
            have hsz : kvs.length < sizeLine := by rw [sizeLine_eq]; omega
            refine ⟨b, _, rfl, DPut.k hb hsz, ?_⟩
            rcases w3 with ⟨j, u, hj, nd, hu, hlf, w3⟩ | ⟨hj, w3⟩
            · have hi2 : j < kvs.length := by rw [hlen]; exact (List.getElem?_eq_some_iff.mp hu).1
              rw [putK_old nd hj]
              obtain ⟨vo, fo, q1, q2, _⟩ := tr.get hu
              have ms : (kvs.set j (kq, y)).map Prod.snd = (kvs.map Prod.snd).set j y := by rw [List.map_set]
              have mf : (kvs.set j (kq, y)).map Prod.fst = kvs.map Prod.fst := by
                rw [List.map_set]
                refine List.ext_getElem? fun l => ?_
                rw [List.getElem?_set]
                split
                · rename_i e
                  subst e
                  rw [if_pos (by rw [List.length_map]; exact hi2), kat_lt hj]
                · rfl
              have idn : Idn H3 (upd H3 b (.dK (kvs.set j (kq, y)))) := idn_dk hb fun l q hq nq => by
                rw [ms]
                by_cases z : j = l
                · subst z
                  rw [q1] at hq
                  cases hq
                  exact absurd nq ((leaf_ok hlf q2).2.2 _ r3.sub)
                · rw [List.getElem?_set_ne z]
                  exact hq
              obtain ⟨fps4, r4, mem, hbF⟩ := r3.write (t' := .dct (kvs.map Prod.fst) (ts.set j t)) (fn := fp) ht z1 z2 (by intro d q; cases q) idn (fun fu hfu => by
                cases hfu with
                | @dct _ kvs' _ _ fq' hb' nm' tr' =>
                  rw [hb] at hb'
                  cases hb'
                  refine ⟨List.mem_cons_self, fun nd dis => ?_⟩
                  have nb := (List.nodup_cons.mp nd).1
                  obtain ⟨fp', t1, t2⟩ := TRs.setT (TRs.stay (Ex.refl _) _ _ _ tr' fun q hq => upd_ne fun z => nb (by rw [← z]; exact hq)) hu hlf (TR.stay (H' := upd H3 b (.dK (kvs.set j (kq, y)))) (Ex.refl _) _ _ _ o2.tr fun q hq => upd_ne fun z => dis q hq (by rw [z]; exact List.mem_cons_self))
                  refine ⟨b :: fp', .dct upd_same mf ?_, List.Perm.cons b t2⟩
                  rw [ms]
                  exact t1) o2.nd o2.ap o2.fr
              have nW : Nx fps3.flatten G3 H3 G3 (upd H3 b (.dK (kvs.set j (kq, y)))) fps3.flatten := Nx.write (fps' := fps3) hbF (by rw [hb]; exact fun q => nomatch q) idn (fp := []) (fun _ q => nomatch q)
              have n5 := (n1.trans n23).trans nW
              have n4 : Nx fps.flatten G H G3 (upd H3 b (.dK (kvs.set j (kq, y)))) fps4.flatten := ⟨n5.g, n5.keep, n5.dom, fun l hl => by
                rcases mem l hl with q | q
                · exact n5.new l q
                · exact new l q, n5.idn⟩
              exact fn.nx sl _ σ ρ fps4 G3 _ (s.step r4 n4 fun _ _ e => e) n4 (Pre.refl _) w3
            · rw [putK_new y (kat_none hj)]
              have idn : Idn H3 (upd H3 b (.dK (kvs ++ [(kq, y)]))) := idn_dk hb fun l q hq _ => by
                rw [List.map_append, List.getElem?_append_left (List.getElem?_eq_some_iff.mp hq).1]
                exact hq
              obtain ⟨fps4, r4, mem, hbF⟩ := r3.write (t' := .dct (kvs.map Prod.fst ++ [kq]) (ts ++ [t])) (fn := fp) ht z1 z2 (by intro d q; cases q) idn (fun fu hfu => by
                cases hfu with
                | @dct _ kvs' _ _ fq' hb' nm' tr' =>
                  rw [hb] at hb'
                  cases hb'
                  refine ⟨List.mem_cons_self, fun nd dis => ?_⟩
                  have nb := (List.nodup_cons.mp nd).1
                  refine ⟨b :: (fq' ++ (fp ++ [])), .dct upd_same ?_ ?_, ?_⟩
                  · rw [List.map_append]
                    rfl
                  · rw [List.map_append]
                    exact TRs.app (TRs.stay (Ex.refl _) _ _ _ tr' fun q hq => upd_ne fun z => nb (by rw [← z]; exact hq)) (.cons (TR.stay (Ex.refl _) _ _ _ o2.tr fun q hq => upd_ne fun z => dis q hq (by rw [z]; exact List.mem_cons_self)) .nil)
                  · rw [List.append_nil]
                    exact List.Perm.refl _) o2.nd o2.ap o2.fr
              have nW : Nx fps3.flatten G3 H3 G3 (upd H3 b (.dK (kvs ++ [(kq, y)]))) fps3.flatten := Nx.write (fps' := fps3) hbF (by rw [hb]; exact fun q => nomatch q) idn (fp := []) (fun _ q => nomatch q)
              have n5 := (n1.trans n23).trans nW
              have n4 : Nx fps.flatten G H G3 (upd H3 b (.dK (kvs ++ [(kq, y)]))) fps4.flatten := ⟨n5.g, n5.keep, n5.dom, fun l hl => by
                rcases mem l hl with q | q
                · exact n5.new l q
                · exact new l q, n5.idn⟩
              exact fn.nx sl _ σ ρ fps4 G3 _ (s.step r4 n4 fun _ _ e => e) n4 (Pre.refl _) w3
        · exact w3.elim
      · exact w3.elim
    · exact w3.elim⟩⟩⟩
theorem ws_keySet {w : WO} {wx wk : WE} (hu : X.A.units + 1 < cLine) (ho : PE X o (tE K C U wx)) (hi : PE X i (tE K C U wk)) (hv : PE X value (tO K C U w)) (hs : swapsWith value (some (.Subscript o i pos')) pos.line X.env = pure false) :
    PS X (.Assign [.Subscript o i pos'] value pos) (tS K C U (wKeySet w wx wk)) := ps_imp (ps_dput hu ho hi hv hs) s_keySet
/-! ### several new trees; the display of a dict -/
structure Owns (K : PySem.W.Frag) (C : Cs) (fps : List (List Addr)) (G H : Hp) (ts : List T) (vs : List V) (fp : List Addr) : Prop where
  tr : TRs K C G H vs ts fp
  nd : fp.Nodup
  ap : ∀ a ∈ fp, a ∉ fps.flatten
  fr : ∀ a ∈ fp, G a = none
def wOs : List WO → Cxt → Roots → (List T → Roots → Prop) → Prop
  | [], _, rt, k => k [] rt
  | w :: ws, sl, rt, k => w sl rt fun t rt1 => wOs ws sl rt1 fun ts rt2 => k (t :: ts) rt2
theorem TRs.inH {ts : List T} {vs : List V} {fp : List Addr} : TRs K C G H vs ts fp → ∀ a ∈ fp, H a ≠ none := by
  induction ts generalizing vs fp with
  | nil => intro h a ha; cases h; cases ha
  | cons t ts ih =>
    intro h a ha
    cases h with
    | cons h r =>
      rcases List.mem_append.mp ha with z | z
      · exact h.inH a z
      · exact ih r a z
theorem pairs_ok {sl : Cxt} : ∀ {l : List (Key × WO)} {rt : Roots} {fps : List (List Addr)} {G H : Hp} {k : List T → Roots → Prop} {Q : List (V × V) → Hp → Prop}, St K C sl.sl rt σ ρ fps G H → Xf K C U ρ fps G H sl.ex → wOs (l.map Prod.snd) sl rt k →
    (∀ ts rt' fps' fp G' H' vs, RSt K C rt' ρ fps' G' H' → Nx fps.flatten G H G' H' fps'.flatten → Owns K C fps' G' H' ts vs fp → (∀ a ∈ fp, a ∈ fps.flatten ∨ H a = none) → vs.length = l.length → k ts rt' → Q (((l.map Prod.fst).map kV).zip vs) H') →
    tPairs (l.map fun q => (tC (kV q.1), tO K C U q.2)) σ H Q
  | [], rt, fps, G, H, k, Q, s, xf, w, q => q [] rt fps [] G H [] s.toRSt (Nx.refl _ _ _) ⟨.nil, List.nodup_nil, fun _ z => (nomatch z), fun _ z => (nomatch z)⟩ (fun _ z => (nomatch z)) rfl w
  | (kk, wo) :: l, rt, fps, G, H, k, Q, s, xf, w, q => by
    show tO K C U wo σ H _
    refine ⟨sl, rt, ρ, fps, G, _, s, xf, w, fun t rt1 fps1 fp1 G1 H1 v r1 n1 o1 new1 w1 => ?_⟩
    refine pairs_ok (l := l) (s.step r1 n1 fun _ _ e => e) (xf.later n1 (Pre.refl _)) w1 fun ts rt2 fps2 fp2 G2 H2 vs r2 n2 o2 new2 hl w2 => ?_
    have o1' := o1.past n2
    have dis : ∀ a ∈ fp1, a ∉ fp2 := fun a h1 h2 => by
      rcases new2 a h2 with z | z
      · exact o1.ap a h1 z
      · exact o1.inH a h1 z
    refine q (t :: ts) rt2 fps2 (fp1 ++ fp2) G2 H2 (v :: vs) r2 (n1.trans n2) ⟨.cons o1'.tr o2.tr, ?_, ?_, ?_⟩ ?_ (by simp [hl]) w2
    · rw [List.nodup_append]
      exact ⟨o1'.nd, o2.nd, fun a h1 b h2 e => dis a h1 (by rw [e]; exact h2)⟩
    · intro a ha
      rcases List.mem_append.mp ha with z | z
      · exact o1'.ap a z
      · exact o2.ap a z
    · intro a ha
      rcases List.mem_append.mp ha with z | z
      · exact o1'.fr a z
      · exact o2.fr a z
    · intro a ha
      rcases List.mem_append.mp ha with z | z
      · exact new1 a z
      · rcases new2 a z with y | y
        · exact n1.new a y
        · exact .inr (n1.dom a y)
theorem merge_nd : ∀ (kvs acc : List (Key × V)), ((acc ++ kvs).map Prod.fst).Nodup → mergeK acc kvs = acc ++ kvs
  | [], acc, _ => by simp [mergeK]
  | (q, v) :: kvs, acc, nd => by
    have hn : valV acc q = none := by
      cases z : valV acc q with
      | none => rfl
      | some u =>
        exfalso
        have h1 := valV_any q acc
        rw [z] at h1
        have h1 : (acc.any fun kv => decide (kv.1 = q)) = true := h1
        obtain ⟨kv, h2, h3⟩ := List.any_eq_true.mp h1
        have h3 := of_decide_eq_true h3
        rw [List.map_append, List.nodup_append] at nd
        exact nd.2.2 kv.1 (List.mem_map_of_mem (f := Prod.fst) h2) q (by simp) h3
    show mergeK (putK acc q v) kvs = _
    rw [putK_new v hn, merge_nd kvs (acc ++ [(q, v)]) (by rw [List.append_assoc]; exact nd), List.append_assoc]
    rfl
/-- {'a': e, ..} -/
def wDisp (l : List (Key × WO)) : WO := fun sl rt k => (l.map Prod.fst).Nodup ∧ l.length ≤ 15 ∧ wOs (l.map Prod.snd) sl rt fun ts rt1 => k (.dct (l.map Prod.fst) ts) rt1
theorem zip_snd {α β : Type} : ∀ {as : List α} {bs : List β}, bs.length = as.length → (as.zip bs).map Prod.snd = bs
  | [], [], _ => rfl
  | a :: as, b :: bs, h => by
    show b :: (as.zip bs).map Prod.snd = _
    rw [zip_snd (by simpa using h)]
  | [], _ :: _, h => by cases h
  | _ :: _, [], h => by cases h
theorem zip_fst {α β : Type} : ∀ {as : List α} {bs : List β}, bs.length = as.length → (as.zip bs).map Prod.fst = as
  | [], [], _ => rfl
  | a :: as, b :: bs, h => by
    show a :: (as.zip bs).map Prod.fst = _
    rw [zip_fst (by simpa using h)]
  | [], _ :: _, h => by cases h
  | _ :: _, [], h => by cases h
theorem zip_kV : ∀ {as : List Key} {bs : List V}, (as.map kV).zip bs = (as.zip bs).map fun kv => (kV kv.1, kv.2)
  | [], _ => rfl
  | _ :: _, [] => rfl
  | a :: as, b :: bs => by
    show (kV a, b) :: (as.map kV).zip bs = (kV a, b) :: (as.zip bs).map fun kv => (kV kv.1, kv.2)
    rw [zip_kV]
theorem o_disp {l : List (Key × WO)} : ∀ σ H Q, tO K C U (wDisp l) σ H Q → tDisp (l.map fun q => (tC (kV q.1), tO K C U q.2)) σ H Q := fun σ H Q ⟨sl, rt, ρ, fps, G, k, s, xf, ⟨nd, h15, w⟩, q⟩ p hp => by
  have n0 : Nx fps.flatten G H G (upd H p (.dK [])) fps.flatten := Nx.grow hp
  have r0 : RSt K C rt ρ fps G (upd H p (.dK [])) := s.toRSt.grow (Ex.new hp)
  have pn : p ∉ fps.flatten := fun z => s.root.inH p z hp
  refine pairs_ok (s.step r0 n0 fun _ _ e => e) (xf.later n0 (Pre.refl _)) w fun ts rt' fps' fp G' H' vs r' n' o' new hl w' => ?_
  have hpk := n'.keep p (.dK []) upd_same pn
  have hp2 : H' p = some (.dK []) := hpk.1
  have hG0 : G p = none := by
    cases z : G p with
    | none => rfl
    | some o => have := s.sub p o z; rw [hp] at this; cases this
  have hG : G' p = none := hpk.2 hG0
  have pf : p ∉ fp := fun z => by
    rcases new p z with y | y
    · exact pn y
    · rw [upd_same] at y; cases y
  have pf' : p ∉ fps'.flatten := fun z => by
    rcases n'.new p z with y | y
    · exact pn y
    · rw [upd_same] at y; cases y
  refine ⟨hp2, (l.map Prod.fst).zip vs, zip_kV, by rw [List.length_zip, List.length_map]; exact Nat.le_trans (Nat.min_le_left _ _) h15, ?_⟩
  have e1 : ((l.map Prod.fst).zip vs).map Prod.fst = l.map Prod.fst := zip_fst (by rw [hl, List.length_map])
  have e2 : ((l.map Prod.fst).zip vs).map Prod.snd = vs := zip_snd (by rw [hl, List.length_map])
  rw [merge_nd _ [] (by rw [List.nil_append, e1]; exact nd), List.nil_append]
  have idn : Idn H' (upd H' p (.dK ((l.map Prod.fst).zip vs))) := idn_dk hp2 fun i x h _ => by simp at h
  refine q _ rt' fps' (p :: fp) G' _ (.ref p) ⟨fun a o e => ?_, Rts.stay (Ex.refl _) r'.root fun a ha => upd_ne fun z => pf' (by rw [← z]; exact ha), r'.nd, r'.fr⟩ ⟨n'.g, fun a o h na => ?_, fun a h => upd_none (n'.dom a (upd_none h)), fun a h => ?_, ((idn_new hp).trans n'.idn).trans idn⟩
    ⟨.dct upd_same e1 (by rw [e2]; exact TRs.stay (Ex.refl _) _ _ _ o'.tr fun a ha => upd_ne fun z => pf (by rw [← z]; exact ha)), List.nodup_cons.mpr ⟨pf, o'.nd⟩, fun a ha => ?_, fun a ha => ?_⟩ (fun a ha => ?_) w'
  · have z : a ≠ p := fun z => by rw [z, hG] at e; cases e
    rw [upd_ne z]
    exact r'.sub a o e
  · have z : a ≠ p := fun z => by rw [z, hp] at h; cases h
    obtain ⟨k1, k2⟩ := n'.keep a o (by rw [upd_ne z]; exact h) na
    exact ⟨by rw [upd_ne z]; exact k1, k2⟩
  · rcases n'.new a h with y | y
    · exact .inl y
    · exact .inr (upd_none y)
  · rcases List.mem_cons.mp ha with z | z
    · rw [z]; exact pf'
    · exact o'.ap a z
  · rcases List.mem_cons.mp ha with z | z
    · rw [z]; exact hG
    · exact o'.fr a z
  · rcases List.mem_cons.mp ha with z | z
    · rw [z]; exact .inr hp
    · rcases new a z with y | y
      · exact .inl y
      · exact .inr (upd_none y)
theorem wo_disp {keys : List (Option Expr)} {values : List Expr} {l : List (Key × WO)} (h : PPs X pos keys values (l.map fun q => (tC (kV q.1), tO K C U q.2))) (hall : keys.all (·.isSome) = true) (hl : keys.length = values.length) (h0 : keys ≠ []) (h15 : keys.length ≤ 15) :
    PE X (.Dict keys values pos) (tO K C U (wDisp l)) := pe_imp (pe_disp h hall hl h0 h15) o_disp
/-! ### what a name owns goes into something new -/
def wMv (wa : WE) : WO := fun sl rt k => wa sl rt fun x rt1 => match x with
  | .dat d => k (.dat d) rt1
  | .ref r [] => match rt1[r]? with
    | some t => k t (rt1.set r (.dat .any))
    | none => False
  | _ => False
theorem o_mv : ∀ σ H Q, tO K C U (wMv wa) σ H Q → tE K C U wa σ H Q := fun σ H Q ⟨sl, rt, ρ, fps, G, k, s, xf, w, q⟩ =>
  ⟨sl, rt, ρ, fps, G, _, s, xf, w, fun x rt1 fps1 G1 H1 v r1 n1 v1 w1 => by
    split at w1
    · exact q (.dat _) rt1 fps1 [] G1 H1 v r1 n1 (Own.dat v1) (fun _ z => nomatch z) w1
    · rename_i r
      split at w1
      · rename_i t ht
        obtain ⟨a, h1, h2, h3⟩ := v1
        obtain ⟨b, L, fu, R, z1, z2, z3, z4⟩ := r1.root.split ht
        rw [h1] at z1
        cases z1
        have e : v = .ref a := (Option.some.inj h2).symm
        obtain ⟨fps2, y1, y2⟩ := z4 G1 H1 (.dat .any) [] (Ex.refl _) (fun _ _ => rfl) (.dat (.any _))
        have nd := r1.nd
        rw [z3] at nd
        rw [List.nodup_append] at nd
        obtain ⟨n2, n3, n4⟩ := nd
        rw [List.nodup_append] at n3
        have e2 : fps2.flatten = L ++ R := by rw [y2]; simp
        have sub : ∀ c ∈ fps2.flatten, c ∈ fps1.flatten := fun c hc => by
          rw [e2] at hc
          rw [z3]
          rcases List.mem_append.mp hc with z | z <;> simp [z]
        refine q t _ fps2 fu G1 H1 v ⟨r1.sub, y1, ?_, fun c hc => r1.fr c (sub c hc)⟩ (n1.less sub) ⟨by rw [e]; exact z2, n3.1, fun c hc hc2 => ?_, fun c hc => r1.fr c (by rw [z3]; simp [hc])⟩ (fun c hc => n1.new c (by rw [z3]; simp [hc])) w1
        · rw [e2, List.nodup_append]
          exact ⟨n2, n3.2.1, fun c h1 d h2 => n4 c h1 d (List.mem_append_right _ h2)⟩
        · rw [e2] at hc2
          rcases List.mem_append.mp hc2 with z | z
          · exact n4 c z c (List.mem_append_left _ hc) rfl
          · exact n3.2.2 c hc c z rfl
      · exact w1.elim
    · exact w1.elim⟩
theorem wo_mv (h : PE X e (tE K C U wa)) : PE X e (tO K C U (wMv wa)) := pe_imp h o_mv
end
end Wv
end

section
set_option Elab.async false
set_option linter.all false
set_option maxRecDepth 100000
set_option maxHeartbeats 4000000
namespace Wv
open PySem PySem.Spec PyProof.Rows L2 Evl
section
variable {K : PySem.W.Frag} {C : Cs} {U : UX} {G H G' H' G1 H1 G2 H2 : Hp} {sl sl' : Slots} {rt rt' : Roots} {σ : L2.St} {ρ ρ' ρ1 : List Addr} {fps fps' fps1 : List (List Addr)}
variable {X : Cx} {CX : CXT} {a b c e o i value : Expr} {es rest : List Expr} {wa wb wc : WE} {pos p apos cpos pos' : Pos} {Z : WEnds} {E : L2.St → XK} {st : Stmt} {k : Nat} {f Ca : Addr} {fd : FuncData} {ps : List Str} {sp : Sp} {x m name : Str} {ta to : TE} {t : TA} {ds : List Value}
/-! ### errors of the program's own -/
theorem fol_ex (h : Ex H H') : ∀ (p : List Nat) (v w : V), fol H p v = some w → fol H' p v = some w
  | [], _, _, e => e
  | i :: p, v, w, e => by
    cases v with
    | ref a =>
      have e : (match H a with | some (.lst xs) => (xs[i]?).bind (fol H p) | some (.ins _ _ fs) => ((fs.map Prod.snd)[i]?).bind (fol H p) | some (.dK kvs) => ((kvs.map Prod.snd)[i]?).bind (fol H p) | _ => none) = some w := e
      show (match H' a with | some (.lst xs) => (xs[i]?).bind (fol H' p) | some (.ins _ _ fs) => ((fs.map Prod.snd)[i]?).bind (fol H' p) | some (.dK kvs) => ((kvs.map Prod.snd)[i]?).bind (fol H' p) | _ => none) = some w
      have go : ∀ o : Option V, o.bind (fol H p) = some w → o.bind (fol H' p) = some w := fun o z => by
        cases o with
        | none => cases z
        | some u => exact fol_ex h p u w z
      split at e
      · rename_i xs hb
        rw [h _ _ hb]
        exact go _ e
      · rename_i fs hb
        rw [h _ _ hb]
        exact go _ e
      · rename_i fs hb
        rw [h _ _ hb]
        exact go _ e
      · cases e
    | _ => cases e
theorem idn_ex (h : Ex H H') : Idn H H' := fun w n => by
  obtain ⟨a, rfl, n⟩ := n
  refine ⟨a, rfl, ?_⟩
  rcases n with ⟨xs, n⟩ | ⟨c, dx, fs, n⟩ | ⟨kvs, n⟩
  · exact .inl ⟨xs, h _ _ n⟩
  · exact .inr (.inl ⟨c, dx, fs, h _ _ n⟩)
  · exact .inr (.inr ⟨kvs, h _ _ n⟩)
theorem ex_none (h : Ex H H') {l : Addr} (e : H' l = none) : H l = none := by
  cases z : H l with
  | none => rfl
  | some o => rw [h l o z] at e; cases e
theorem Nx.ex (h : Ex H H') (fp : List Addr) : Nx fp G H G H' fp := ⟨Ex.refl G, fun l o e _ => ⟨h l o e, fun z => z⟩, fun l e => ex_none h e, fun _ z => .inl z, idn_ex h⟩
mutual
theorem TR.noxd : ∀ (t : T) (v : V) (fp : List Addr), TR K C G H v t fp → ∀ a ∈ fp, ∀ fs, H a ≠ some (.xd fs)
  | .dat d, _, _, h, a, ha, fs => by cases h; cases ha
  | .lst ts, _, _, h, a, ha, fs => by
    cases h with
    | lst h r =>
      rcases List.mem_cons.mp ha with z | z
      · rw [z, h]; exact fun q => nomatch q
      · exact TRs.noxd ts _ _ r a z fs
  | .obj c ts, _, _, h, a, ha, fs => by
    cases h with
    | obj h n r =>
      rcases List.mem_cons.mp ha with z | z
      · rw [z, h]; exact fun q => nomatch q
      · exact TRs.noxd ts _ _ r a z fs
  | .dct c ts, _, _, h, a, ha, fs => by
    cases h with
    | dct h n r =>
      rcases List.mem_cons.mp ha with z | z
      · rw [z, h]; exact fun q => nomatch q
      · exact TRs.noxd ts _ _ r a z fs
  | .nm _ t, _, _, h, a, ha, fs => by
    cases h with
    | nm h => exact TR.noxd t _ _ h a ha fs
theorem TRs.noxd : ∀ (ts : List T) (vs : List V) (fp : List Addr), TRs K C G H vs ts fp → ∀ a ∈ fp, ∀ fs, H a ≠ some (.xd fs)
  | [], _, _, h, a, ha, fs => by cases h; cases ha
  | t :: ts, _, _, h, a, ha, fs => by
    cases h with
    | cons h r =>
      rcases List.mem_append.mp ha with z | z
      · exact TR.noxd t _ _ h a z fs
      · exact TRs.noxd ts _ _ r a z fs
end
theorem Rts.noxd : ∀ {rt : Roots} {ρ : List Addr} {fps : List (List Addr)}, Rts K C G H rt ρ fps → ∀ a ∈ fps.flatten, ∀ fs, H a ≠ some (.xd fs)
  | _, _, _, .nil, a, ha, fs => by simp at ha
  | _, _, _, .cons h r, a, ha, fs => by
    rw [List.flatten_cons] at ha
    rcases List.mem_append.mp ha with z | z
    · exact TR.noxd _ _ _ h a z fs
    · exact Rts.noxd r a z fs
theorem DRs.rev : ∀ {vs : List V} {ds : List D}, DRs K C G vs ds → DRs K C G vs.reverse ds.reverse
  | _, _, .nil => .nil
  | _, _, .cons h r => by
    rw [List.reverse_cons, List.reverse_cons]
    exact DRs.app (DRs.rev r) (.cons h .nil)
/-- the __init__ of an error's class: its arguments are its fields -/
def spX (C : Addr) (fs : List Str) : Sp := fun vs H Q _ => ∃ (a : Addr) (xs : List V), vs = .ref a :: xs ∧ xs.length = fs.length ∧ H a = some (exo a C none) ∧
  ∀ (dx : Addr) (H' : Hp), H dx = none → dx ≠ a → H' a = some (exo a C (some dx)) → H' dx = some (exd dx (fs.zip xs).reverse) → (∀ b o, b ≠ a → H b = some o → H' b = some o) → Q .non H'
theorem pmk_mine {X : Cx} {p pos : Pos} {e : Expr} {es : List Expr} {ta : TA} {cls : Str} {C fI : Addr} {k : Nat} {fd : FuncData} {ps : List Str} {sp : Sp}
    (T : OexC X.K C)
    (iC : PySem.W.findIn X.K (.ref C) "__init__" = some (some (.ref fI)))
    (tI : PySem.W.typeIn X.K (.ref fI) = some (.type "function"))
    (F1 : FnOk X.prog X.w X.K X.mg X.base CX0 k fI fd ps sp)
    (room : Room (k + 1) X.A) (hb : Binds X.K fd ps [])
    (hg : Gl X cls) (hm : X.mg cls = some (.ref C)) (ha : PA X (e :: es) ta)
    (q1 : (cls == ("__debug__" : Str)) = false := by decide)
    (q2 : starEach (e :: es) X.env = (false, eval e X.env) :: starEach es X.env := by rfl)
    (q3 : (backTo pos (starEach es X.env)).any (·.1) = false := by rfl) :
    L2N.PMk X (.Call (.Name cls p) (e :: es) [] pos) (tMkO C sp [] ta) := by
  intro pins st σ H Q inv want
  obtain ⟨_, _, _, _, mro, _, _, _, _, _, _, _, _, _, _, atC, vb⟩ := T.cls
  refine wpAny_Call_Name_kw (ld_glob inv hg hm ?_ q1)
  refine PySem.W.callWith_K (h₀ := X.base) inv.ok.mod.kin T.kC (thn (ha.run pos pins st σ H _ inv want) fun us st1 found => ?_) q2 q3
  obtain ⟨vs, Hv, inv1, rel, few, next⟩ := found
  refine ⟨inv1.kIn, ?_⟩
  show wpAny _ _ (call (.ref C) us) _ _ _
  obtain ⟨hp, gens, drawn, tok, os⟩ := st1
  have above : hp.objs.size ≤ hp.objs.size + 1 := Nat.le_succ _
  have free : Hv (hp.objs.size + 1) = none := inv1.hok.fresh above
  have promise := next (hp.objs.size + 1) free
  -- the heap with the arguments' tuple and the bare error
  generalize made : (hp.push (PySem.W.kdv_tup us)).push (PySem.HandSPX.excO C hp.objs.size) = hp2
  have stays : ∀ b o, hp.get? b = some o → hp2.get? b = some o := fun b o z => by
    rw [← made]
    exact Heap.get?_push_of_some _ (Heap.get?_push_of_some _ z)
  have bare : hp2.get? (hp.objs.size + 1) = some (PySem.HandSPX.excO C hp.objs.size) := by
    rw [← made]
    heap_get
  have inv2 : Inv X pins σ (upd Hv (hp.objs.size + 1) (exo (hp.objs.size + 1) C none)) ⟨hp2, gens, drawn, tok, os⟩ :=
    inv1.laid (t' := tok) (a := hp.objs.size + 1) (h' := hp2) stays above (exo_ok bare)
  have rel2 : Vals (V.ref (hp.objs.size + 1) :: (vs ++ [])) (Value.ref (hp.objs.size + 1) :: us ++ []) := .cons rfl (rel.append .nil)
  have nargs : (Value.ref (hp.objs.size + 1) :: us ++ []).length = ps.length := by
    have z := rel2.length
    rw [F1.len _ _ _ _ promise] at z
    exact z.symm
  have fits : us.length ≤ sizeLine := by
    have z := Paired.length rel
    rw [sizeLine_eq]
    omega
  subst made
  refine wpAny_call (PySem.HandSPX.call_own F.excBase_ValueError (fun Y => PySem.HandSPX.refsVE_contains Y mro vb) (inv1.kIn _ _ atC) (PySem.W.looks_findIn inv1.kIn iC) (fun self => PySem.W.bind_fn inv1.kIn self tI) fits ?_)
  refine codeAny_mono (F1.run _ X.stack _ _ ⟨Value.ref (hp.objs.size + 1) :: us, []⟩ (Value.ref (hp.objs.size + 1) :: us ++ []) _ _ (fun _ _ _ => False) (room.make C us []) (inv2.env0.make C us []) (hb _ (Value.ref (hp.objs.size + 1) :: us) inv2.kIn nargs) rel2 promise) fun r st2 got => ?_
  cases r with
  | error er => exact (show False from got).elim
  | ok fl =>
    cases fl with
    | next => exact (show False from got).elim
    | brk => exact (show False from got).elim
    | cont => exact (show False from got).elim
    | ret u =>
      obtain ⟨v, Hx, sameOs, bares, un, holds, rv, isNone, d, fs, atE, atD, newD, fin⟩ := got
      subst isNone
      obtain ⟨hx, gx, dx, tx, ox⟩ := st2
      obtain ⟨t0, G, J, kG, gone, its, nil⟩ := mk_end0 (d2 := dx) (t2 := tx) inv1 above stays un holds sameOs bares atE atD newD
      refine ⟨rv, hp.objs.size + 1, _, _, ⟨G, gx, dx, tx, ox⟩, _, .ref C, some d, rfl, J, kG, gone, its, ⟨rfl, rfl, fun ws hw => ?_⟩, rfl, rfl, nil, rfl, bares, raises_own T.exC T.tyC, fin⟩
      cases hw
      rfl
/-- raise C(..) -/
def wRaise (c n : Nat) (w : WA) : WS := fun Z sl rt => w ⟨sl, Z.ex⟩ rt fun xs rt1 => match datsV xs with
  | some ds => ds.length = n ∧ Z.ex ⟨c, ds.reverse⟩ sl rt1
  | none => False
theorem datsV_len : ∀ {xs : List Val} {ds : List D}, datsV xs = some ds → ds.length = xs.length
  | [], _, h => by cases h; rfl
  | .dat d :: xs, ds, h => by
    obtain ⟨es, h1, rfl⟩ := Option.map_eq_some_iff.mp (show (datsV xs).map (d :: ·) = some ds from h)
    rw [List.length_cons, List.length_cons, datsV_len h1]
  | .ref _ _ :: _, _, h => by cases h
theorem rev_map_fst {α β : Type} {as : List α} {bs : List β} (h : bs.length = as.length) : ((as.zip bs).reverse).map Prod.fst = as.reverse := by
  rw [List.map_reverse, zip_fst h]
theorem rev_map_snd {α β : Type} {as : List α} {bs : List β} (h : bs.length = as.length) : ((as.zip bs).reverse).map Prod.snd = bs.reverse := by
  rw [List.map_reverse, zip_snd h]
theorem s_raise {c : Nat} {fs : List Str} {w : WA} (hl : C.ly c = fs.reverse) (hn : fs.length ≤ 100) : ∀ (D : Ends) σ H, tS K C U (wRaise c fs.length w) D σ H → tMkO (C.at_ c) (spX (C.at_ c) fs) [] (tA K C U w) σ H fun cls d H' => U cls d σ H' := fun D σ H ⟨Z, sl, rt, ρ, fps, G, s, w, fn⟩ =>
  ⟨⟨sl, Z.ex⟩, rt, ρ, fps, G, _, s, fn.xf, w, fun xs rt1 fps1 G1 H1 vs r1 n1 v1 w1 => by
    split at w1
    · rename_i ds hd
      obtain ⟨h100, w1⟩ := w1
      have hx : xs.length = fs.length := (datsV_len hd).symm.trans h100
      have hv := VRs.len v1
      have dr := VRs.dats v1 hd
      have hd2 := DRs.len dr
      refine ⟨by omega, fun a ha => ⟨a, vs, by rw [List.append_nil], by rw [hv, hx], upd_same, fun dx H2 h1 hne h2 h3 h4 => ⟨rfl, dx, _, h2, h3, upd_none h1, ?_⟩⟩⟩
      have ex2 : Ex H1 (upd (del H2 a) dx (.xd (fs.zip vs).reverse)) := fun b o e => by
        have z1 : b ≠ a := fun z => by rw [z, ha] at e; cases e
        have z2 : b ≠ dx := fun z => by rw [z, upd_none h1] at e; cases e
        rw [upd_ne z2, del_ne z1]
        exact h4 b o z1 (by rw [upd_ne z1]; exact e)
      have hvl : vs.length = fs.length := by rw [hv, hx]
      refine fn.xf ⟨c, ds.reverse⟩ sl rt1 σ ρ fps1 G1 _ _ _ (s.step (r1.grow ex2) (n1.trans (Nx.ex ex2 _)) fun _ _ e => e) (n1.trans (Nx.ex ex2 _)) (Pre.refl _) ⟨rfl, dx, _, rfl, n1.dom _ (upd_none h1), upd_same, ?_, ?_⟩ w1
      · rw [rev_map_fst hvl, hl, List.length_reverse, List.length_zip, hvl, Nat.min_self, ← List.length_reverse, List.take_length]
      · rw [rev_map_snd hvl]
        exact dr.rev
    · exact w1.elim⟩
theorem ws_raise {c : Nat} {fs : List Str} {w : WA} {fI : Addr} {cls : Str} (hl : C.ly c = fs.reverse) (hn : fs.length ≤ 100) (hc : X.calm = true) (tk : L2N.Takes X U)
    (T : OexC X.K (C.at_ c)) (iC : PySem.W.findIn X.K (.ref (C.at_ c)) "__init__" = some (some (.ref fI))) (tI : PySem.W.typeIn X.K (.ref fI) = some (.type "function")) (F1 : FnOk X.prog X.w X.K X.mg X.base CX0 k fI fd ps (spX (C.at_ c) fs))
    (room : Room (k + 1) X.A) (hb : Binds X.K fd ps []) (hg : Gl X cls) (hm : X.mg cls = some (.ref (C.at_ c))) (ha : PA X (e :: es) (tA K C U w)) (q1 : (cls == ("__debug__" : Str)) = false := by decide)
    (q2 : starEach (e :: es) X.env = (false, eval e X.env) :: starEach es X.env := by rfl) (q3 : (backTo pos' (starEach es X.env)).any (·.1) = false := by rfl) :
    PS X (.Raise (some (.Call (.Name cls p) (e :: es) [] pos')) none pos) (tS K C U (wRaise c fs.length w)) := ps_imp (L2N.ps_raise hc tk (pmk_mine T iC tI F1 room hb hg hm ha q1 q2 q3)) (s_raise hl hn)
/-! ### try, except C as x -/
theorem St.unset (s : St K C sl rt σ ρ fps G H) (i : Nat) : St K C (sl.set i none) rt (σ.set i none) ρ fps G H where
  toRSt := s.toRSt
  len := by rw [List.length_set, List.length_set]; exact s.len
  slot := fun j x h => by
    rw [List.getElem?_set] at h
    split at h
    · split at h <;> cases h
    · rename_i z
      obtain ⟨v, h1, h2⟩ := s.slot j x h
      exact ⟨v, by rw [List.getElem?_set_ne z]; exact h1, h2⟩
/-- the error's dict becomes data -/
theorem St.xd {dd : Addr} {fs : List (Str × V)} (s : St K C sl rt σ ρ fps G H) (h : H dd = some (.xd fs)) : ∃ G', Ex G G' ∧ G' dd = some (.xd fs) ∧ St K C sl rt σ ρ fps G' H ∧ ∀ l, G l = none → l ≠ dd → G' l = none := by
  have hex : Ex G (upd G dd (.xd fs)) := fun l o e => by
    by_cases z : l = dd
    · subst z
      have := s.sub l o e
      rw [h] at this
      cases this
      exact upd_same
    · rw [upd_ne z]; exact e
  have hsub : Ex (upd G dd (.xd fs)) H := fun l o e => by
    by_cases z : l = dd
    · subst z
      rw [upd_same] at e
      cases e
      exact h
    · rw [upd_ne z] at e
      exact s.sub l o e
  refine ⟨_, hex, upd_same, { sub := hsub, root := Rts.stay hex s.root fun _ _ => rfl, nd := s.nd, fr := fun l hl => ?_, len := s.len, slot := fun i x hx => ?_ }, fun l hl hn => by rw [upd_ne hn]; exact hl⟩
  · have z : l ≠ dd := fun z => Rts.noxd s.root l hl fs (by rw [z]; exact h)
    rw [upd_ne z]
    exact s.fr l hl
  · obtain ⟨v, h1, h2⟩ := s.slot i x hx
    refine ⟨v, h1, ?_⟩
    cases x with
    | dat d => exact DR.up hex d v h2
    | ref r p => exact h2
/-- err.f in the suite -/
def wXf (a dd c i : Nat) (j : Nat) : WE := fun sl rt k => ∃ ds d, sl.sl[i]? = some (some (.dat (.exn a dd c ds))) ∧ ds[j]? = some d ∧ k (.dat d) rt
theorem e_xf {a dd c i j : Nat} {fn : Str} (hl : (C.ly c)[j]? = some fn) (nd : (C.ly c).Nodup) : ∀ σ H Q, tE K C U (wXf a dd c i j) σ H Q → tXf a (.ref (C.at_ c)) (some dd) (C.at_ c) fn (tVar i) σ H Q := fun σ H Q ⟨sl, rt, ρ, fps, G, k, s, xf, ⟨ds, d, h1, h2, w⟩, q⟩ => by
  obtain ⟨v, hv, hr⟩ := s.slot i _ h1
  have hr : DR K C G v (.exn a dd c ds) := hr
  cases hr with
  | exn hG hn r =>
    obtain ⟨z, z1, z2⟩ := r.get h2
    exact ⟨.ref a, hv, rfl, rfl, dd, _, z, rfl, s.sub _ _ hG, look_at hn nd hl z1, q (.dat d) rt fps G H z s.toRSt (Nx.refl _ _ _) z2 w⟩
theorem we_xf {a dd c i j : Nat} {fn : Str} {oe : Obj} {pn : List (Addr × Obj)} (hl : (C.ly c)[j]? = some fn) (nd : (C.ly c).Nodup) (T : XfC X.K (C.at_ c)) (hno : PySem.W.findIn X.K (.ref (C.at_ c)) fn = some none)
    (hz : L2N.Zn (.ref (C.at_ c)) (some dd) oe) (hf : ∃ vs, oe.data = .fields vs) (he : PE (X.suite a ((a, oe) :: pn)) e (tVar i)) (hb : attributeBase e fn X.env (eval e X.env) = eval e X.env := by rfl) :
    PE (X.suite a ((a, oe) :: pn)) (.Attribute e fn pos) (tE X.K C U (wXf a dd c i j)) := pe_imp (pe_xf T hno hz.zc hf he hb) (e_xf hl nd)
/-! ### defs called within an except suite -/
theorem hotS {X : Cx} {a : Addr} {cls : Value} {d : Option Addr} {oe : Obj} {pn : List (Addr × Obj)} (hz : L2N.Zn cls d oe) (hf : ∃ vs, oe.data = .fields vs) : L2H.HotC (X.suite a ((a, oe) :: pn)) := by
  obtain ⟨vs, hv⟩ := hf
  exact ⟨(a, oe), ⟨rfl, vs, hv, hz.2.2 vs hv⟩, List.mem_cons_self⟩
theorem passZ {X : Cx} {E : L2.St → XK} : ∀ σ, PassesAt CX0 X σ (E σ) := fun σ pins H s e s' I c => c.elim
abbrev sp0 (K : PySem.W.Frag) (C : Cs) (cw : CW) : Sp := fun vs H Q _ => spW K C cw vs H Q fun _ _ _ => False
theorem ok_WH {P : Program} {w : World} {mg : Str → Option Value} {base : Heap} {x qual : Str} {st : Stmt} {f : Addr} {fd : FuncData} {N ps : List Str} {k n : Nat} {body : WS}
    (F : Fun K x qual st f fd) (S : FnScope N ps (defScope st)) (hn : N.length = ps.length + n)
    (der : ∀ (cdv : Value) (A : Around) (outer : List Env) (s : Shared) (H : Hp) (E : XK) (p : Addr × Obj), L2H.HotC (L2H.cxH CX0 P w K mg base N qual (defScope st) f cdv A outer s H E p).nox → L2H.RoomH k (A.deeper (envOfC qual (defScope st) s.heap.objs.size f cdv)) →
      PSs (L2H.cxH CX0 P w K mg base N qual (defScope st) f cdv A outer s H E p).nox (defBody st) (tS K C (fun _ _ _ _ => False) body)) :
    L2H.FnH P w K mg base CX0 (k + 1) f fd ps (sp0 K C (cwOf ps.length n body)) := by
  obtain ⟨oc, od, kV, doc, pm, an, cdv, ct, osl, rfl, lk, hcd⟩ := F.ex
  exact L2H.fn_ofH lk hcd S (fun vs H Q E h => spW_len h) fun A outer s H vs Q E p hot hr h => ⟨_, (der cdv A outer s H E p ⟨p, hot, List.mem_cons_self⟩ hr).nox, w_enter hn h⟩
/-- f(..), nothing raised -/
def wCall0 (cw : CW) (w : WA) : WO := fun sl rt k => w sl rt fun xs rt1 => dst (plc xs) = true ∧ match getR rt1 (plc xs) with
  | some ts => cw (ren xs) ts (fun t ts' => k t (putR rt1 (plc xs) ts')) fun _ _ => False
  | none => False
theorem o_callH {cw : CW} {w : WA} {E : L2.St → XK} : ∀ σ H Q, tO K C U (wCall0 cw w) σ H Q → tCallS (sp0 K C cw) E (tA K C U w) σ H Q := fun σ H Q ⟨sl, rt, ρ, fps, G, k, s, xf, w, q⟩ =>
  ⟨sl, rt, ρ, fps, G, _, s, xf, w, fun xs rt1 fps1 G1 H1 vs r1 n1 v1 ⟨hd, w1⟩ => by
    split at w1
    · rename_i ts ht
      exact sp_use (kx := fun _ _ => False) r1 v1 hd ht w1 (fun t rt' fps' fp G' H' v r' n' o' new hk => q t rt' fps' fp G' H' v r' (n1.trans n') o' (fun a ha => (new a ha).elim (fun y => n1.new a y) fun y => .inr (n1.dom a y)) hk)
        fun x rt' fps' G' H' cls d r' n' xr hk => hk.elim
    · exact w1.elim⟩
theorem wo_callH {cw : CW} {w : WA} {E : L2.St → XK} (h : PE X e (tCallS (sp0 K C cw) E (tA K C U w))) : PE X e (tO K C U (wCall0 cw w)) := pe_imp h o_callH
def wMeth0 (c : Nat) (cw : CW) (wo : WE) (w : WA) : WO := fun sl rt k => wo sl rt fun x rt1 => isObj c x rt1 ∧ w sl rt1 fun xs rt2 => dst (plc (x :: xs)) = true ∧ match getR rt2 (plc (x :: xs)) with
  | some ts => cw (ren (x :: xs)) ts (fun t ts' => k t (putR rt2 (plc (x :: xs)) ts')) fun _ _ => False
  | none => False
theorem o_methH {c : Nat} {cw : CW} {wo : WE} {w : WA} {m : Str} {E : L2.St → XK} (hm : m ∉ C.ly c) : ∀ σ H Q, tO K C U (wMeth0 c cw wo w) σ H Q → L2H.tMethH (C.at_ c) m (sp0 K C cw) E (tE K C U wo) (tA K C U w) σ H Q := fun σ H Q ⟨sl, rt, ρ, fps, G, k, s, xf, w, q⟩ =>
  ⟨sl, rt, ρ, fps, G, _, s, xf, w, fun x rt1 fps1 G1 H1 v r1 n1 v1 ⟨hx, w1⟩ => by
    obtain ⟨a, dx, fs, rfl, h, n⟩ := r1.isObj v1 hx
    refine ⟨a, dx, fs, rfl, h, look_no fun z => hm (List.mem_of_mem_take (by rw [← n]; exact z)), sl, rt1, ρ, fps1, G1, _, s.step r1 n1 fun _ _ e => e, xf.later n1 (Pre.refl _), w1, fun xs rt2 fps2 G2 H2 vs r2 n2 v2 ⟨hd, w2⟩ => ?_⟩
    split at w2
    · rename_i ts ht
      have n3 := n1.trans n2
      exact sp_use (kx := fun _ _ => False) r2 (.cons (v1.up n2 fun _ _ e => e) v2) hd ht w2 (fun t rt' fps' fp G' H' v r' n' o' new hk => q t rt' fps' fp G' H' v r' (n3.trans n') o' (fun a ha => (new a ha).elim (fun y => n3.new a y) fun y => .inr (n3.dom a y)) hk)
        fun y rt' fps' G' H' cls d r' n' xr hk => hk.elim
    · exact w2.elim⟩
theorem wo_methH {c : Nat} {cw : CW} {wo : WE} {w : WA} {m : Str} {E : L2.St → XK} (hm : m ∉ C.ly c) (h : PE X e (L2H.tMethH (C.at_ c) m (sp0 K C cw) E (tE K C U wo) (tA K C U w))) : PE X e (tO K C U (wMeth0 c cw wo w)) := pe_imp h (o_methH hm)
theorem noPassN {P : Program} {w : World} : ∀ σ : L2.St, PassesAt (L2N.CX P w) X σ (fun _ _ _ => False) := fun σ pins H s e s' I c => by
  obtain ⟨_, _, _, _, _, _, _, _, _, _, _, _, z⟩ := c
  exact z.elim
/-- the same where nothing is handled -/
theorem o_callN {cw : CW} {w : WA} {E : L2.St → XK} : ∀ σ H Q, tO K C U (wCall0 cw w) σ H Q → tCallS (spW K C cw) E (tA K C U w) σ H Q := fun σ H Q ⟨sl, rt, ρ, fps, G, k, s, xf, w, q⟩ =>
  ⟨sl, rt, ρ, fps, G, _, s, xf, w, fun xs rt1 fps1 G1 H1 vs r1 n1 v1 ⟨hd, w1⟩ => by
    split at w1
    · rename_i ts ht
      exact sp_use (kx := fun _ _ => False) r1 v1 hd ht w1 (fun t rt' fps' fp G' H' v r' n' o' new hk => q t rt' fps' fp G' H' v r' (n1.trans n') o' (fun a ha => (new a ha).elim (fun y => n1.new a y) fun y => .inr (n1.dom a y)) hk)
        fun x rt' fps' G' H' cls d r' n' xr hk => hk.elim
    · exact w1.elim⟩
theorem wo_callN {cw : CW} {w : WA} {E : L2.St → XK} (h : PE X e (tCallS (spW K C cw) E (tA K C U w))) : PE X e (tO K C U (wCall0 cw w)) := pe_imp h o_callN
theorem o_methN {c : Nat} {cw : CW} {wo : WE} {w : WA} {m : Str} {E : L2.St → XK} (hm : m ∉ C.ly c) : ∀ σ H Q, tO K C U (wMeth0 c cw wo w) σ H Q → tMethX (C.at_ c) m (spW K C cw) E (tE K C U wo) (tA K C U w) σ H Q := fun σ H Q ⟨sl, rt, ρ, fps, G, k, s, xf, w, q⟩ =>
  ⟨sl, rt, ρ, fps, G, _, s, xf, w, fun x rt1 fps1 G1 H1 v r1 n1 v1 ⟨hx, w1⟩ => by
    obtain ⟨a, dx, fs, rfl, h, n⟩ := r1.isObj v1 hx
    refine ⟨a, dx, fs, rfl, h, look_no fun z => hm (List.mem_of_mem_take (by rw [← n]; exact z)), sl, rt1, ρ, fps1, G1, _, s.step r1 n1 fun _ _ e => e, xf.later n1 (Pre.refl _), w1, fun xs rt2 fps2 G2 H2 vs r2 n2 v2 ⟨hd, w2⟩ => ?_⟩
    split at w2
    · rename_i ts ht
      have n3 := n1.trans n2
      exact sp_use (kx := fun _ _ => False) r2 (.cons (v1.up n2 fun _ _ e => e) v2) hd ht w2 (fun t rt' fps' fp G' H' v r' n' o' new hk => q t rt' fps' fp G' H' v r' (n3.trans n') o' (fun a ha => (new a ha).elim (fun y => n3.new a y) fun y => .inr (n3.dom a y)) hk)
        fun y rt' fps' G' H' cls d r' n' xr hk => hk.elim
    · exact w2.elim⟩
theorem wo_methN {c : Nat} {cw : CW} {wo : WE} {w : WA} {m : Str} {E : L2.St → XK} (hm : m ∉ C.ly c) (h : PE X e (tMethX (C.at_ c) m (spW K C cw) E (tE K C U wo) (tA K C U w))) : PE X e (tO K C U (wMeth0 c cw wo w)) := pe_imp h (o_methN hm)
/-! ### a local name that holds a def; a method by the class of a local name -/
def tCallLS (i : Nat) (f : Addr) (sp : Sp) (E : L2.St → XK) (t : TA) : TE := fun σ H Q => σ[i]? = some (some (.ref f)) ∧ t σ H fun vs H1 => sp vs H1 Q (E σ)
theorem pe_callLS {i : Nat} (F : FnOk X.prog X.w X.K X.mg X.base CX k f fd ps sp) (hr : Room k X.A) (hN : X.N[i]? = some x) (hv : Vis X.env.scope x) (hk : PySem.W.keepIn X.K (.ref f) = true) (hb : Binds X.K fd ps []) (hx : ∀ σ, PassesAt CX X σ (E σ)) (ha : PA X (e :: es) t)
    (hdb : (x == ("__debug__" : Str)) = false := by decide) (hcd : (x == ("__classdict__" : Str)) = false := by decide)
    (he : starEach (e :: es) X.env = (false, eval e X.env) :: starEach es X.env := by rfl) (hpl : (backTo pos (starEach es X.env)).any (·.1) = false := by rfl) : PE X (.Call (.Name x p) (e :: es) [] pos) (tCallLS i f sp E t) := by
  refine ⟨fun pins s σ H Q I h => ?_⟩
  obtain ⟨hs, ht⟩ := h
  refine wpAny_Call_Name_kw (thn ((pe_var (pos := p) hN hv hdb hcd).run pins s σ H (fun v H1 => v = .ref f ∧ H1 = H) I ⟨.ref f, hs, rfl, rfl⟩) fun u s1 ⟨v, H1, I1, r1, q1⟩ => ?_)
  obtain ⟨rfl, rfl⟩ := q1
  cases r1
  refine PySem.W.callWith_K (h₀ := X.base) I.ok.mod.kin hk (thn (ha.run pos pins s1 σ _ _ I1 ht) fun us s2 ⟨vs, H2, I2, r, q⟩ => ⟨I2.kIn, ?_⟩) he hpl
  exact run_fnSD (dvs := []) (ds := []) F hr hb .nil (hx σ) I2 r (by simpa using q)
/-- the slot i holds one of the defs js -/
def wCallF (js : List Nat) (tab : Nat → CW) (i : Nat) (w : WA) : WO := fun sl rt k => match sl.sl[i]? with
  | some (some (.dat (.fn j))) => j ∈ js ∧ wCall (tab j) w sl rt k
  | _ => False
theorem wo_callF {js : List Nat} {tab : Nat → CW} {i : Nat} {w : WA} (h : ∀ j ∈ js, PE X e (tCallLS i (C.fn j) (spW K C (tab j)) (fun σ cls d H => U cls d σ H) (tA K C U w))) : PE X e (tO K C U (wCallF js tab i w)) := ⟨fun pins s0 σ H Q I ⟨sl, rt, ρ, fps, G, k, s, xf, w0, q⟩ => by
  unfold wCallF at w0
  split at w0
  · rename_i j hj
    obtain ⟨hm, w0⟩ := w0
    obtain ⟨v, hv, hr⟩ := s.slot i _ hj
    have hr : DR K C G v (.fn j) := hr
    cases hr
    exact (h j hm).run pins s0 σ H Q I ⟨hv, o_call σ H Q ⟨sl, rt, ρ, fps, G, k, s, xf, w0, q⟩⟩
  · exact w0.elim⟩
/-- the slot i holds data of one of the classes cs -/
def wMethD (cs : List Nat) (tab : Nat → CW) (i : Nat) (w : WA) : WO := fun sl rt k => match sl.sl[i]? with
  | some (some (.dat (.obj c _))) => c ∈ cs ∧ wMethA c (tab c) (wVar i) w sl rt k
  | _ => False
theorem wo_methD {cs : List Nat} {tab : Nat → CW} {i : Nat} {w : WA} (h : ∀ c ∈ cs, PE X e (tO K C U (wMethA c (tab c) (wVar i) w))) : PE X e (tO K C U (wMethD cs tab i w)) := ⟨fun pins s0 σ H Q I ⟨sl, rt, ρ, fps, G, k, s, xf, w0, q⟩ => by
  unfold wMethD at w0
  split at w0
  · obtain ⟨hm, w0⟩ := w0
    exact (h _ hm).run pins s0 σ H Q I ⟨sl, rt, ρ, fps, G, k, s, xf, w0, q⟩
  · exact w0.elim⟩
/-! ### isinstance of a built-in type -/
def D.tyN : D → Option String
  | .non => some "NoneType"
  | .bool _ => some "bool"
  | .int _ => some "int"
  | .str _ => some "str"
  | .lst _ => some "list"
  | .tup _ => some "tuple"
  | .tpx _ => some "tuple"
  | .fzl _ => some "list"
  | _ => none
theorem tyN_ok {d : D} {v : V} {n : String} (e : Ex G H) (h : D.tyN d = some n) (r : DR K C G v d) : TyX K H v (.type n) := by
  unfold D.tyN at h
  split at h
  all_goals first
    | cases h; cases r; exact .base .non
    | cases h; cases r; exact .base (.bl _)
    | cases h; cases r; exact .base (.int _)
    | cases h; cases r; exact .base (.str _)
    | (cases h; cases r with
       | lst hG _ => exact .base (.lst (e _ _ hG)))
    | (cases h; cases r with
       | fzl hG _ => exact .base (.frz (e _ _ hG)))
    | (cases h; cases r with
       | tpx hG _ _ => exact .fTuple (e _ _ hG))
    | (cases h; cases r with
       | tup hS _ =>
         rcases ex_t e hS with hr | ⟨o, its, n, h1, h2, _⟩
         · rcases hr with h | ⟨o, h⟩
           · exact .base (.tup h)
           · exact .fTuple h
         · exact .kTuple h1 h2)
    | cases h
def wIsT (n : String) (w : WE) : WE := fun sl rt k => w sl rt fun x rt1 => match x with
  | .dat d => match D.tyN d with
    | some m => ∃ b, kitB m n = some b ∧ k (.dat (.bool b)) rt1
    | none => False
  | _ => False
theorem e_isT {n : String} {w : WE} : ∀ σ H Q, tE K C U (wIsT n w) σ H Q → tCB (rIsi K) (tCons (tE K C U w) (tCons (tC (.ty n)) tNil)) σ H Q := fun σ H Q ⟨sl, rt, ρ, fps, G, k, s, xf, w, q⟩ =>
  ⟨sl, rt, ρ, fps, G, _, s, xf, w, fun x rt1 fps1 G1 H1 v r1 n1 v1 w1 => by
    split at w1
    · rename_i d
      split at w1
      · rename_i m hm
        obtain ⟨b, hb, w1⟩ := w1
        exact ⟨v, _, _, _, b, rfl, .ty n, tyN_ok r1.sub hm v1, kit_ty hb, q (.dat (.bool b)) rt1 fps1 G1 H1 _ r1 n1 (DR.bool b) w1⟩
      · exact w1.elim
    · exact w1.elim⟩
theorem we_isT {n : String} {w : WE} (h : PE X e (tCB (rIsi K) (tCons (tE K C U w) (tCons (tC (.ty n)) tNil)))) : PE X e (tE K C U (wIsT n w)) := pe_imp h e_isT
/-! ### one class is caught -/
/-- try: u, except the class c0 as i: suite -/
def wTryA (c0 i : Nat) (suite : Addr → Addr → WS) (u : WS) : WS := fun Z sl rt => u { Z with ex := fun x sl1 rt1 => x.c = c0 ∧ ∀ a dd, suite a dd { Z with nx := fun sl2 rt2 => Z.nx (sl2.set i none) rt2, bk := fun sl2 rt2 => Z.bk (sl2.set i none) rt2, ct := fun sl2 rt2 => Z.ct (sl2.set i none) rt2, ex := fun _ _ _ => False } (sl1.set i (some (.dat (.exn a dd c0 x.ds)))) rt1 } sl rt
/-- try: u, except the class c0: suite -/
def wTryO (c0 : Nat) (suite : WS) (u : WS) : WS := fun Z sl rt => u { Z with ex := fun x sl1 rt1 => x.c = c0 ∧ suite { Z with ex := fun _ _ _ => False } sl1 rt1 } sl rt
abbrev tSu1 (K : PySem.W.Frag) (C : Cs) (c0 : Nat) (suite : Addr → Addr → WS) : Addr → Value → Option Addr → TS := fun a cls d D σ H => ∃ dd, cls = .ref (C.at_ c0) ∧ d = some dd ∧ tS K C (fun _ _ _ _ => False) (suite a dd) D σ H
theorem s_tryA {c0 i : Nat} {suite : Addr → Addr → WS} {u : WS} {cv : Value} (hM : PySem.W.exmOne K (.ref (C.at_ c0)) cv = some true) :
    ∀ D σ H, tS K C U (wTryA c0 i suite u) D σ H → tS K C (wAs K cv i (tSu1 K C c0 suite) U D) u D σ H := fun D σ H ⟨Z, sl, rt, ρ, fps, G, s, w, f⟩ => by
  refine ⟨{ Z with ex := fun x sl1 rt1 => x.c = c0 ∧ ∀ a dd, suite a dd { Z with nx := fun sl2 rt2 => Z.nx (sl2.set i none) rt2, bk := fun sl2 rt2 => Z.bk (sl2.set i none) rt2, ct := fun sl2 rt2 => Z.ct (sl2.set i none) rt2, ex := fun _ _ _ => False } (sl1.set i (some (.dat (.exn a dd c0 x.ds)))) rt1 }, sl, rt, ρ, fps, G, s, w, ⟨f.nx, f.rt, f.ro, f.bk, f.ct, fun x sl1 rt1 σ1 ρ1 fps1 G1 H1 cls d s1 n1 p1 xr hx => ?_⟩⟩
  obtain ⟨rfl, dd, fs, rfl, hd0, hd1, hn, hr⟩ := xr
  obtain ⟨hc, hx⟩ := hx
  refine ⟨true, by rw [hc]; exact hM, fun _ a ha => ?_, fun z => nomatch z⟩
  obtain ⟨G2, e2, hG2, s2, hk⟩ := s1.xd hd1
  have kp : ∀ l o, H l = some o → l ∉ fps.flatten → H1 l = some o ∧ (G l = none → G2 l = none) := fun l o hl hf => by
    obtain ⟨k1, k2⟩ := n1.keep l o hl hf
    refine ⟨k1, fun g => hk l (k2 g) fun z => ?_⟩
    rw [z, hd0] at hl
    cases hl
  have n2 : Nx fps.flatten G H G2 H1 fps1.flatten := ⟨n1.g.trans e2, kp, n1.dom, n1.new, n1.idn⟩
  rw [hc] at hn
  refine ⟨dd, by rw [hc], rfl, { Z with nx := fun sl2 rt2 => Z.nx (sl2.set i none) rt2, bk := fun sl2 rt2 => Z.bk (sl2.set i none) rt2, ct := fun sl2 rt2 => Z.ct (sl2.set i none) rt2, ex := fun _ _ _ => False }, _, rt1, ρ1, fps1, G2, s2.set (i := i) (x := .dat (.exn a dd c0 x.ds)) (DR.exn hG2 hn (DRs.up e2 _ _ hr)), hx a dd, ?_⟩
  exact ⟨fun sl' rt' σ' ρ' fps' G' H' s' n' p' h => f.nx _ rt' _ ρ' fps' G' H' (s'.unset i) (n2.trans n') (p1.trans p') h, fun v rt' ρ' fps' G' H' vv r' n' p' vr h => f.rt v rt' ρ' fps' G' H' vv r' (n2.trans n') (p1.trans p') vr h,
    fun t rt' ρ' fps' fp G' H' v r' n' p' o new h => f.ro t rt' ρ' fps' fp G' H' v r' (n2.trans n') (p1.trans p') o (fun l hl => (new l hl).elim (fun y => n2.new l y) fun y => .inr (n2.dom l y)) h,
    fun sl' rt' σ' ρ' fps' G' H' s' n' p' h => f.bk _ rt' _ ρ' fps' G' H' (s'.unset i) (n2.trans n') (p1.trans p') h, fun sl' rt' σ' ρ' fps' G' H' s' n' p' h => f.ct _ rt' _ ρ' fps' G' H' (s'.unset i) (n2.trans n') (p1.trans p') h, Xf.no⟩
theorem ws_tryA {c0 i : Nat} {n cn : Str} {suite : Addr → Addr → WS} {u : WS} {cv : Value} {body sts : List Stmt} {b₀ : Stmt} {np : Pos} (hM : PySem.W.exmOne X.K (.ref (C.at_ c0)) cv = some true)
    (hs : X.stack = X.env :: X.outer) (hf : X.env.frame = some X.env.locals) (hN : X.N.Nodup) (hi : X.N[i]? = some n) (hln : X.env.kindOf n = some .local) (hc : Names X cn cv) (tk : L2N.Takes X U)
    (hb : ∀ (W : WX) (pn : List (Addr × Obj)) (xe : Value → Shared → Prop), L2N.Takes (X.tr pn xe) W → PassesOwn (model X.prog X.w) X.A X.env xe → PSs (X.tr pn xe) body (tS X.K C W u))
    (hsu : ∀ (a : Addr) (oe : Obj) (dd : Addr) (pn : List (Addr × Obj)), L2N.Zn (.ref (C.at_ c0)) (some dd) oe → (∃ vs, oe.data = .fields vs) → PSs (X.suite a ((a, oe) :: pn)) (b₀ :: sts) (tS X.K C (fun _ _ _ _ => False) (suite a dd))) :
    PS X (.Try body [.ExceptHandler (some (.Name cn np)) (some n) (b₀ :: sts) pos'] [] [] pos) (tS X.K C U (wTryA c0 i suite u)) :=
  ps_imp (L2N.ps_try_as (tb := fun W => tS X.K C W u) (ts := tSu1 X.K C c0 suite) hs hf hN hi hln hc tk hb (fun a oe cls d pn hz hv => ⟨fun pins s σ H D I ⟨dd, h1, h2, w⟩ => (hsu a oe dd pn (by rw [← h1, ← h2]; exact hz) hv).run pins s σ H D I w⟩)) (s_tryA hM)
theorem s_tryO {c0 : Nat} {suite u : WS} {cv : Value} (hM : PySem.W.exmOne K (.ref (C.at_ c0)) cv = some true) :
    ∀ D σ H, tS K C U (wTryO c0 suite u) D σ H → tS K C (wMany K U D [(cv, fun _ _ _ => tS K C (fun _ _ _ _ => False) suite)]) u D σ H := fun D σ H ⟨Z, sl, rt, ρ, fps, G, s, w, f⟩ => by
  refine ⟨{ Z with ex := fun x sl1 rt1 => x.c = c0 ∧ suite { Z with ex := fun _ _ _ => False } sl1 rt1 }, sl, rt, ρ, fps, G, s, w, ⟨f.nx, f.rt, f.ro, f.bk, f.ct, fun x sl1 rt1 σ1 ρ1 fps1 G1 H1 cls d s1 n1 p1 xr hx => ?_⟩⟩
  obtain ⟨rfl, dd, fs, rfl, hd0, hd1, hn, hr⟩ := xr
  obtain ⟨hc, hx⟩ := hx
  refine ⟨true, by rw [hc]; exact hM, fun _ a ha => ?_, fun z => nomatch z⟩
  refine ⟨{ Z with ex := fun _ _ _ => False }, sl1, rt1, ρ1, fps1, G1, s1, hx, ?_⟩
  exact ⟨fun sl' rt' σ' ρ' fps' G' H' s' n' p' h => f.nx _ rt' _ ρ' fps' G' H' s' (n1.trans n') (p1.trans p') h, fun v rt' ρ' fps' G' H' vv r' n' p' vr h => f.rt v rt' ρ' fps' G' H' vv r' (n1.trans n') (p1.trans p') vr h,
    fun t rt' ρ' fps' fp G' H' v r' n' p' o new h => f.ro t rt' ρ' fps' fp G' H' v r' (n1.trans n') (p1.trans p') o (fun l hl => (new l hl).elim (fun y => n1.new l y) fun y => .inr (n1.dom l y)) h,
    fun sl' rt' σ' ρ' fps' G' H' s' n' p' h => f.bk _ rt' _ ρ' fps' G' H' s' (n1.trans n') (p1.trans p') h, fun sl' rt' σ' ρ' fps' G' H' s' n' p' h => f.ct _ rt' _ ρ' fps' G' H' s' (n1.trans n') (p1.trans p') h, Xf.no⟩
theorem ws_tryO {c0 : Nat} {cn : Str} {suite u : WS} {cv : Value} {body sts : List Stmt} {b₀ : Stmt} {np : Pos} (hM : PySem.W.exmOne X.K (.ref (C.at_ c0)) cv = some true)
    (hs : X.stack = X.env :: X.outer) (hf : X.env.frame = some X.env.locals) (hc : Names X cn cv) (tk : L2N.Takes X U)
    (hb : ∀ (W : WX) (pn : List (Addr × Obj)) (xe : Value → Shared → Prop), L2N.Takes (X.tr pn xe) W → PassesOwn (model X.prog X.w) X.A X.env xe → PSs (X.tr pn xe) body (tS X.K C W u))
    (hsu : ∀ (a : Addr) (oe : Obj) (cls : Value) (d : Option Addr) (pn : List (Addr × Obj)), L2N.Zn cls d oe → (∃ vs, oe.data = .fields vs) → PSs (X.suite a ((a, oe) :: pn)) (b₀ :: sts) (tS X.K C (fun _ _ _ _ => False) suite)) :
    PS X (.Try body [.ExceptHandler (some (.Name cn np)) none (b₀ :: sts) pos'] [] [] pos) (tS X.K C U (wTryO c0 suite u)) :=
  ps_imp (L2N.ps_try_many (tb := fun W => tS X.K C W u) hs hf tk hb (.cons hc hsu .nil)) (s_tryO hM)
theorem all_nil {P : Nat → Prop} : ∀ j ∈ ([] : List Nat), P j := fun _ h => (nomatch h)
theorem all_cons {P : Nat → Prop} {a : Nat} {l : List Nat} (h : P a) (r : ∀ j ∈ l, P j) : ∀ j ∈ a :: l, P j := fun j hj => by
  rcases List.mem_cons.mp hj with z | z
  · rw [z]; exact h
  · exact r j z
theorem unH {k : Nat} {A : Around} (r : L2H.RoomH k A) : A.units + 64 < cLine := by have := r.un; omega
theorem un1 {A : Around} (r : A.units + 64 < cLine) : A.units + 1 < cLine := by omega
end
end Wv
end

section
set_option linter.all false
set_option maxRecDepth 100000
set_option maxHeartbeats 4000000
namespace Wv
open PySem PySem.Spec PyProof.Rows L2 Evl
variable {P : Program} {w0 : World} {K : PySem.W.Frag} {C : Cs} {U : UX}
/-! ### isinstance of a list that is owned -/
def wIsL (n : String) (w : WE) : WE := fun sl rt k => w sl rt fun x rt1 => ∃ ds b, lstOf x rt1 = some ds ∧ kitB "list" n = some b ∧ k (.dat (.bool b)) rt1
theorem e_isL {n : String} {w : WE} : ∀ σ H Q, tE K C U (wIsL n w) σ H Q → tCB (rIsi K) (tCons (tE K C U w) (tCons (tC (.ty n)) tNil)) σ H Q := fun σ H Q ⟨sl, rt, ρ, fps, G, k, s, xf, w, q⟩ =>
  ⟨sl, rt, ρ, fps, G, _, s, xf, w, fun x rt1 fps1 G1 H1 v r1 n1 v1 w1 => by
    obtain ⟨ds, b, hl, hb, w1⟩ := w1
    obtain ⟨a, xs, rfl, hH, _⟩ := r1.lstOf hl v1
    exact ⟨_, _, _, _, b, rfl, .ty n, .base (.lst hH), kit_ty hb, q (.dat (.bool b)) rt1 fps1 G1 H1 _ r1 n1 (DR.bool b) w1⟩⟩
theorem we_isL {X : Cx} {e : Expr} {n : String} {w : WE} (h : PE X e (tCB (rIsi K) (tCons (tE K C U w) (tCons (tC (.ty n)) tNil)))) : PE X e (tE K C U (wIsL n w)) := pe_imp h e_isL
end Wv
end

section
set_option linter.all false
set_option maxRecDepth 100000
set_option maxHeartbeats 4000000
namespace Wv
open PySem PySem.Spec PyProof.Rows L2 Evl
variable {P : Program} {w0 : World} {K : PySem.W.Frag} {C : Cs} {U : UX} {G H : Hp}
/-! ### the place of a text in a written tuple of texts -/
theorem DRs.texts : ∀ {ss : List Str} {vs : List V}, DRs K C G vs (ss.map D.str) → vs = ss.map V.str
  | [], _, h => by cases h; rfl
  | s :: ss, _, h => by
    cases h with
    | cons a r =>
      cases a
      rw [DRs.texts r]
      rfl
def rTIx (K : PySem.W.Frag) : V → List V → Hp → VK → Prop := fun x xs H Q => ∃ p, ∃ ys : List Str, ∃ z j, x = .ref p ∧ xs = [.str z] ∧ SqT K H p (ys.map V.str) ∧ ys[j]? = some z ∧ (∀ m, m < j → ys[m]? ≠ some z) ∧ Q (.int (j : Nat)) H
def wIxG (ss : List Str) (w : WE) : WE := fun sl rt k => w sl rt fun x rt1 => match x with
  | .dat (.str z) => ∃ j : Nat, ss[j]? = some z ∧ (∀ m, m < j → ss[m]? ≠ some z) ∧ k (.dat (.int (j : Nat))) rt1
  | _ => False
theorem e_ixG {ss : List Str} {p : Addr} {w : WE} (ho : ∃ o, K.lookup p = some o ∧ o.cls = .type "tuple" ∧ o.dict = none) (hd : ∀ (C : Cs) (G : Hp), DR K C G (.ref p) (.tup (ss.map D.str))) :
    ∀ σ H Q, tE K C U (wIxG ss w) σ H Q → tBM K "tuple" (rTIx K) (tC (.ref p)) (tCons (tE K C U w) tNil) σ H Q := fun σ H Q ⟨sl, rt, ρ, fps, G, k, s, xf, w, q⟩ =>
  ⟨.inr (.inl ⟨rfl, ho⟩), sl, rt, ρ, fps, G, _, s, xf, w, fun x rt1 fps1 G1 H1 v r1 n1 v1 w1 => by
    split at w1
    · rename_i z
      obtain ⟨j, hj, hn, w1⟩ := w1
      cases v1
      have h1 := hd C G1
      cases h1 with
      | tup hS hr =>
        rw [DRs.texts hr] at hS
        exact ⟨p, ss, z, j, rfl, rfl, ex_t r1.sub hS, hj, hn, q (.dat (.int (j : Nat))) rt1 fps1 G1 H1 _ r1 n1 (DR.int _) w1⟩
    · exact w1.elim⟩
theorem we_ixG {X : Cx} {e : Expr} {ss : List Str} {p : Addr} {w : WE} (ho : ∃ o, X.K.lookup p = some o ∧ o.cls = .type "tuple" ∧ o.dict = none) (hd : ∀ (C : Cs) (G : Hp), DR X.K C G (.ref p) (.tup (ss.map D.str)))
    (h : PE X e (tBM X.K "tuple" (rTIx X.K) (tC (.ref p)) (tCons (tE X.K C U w) tNil))) : PE X e (tE X.K C U (wIxG ss w)) := pe_imp h (e_ixG ho hd)
end Wv
end

section
set_option Elab.async false
set_option linter.all false
set_option maxRecDepth 100000
set_option maxHeartbeats 4000000
namespace Wv
open PySem PySem.Spec PyProof.Rows L2 Evl
section
variable {K : PySem.W.Frag} {C : Cs} {U : UX} {G H G' H' G1 H1 G2 H2 : Hp} {sl sl' : Slots} {rt rt' rt2 : Roots} {σ : L2.St} {ρ ρ' ρ1 ρ2 : List Addr} {fps fps' fps1 fps2 : List (List Addr)}
variable {X : Cx} {CX : CXT} {a b c e o : Expr} {es rest : List Expr} {wa wb wc : WE} {pos p apos cpos : Pos} {Z : WEnds} {E : L2.St → XK} {st : Stmt} {k : Nat} {f Ca : Addr} {fd : FuncData} {ps : List Str} {sp : Sp} {x m name : Str} {ta to : TE} {t : TA} {ds : List Value}
/-! ### a def whose new roots live on -/
abbrev CWR := List Val → (Val → Roots → Prop) → Prop
def isDat : Val → Bool
  | .dat _ => true
  | .ref _ _ => false
variable (K C)
def spR (cw : CWR) : Sp := fun vs H Q _ => ∃ G args k, RSt K C [] [] [] G H ∧ VRs K C G H [] args vs ∧ cw args k ∧
  ∀ x rt' ρ' fps' G' H' v, RSt K C rt' ρ' fps' G' H' → Nx [] G H G' H' fps'.flatten → VR K C G' H' ρ' x v → k x rt' → Q v H'
variable {K C}
def cwOfR (m n : Nat) (w : WS) : CWR := fun args k => args.length = m ∧ w { nx := fun _ _ => False, rt := fun x rt' => k x rt' } (args.map some ++ List.replicate n none) []
theorem w_enterR {N ps : List Str} {n : Nat} {body : WS} {vs : List V} {Q : VK} {E : XK} (hn : N.length = ps.length + n) (h : spR K C (cwOfR ps.length n body) vs H Q E) : tS K C (fun c d _ H => E c d H) body { nx := fun _ H' => Q .non H', rt := Q } (L2.start N vs) H := by
  obtain ⟨G, args, k', r, va, ⟨h1, w⟩, q⟩ := h
  refine ⟨_, _, [], [], [], G, ⟨r, ?_, ?_⟩, w, ⟨?_, ?_, ?_, ?_, ?_, ?_⟩⟩
  · unfold L2.start
    simp only [List.length_append, List.length_map, List.length_replicate]
    rw [va.len, h1]
    omega
  · intro i x e
    by_cases hi : i < args.length
    · rw [List.getElem?_append_left (by rw [List.length_map]; exact hi), List.getElem?_map] at e
      cases e2 : args[i]? with
      | none => rw [e2] at e; cases e
      | some y =>
        rw [e2] at e
        cases e
        obtain ⟨v, h2, h3⟩ := va.get e2
        refine ⟨v, ?_, h3⟩
        unfold L2.start
        rw [List.getElem?_append_left (by rw [List.length_map, va.len]; exact hi), List.getElem?_map, h2]
        rfl
    · rw [List.getElem?_append_right (by rw [List.length_map]; omega), List.getElem?_replicate] at e
      split at e <;> cases e
  · exact fun _ _ _ _ _ _ _ _ _ _ h => h.elim
  · intro x rt' ρ' fps' G' H' v s' n' p' vr h
    exact q x rt' ρ' fps' G' H' v s' n' vr h
  · exact fun _ _ _ _ _ _ _ _ _ _ _ _ _ h => h.elim
  · exact fun _ _ _ _ _ _ _ _ _ _ h => h.elim
  · exact fun _ _ _ _ _ _ _ _ _ _ h => h.elim
  · exact Xf.no
theorem spR_len {ps : List Str} {n : Nat} {body : WS} {vs : List V} {Q : VK} {E : XK} (h : spR K C (cwOfR ps.length n body) vs H Q E) : vs.length = ps.length := by
  obtain ⟨G, args, k, r, v, ⟨h1, _⟩, _⟩ := h
  rw [v.len, h1]
theorem ok_WR {P : Program} {w : World} {mg : Str → Option Value} {base : Heap} {x qual : Str} {st : Stmt} {f : Addr} {fd : FuncData} {N ps : List Str} {k n : Nat} {body : WS}
    (F : Fun K x qual st f fd) (S : FnScope N ps (defScope st)) (hn : N.length = ps.length + n)
    (der : ∀ (cdv : Value) (A : Around) (outer : List Env) (s : Shared) (H : Hp) (E : XK), Room k (A.deeper (envOfC qual (defScope st) s.heap.objs.size f cdv)) → L2N.Takes (cxOf (L2N.CX P w) P w K mg base N qual (defScope st) f cdv A outer s H E) (fun c d _ H => E c d H) →
      PSs (cxOf (L2N.CX P w) P w K mg base N qual (defScope st) f cdv A outer s H E) (defBody st) (tS K C (fun c d _ H => E c d H) body)) :
    FnOk P w K mg base (L2N.CX P w) (k + 1) f fd ps (spR K C (cwOfR ps.length n body)) := by
  obtain ⟨oc, od, kV, doc, pm, an, cdv, ct, osl, rfl, lk, hcd⟩ := F.ex
  exact fn_of lk hcd S (fun vs H Q E h => spR_len h) fun A outer s H vs Q E hr h => ⟨_, der cdv A outer s H E hr (L2N.takes_of rfl rfl rfl rfl), w_enterR hn h⟩
theorem Rts.append : ∀ {rt : Roots} {ρ : List Addr} {fps : List (List Addr)}, Rts K C G H rt ρ fps → Rts K C G H rt2 ρ2 fps2 → Rts K C G H (rt ++ rt2) (ρ ++ ρ2) (fps ++ fps2)
  | _, _, _, .nil, h => h
  | _, _, _, .cons h r, h2 => .cons h (Rts.append r h2)
theorem RSt.join (r : RSt K C rt ρ fps G H) (r2 : RSt K C rt2 ρ2 fps2 G2 H2) (n : Nx [] G H G2 H2 fps2.flatten) : RSt K C (rt ++ rt2) (ρ ++ ρ2) (fps ++ fps2) G2 H2 ∧ Nx fps.flatten G H G2 H2 (fps ++ fps2).flatten := by
  have kp : ∀ a ∈ fps.flatten, H2 a = H a ∧ G2 a = none ∧ H a ≠ none := fun a ha => by
    have hn := r.root.inH a ha
    cases z : H a with
    | none => exact absurd z hn
    | some o =>
      obtain ⟨k1, k2⟩ := n.keep a o z (fun h => nomatch h)
      exact ⟨k1, k2 (r.fr a ha), fun h => nomatch h⟩
  have nw : ∀ a ∈ fps2.flatten, H a = none := fun a ha => by
    rcases n.new a ha with z | z
    · cases z
    · exact z
  refine ⟨⟨r2.sub, Rts.append (Rts.stay n.g r.root fun a ha => (kp a ha).1) r2.root, ?_, ?_⟩, ⟨n.g, fun l o h z => n.keep l o h (fun y => nomatch y), n.dom, fun l hl => ?_, n.idn⟩⟩
  · rw [List.flatten_append]
    exact List.nodup_append.mpr ⟨r.nd, r2.nd, fun a ha b hb e => (kp a ha).2.2 (by rw [e]; exact nw b hb)⟩
  · intro a ha
    rw [List.flatten_append] at ha
    rcases List.mem_append.mp ha with z | z
    · exact (kp a z).2.1
    · exact r2.fr a z
  · rw [List.flatten_append] at hl
    rcases List.mem_append.mp hl with z | z
    · exact .inl z
    · exact .inr (nw l z)
theorem VRs.allD : ∀ {xs : List Val} {vs : List V}, VRs K C G H ρ xs vs → xs.all isDat = true → VRs K C G H ρ' xs vs
  | _, _, .nil, _ => .nil
  | x :: xs, _, .cons h r, e => by
    simp only [List.all_cons, Bool.and_eq_true] at e
    cases x with
    | dat d => exact .cons h (VRs.allD r e.2)
    | ref _ _ => cases e.1
/-- x = f(..), f's new roots behind the caller's -/
def wAsgR (i : Nat) (cw : CWR) (w : WA) : WS := fun Z sl rt => w ⟨sl, Z.ex⟩ rt fun xs rt1 => xs.all isDat = true ∧ cw xs fun x rt2 => match x with
  | .dat d => Z.nx (sl.set i (some (.dat d))) (rt1 ++ rt2)
  | _ => False
theorem s_asgR {i : Nat} {cw : CWR} {w : WA} : ∀ D σ H, tS K C U (wAsgR i cw w) D σ H → tAsg (tCallS (spR K C cw) (fun σ cls d H => U cls d σ H) (tA K C U w)) (gName i) D σ H := fun D σ H ⟨Z, sl, rt, ρ, fps, G, s, w, f⟩ =>
  ⟨⟨sl, Z.ex⟩, rt, ρ, fps, G, _, s, f.xf, w, fun xs rt1 fps1 G1 H1 vs r1 n1 v1 ⟨hd, w1⟩ =>
    ⟨G1, xs, _, ⟨r1.sub, .nil, List.nodup_nil, fun _ h => nomatch h⟩, v1.allD hd, w1, fun x rt' ρ' fps' G' H' v r' n' vr k => by
      cases x with
      | ref _ _ => exact k.elim
      | dat d =>
        obtain ⟨r3, n3⟩ := r1.join r' n'
        have s3 := s.step r3 (n1.trans n3) (Pre.app ρ ρ')
        exact f.nx _ _ _ (ρ ++ ρ') (fps1 ++ fps') G' H' (s3.set (x := .dat d) vr) (n1.trans n3) (Pre.app ρ ρ') k⟩⟩
theorem ws_asgR {i : Nat} {cw : CWR} {w : WA} (h : PS X st (tAsg (tCallS (spR K C cw) (fun σ cls d H => U cls d σ H) (tA K C U w)) (gName i))) : PS X st (tS K C U (wAsgR i cw w)) := ps_imp h s_asgR
/-! ### f(..) of data that holds the place of a root -/
theorem rdd_dat : ∀ (xs : List Val) (rs : List Nat), xs.all isDat = true → rdd rs xs = rs
  | [], _, _ => rfl
  | .dat d :: xs, rs, h => rdd_dat xs rs (by simpa [isDat] using h)
  | .ref _ _ :: xs, _, h => by simp [isDat] at h
def wCallB (cw : CW) (w : WA) : WO := fun sl rt k => w sl rt fun xs rt1 => xs.all isDat = true ∧ ∃ r t, rt1[r]? = some t ∧ t.isD = false ∧ cw xs [t] (fun u ts' => k u (putR rt1 [(r, [])] ts')) fun _ _ => False
theorem o_callB {cw : CW} {w : WA} : ∀ σ H Q, tO K C U (wCallB cw w) σ H Q → tCallS (spW K C cw) (fun σ cls d H => U cls d σ H) (tA K C U w) σ H Q := fun σ H Q ⟨sl, rt, ρ, fps, G, k, s, xf, w, q⟩ =>
  ⟨sl, rt, ρ, fps, G, _, s, xf, w, fun xs rt1 fps1 G1 H1 vs r1 n1 v1 ⟨hd, r, t, h1, h2, w1⟩ => by
    obtain ⟨a, L, fu, R, z1, z2, _, _⟩ := r1.root.split h1
    have e1 : plc (.ref r [] :: xs) = [(r, [])] := by
      show (rdd [r] xs).map _ = _
      rw [rdd_dat xs [r] hd]
      rfl
    have v2 : VRs K C G1 H1 ρ (.ref r [] :: xs) (.ref a :: vs) := .cons ⟨a, z1, rfl, z2.nodeB h2, rfl⟩ v1
    have g1 : getR rt1 (plc (.ref r [] :: xs)) = some [t] := by
      rw [e1]
      have : tatN rt1 r [] = some t := by
        unfold tatN
        rw [h1]
        rfl
      simp only [getR, this]
    have d1 : dst (plc (.ref r [] :: xs)) = true := by
      rw [e1]
      rfl
    obtain ⟨bs, fpsc, b1, b2, b3, b4⟩ := borrowed r1 v2 d1 g1
    rw [e1] at b4
    have e2 : ren (.ref r [] :: xs) = .ref 0 [] :: xs := by
      have : ∀ ys : List Val, ys.all isDat = true → ys.map (renV [r]) = ys := by
        intro ys
        induction ys with
        | nil => exact fun _ => rfl
        | cons y ys ih =>
          intro h
          simp only [List.all_cons, Bool.and_eq_true] at h
          cases y with
          | dat d => rw [List.map_cons, ih h.2]; rfl
          | ref _ _ => cases h.1
      show (Val.ref r [] :: xs).map (renV (rdd [r] xs)) = _
      rw [rdd_dat xs [r] hd, List.map_cons, this xs hd]
      show Val.ref (List.idxOf r [r]) [] :: xs = _
      simp
    rw [e2] at b2
    cases b2 with
    | cons _ b2 =>
      refine ⟨G1, bs, fpsc, xs, [t], _, _, b1, b2, w1, ?_, fun _ _ _ _ _ _ _ _ _ _ h => h.elim⟩
      intro u ts' fpsc' fp G' H' v r' n' o' new hk
      obtain ⟨fps', y1, y2, y3⟩ := b4 ts' fpsc' G' H' r' n'
      exact q u _ fps' fp G' H' v y1 (n1.trans y2) ⟨o'.tr, o'.nd, y3 fp o'.ap new, o'.fr⟩ (fun a ha => (new a ha).elim (fun z => n1.new a (b3 a z)) fun z => .inr (n1.dom a z)) hk⟩
theorem wo_callB {cw : CW} {w : WA} (h : PE X e (tCallS (spW K C cw) (fun σ cls d H => U cls d σ H) (tA K C U w))) : PE X e (tO K C U (wCallB cw w)) := pe_imp h o_callB
end
end Wv
end

section
set_option Elab.async false
set_option linter.all false
set_option maxRecDepth 100000
set_option maxHeartbeats 4000000
namespace Wv
open PySem PySem.Spec PyProof.Rows L2 Evl
section
variable {K : PySem.W.Frag} {C : Cs} {U : UX} {G H G' H' G1 H1 G2 H2 : Hp} {sl sl' : Slots} {rt rt' rt2 : Roots} {σ : L2.St} {ρ ρ' ρ1 ρ2 : List Addr} {fps fps' fps1 fps2 : List (List Addr)}
variable {X : Cx} {CX : CXT} {a b c e o : Expr} {es rest : List Expr} {wa wb wc : WE} {pos p apos cpos p2 pos2 : Pos} {Z : WEnds} {E : L2.St → XK} {st : Stmt} {k : Nat} {f Ca : Addr} {fd : FuncData} {ps : List Str} {sp : Sp} {x m name : Str} {te ta to : TE} {t : TA} {ds : List Value}
/-! ### tuple(range(n)) -/
theorem vals_of : ∀ {xs : List V} {us : List Value}, us.length = xs.length → (∀ (i : Nat) x u, xs[i]? = some x → us[i]? = some u → RelV x u) → Vals xs us
  | [], [], _, _ => .nil
  | x :: xs, u :: us, hl, h => .cons (h 0 x u rfl rfl) (vals_of (by simpa using hl) fun i y v hy hv => h (i + 1) y v (by simpa using hy) (by simpa using hv))
  | [], _ :: _, hl, _ => by simp at hl
  | _ :: _, [], hl, _ => by simp at hl
theorem rsz (n : Nat) : Builtin.Range.rangeSize 0 (n : Int) 1 = (n : Int) := by
  unfold Builtin.Range.rangeSize
  rw [if_pos (by decide)]
  by_cases h : (0 : Int) < n
  · rw [if_pos h]
    omega
  · rw [if_neg h]
    omega
theorem fl {v : Int} (h0 : 0 ≤ v) (h1 : v ≤ 2000) : Builtin.Range.rangeFitsLong v = true := by
  unfold Builtin.Range.rangeFitsLong
  have e : (2 : Int) ^ 63 = 9223372036854775808 := by decide
  rw [e, Bool.and_eq_true, decide_eq_true_eq, decide_eq_true_eq]
  omega
def tTupRng (te : TE) : TE := fun σ H Q => te σ H fun v H1 => ∃ n : Nat, v = .int (n : Int) ∧ n ≤ 1000 ∧ ∀ l, H1 l = none → Q (.ref l) (upd H1 l (.tup ((List.range n).map fun i => V.int (i : Nat))))
theorem pe_tupRng (hc : X.calm = true) (hg : Gl X "tuple") (hm : X.mg "tuple" = none) (hg2 : Gl X "range") (hm2 : X.mg "range" = none) (he : PE X e te)
    (hs : starEach [e] X.env = (false, eval e X.env) :: starEach [] X.env := by rfl)
    (hs2 : starEach [.Call (.Name "range" p2) [e] [] pos2] X.env = (false, eval (.Call (.Name "range" p2) [e] [] pos2) X.env) :: starEach [] X.env := by rfl) :
    PE X (.Call (.Name "tuple" p) [.Call (.Name "range" p2) [e] [] pos2] [] pos) (tTupRng te) := by
  refine ⟨fun pins s σ H Q I h => ?_⟩
  refine PyProof.Rows.Call_ (ld_blt I hg hm PyProof.Rows.boot_tuple (PyProof.Rows.callWith_type1 (PyProof.Rows.args_cons (PyProof.Rows.Call_ (ld_blt I hg2 hm2 PyProof.Rows.boot_range (PyProof.Rows.callWith_type1 (PyProof.Rows.args_cons (thn (he.run pins s σ H _ I h) fun u s1 ⟨v, H1, I1, r1, n, ev, hn, q⟩ => PyProof.Rows.args_nil ?_) hs) hs rfl) (by decide) (by decide))) hs2) hs2 rfl) (by decide) (by decide))
  subst ev
  obtain ⟨t, rfl⟩ := r1
  refine call_range_1 (PyProof.Rows.args_nil ?_)
  refine call_tuple_range (n := n) (I1.ok.hd hc) (Heap.get?_push_size s1.heap rfl) ?_ ?_ (by omega) fun h' tk acc hk hi => ?_
  · have e1 : Builtin.Range.rangeSize 0 (n : Int) 1 = (n : Int) := rsz n
    unfold Builtin.Range.small
    rw [e1, if_pos (by decide), fl (v := 0) (by decide) (by decide), fl (v := (n : Int)) (by omega) (by omega), fl (v := 1) (by decide) (by decide), fl (v := (n : Int) + (1 - 1)) (by omega) (by omega)]
    simp
  · exact rsz n
  · have I3 : L2.Inv X pins σ H1 { heap := h', gens := s1.gens, drawn := s1.drawn, toks := tk, os := s1.os } := Inv.kept I1 fun b u e => hk b u (Heap.get?_push_of_some _ e)
    have hv : Vals ((List.range n).map fun i => V.int (i : Nat)) acc.toList := by
      refine vals_of (by simp [hi.1]) fun i x u hx hu => ?_
      rw [List.getElem?_map] at hx
      obtain ⟨m, hm, rfl⟩ := Option.map_eq_some_iff.mp hx
      obtain ⟨h1, h2⟩ := List.getElem?_eq_some_iff.mp hm
      have h2 : i = m := by simpa using h2
      subst h2
      obtain ⟨t, ht⟩ := hi.2 i u (by rw [← Array.getElem?_toList]; exact hu)
      exact ⟨t, by rw [ht]; congr 1; omega⟩
    refine ⟨V.ref h'.objs.size, upd H1 h'.objs.size (.tup ((List.range n).map fun i => V.int (i : Nat))), Inv.laid (s := { heap := h', gens := s1.gens, drawn := s1.drawn, toks := tk, os := s1.os }) (h' := h'.push { cls := Value.type "tuple", data := Data.seq acc }) I3 (fun c o e => Heap.get?_push_of_some _ e) (Nat.le_refl _) ?_, rfl, q _ (HOk.fresh I3.hok (Nat.le_refl _))⟩
    have e3 := PyProof.Rows.IsTup.new h' acc
    have e4 : acc = acc.toList.toArray := by simp
    refine ⟨by rw [List.length_map, List.length_range]; show n ≤ 2 ^ 24; omega, acc.toList, hv, ?_⟩
    rw [← e4]
    exact e3
/-- tuple(range(n)) -/
def wTupRng (w : WE) : WE := fun sl rt k => w sl rt fun x rt1 => ∃ n : Nat, x = .dat (.int (n : Int)) ∧ n ≤ 1000 ∧ k (.dat (.tup ((List.range n).map fun i => D.int (i : Nat)))) rt1
theorem DRs.of_ints' : ∀ (ns : List Nat), DRs K C G (ns.map fun i => V.int (i : Nat)) (ns.map fun i => D.int (i : Nat))
  | [] => .nil
  | n :: ns => .cons (.int _) (DRs.of_ints' ns)
theorem e_tupRng {w : WE} : ∀ σ H Q, tE K C U (wTupRng w) σ H Q → tTupRng (tE K C U w) σ H Q := fun σ H Q ⟨sl, rt, ρ, fps, G, k, s, xf, w, q⟩ =>
  ⟨sl, rt, ρ, fps, G, _, s, xf, w, fun x rt1 fps1 G1 H1 v r1 n1 v1 ⟨n, hx, hn, w1⟩ => by
    subst hx
    cases v1
    refine ⟨n, rfl, hn, fun p hp => ?_⟩
    exact q (.dat (.tup _)) rt1 fps1 _ _ _ (r1.laid hp) (n1.trans (Nx.laid r1.sub hp _)) (.tup (st_of upd_same) (DRs.of_ints' _)) w1⟩
theorem we_tupRng {w : WE} (h : PE X e (tTupRng (tE K C U w))) : PE X e (tE K C U (wTupRng w)) := pe_imp h e_tupRng
/-! ### targets: of a list, of a pair whose second is a tuple -/
def tgLst (js : List Nat) : Tg := fun d sl k => match d with
  | .lst ds => ds.length = js.length ∧ k (setAll js ds sl)
  | _ => False
theorem tg_lst {js : List Nat} {n : Nat} (hn : n = js.length) : TgOk K C (gLst K n (gAll js)) (tgLst js) := fun d v sl rt σ ρ fps G H k Q s h w q => by
  unfold tgLst at w
  split at w
  · cases h with
    | lst h2 r => exact ⟨_, _, rfl, sq_of (s.sub _ _ h2), by rw [r.len, w.1, hn], gall s r w.1 fun σ2 s2 => q _ σ2 w.2 s2⟩
  · exact w.elim
def tgNest (j : Nat) (js : List Nat) : Tg := fun d sl k => match d with
  | .tup [x, y] => tgTup js y (sl.set j (some (.dat x))) k
  | _ => False
theorem tg_nest {j : Nat} {js : List Nat} {n : Nat} (hn : n = js.length) : TgOk K C (gTup K 2 (gCons (gName j) (gCons (gTup K n (gAll js)) gNil))) (tgNest j js) := fun d v sl rt σ ρ fps G H k Q s h w q => by
  unfold tgNest at w
  split at w
  · rename_i x y
    cases h with
    | tup h2 r =>
      cases r with
      | cons hx r =>
        cases r with
        | cons hy r =>
          cases r
          refine ⟨_, _, rfl, ex_t s.sub h2, rfl, ⟨_, _, rfl, ?_⟩⟩
          refine ⟨_, _, rfl, ?_⟩
          exact tg_tup hn y _ _ rt _ ρ fps G H k _ (s.set (x := .dat x) hx) hy w fun sl2 σ2 h s2 => ⟨rfl, q sl2 σ2 h s2⟩
  · exact w.elim
/-! ### a new list whose items are new: each item a root of its own -/
def notD (t : T) : Bool := !t.isD
theorem TRs.items : ∀ {ts : List T} {xs : List V} {fq : List Addr}, TRs K C G H xs ts fq → ts.all notD = true → ∃ as fps', xs = as.map V.ref ∧ as.length = ts.length ∧ Rts K C G H (List.zipWith T.nm as ts) as fps' ∧ fps'.flatten = fq
  | [], _, _, .nil, _ => ⟨[], [], rfl, rfl, .nil, rfl⟩
  | t :: ts, _, _, .cons (fp := fp) h r, e => by
    simp only [List.all_cons, Bool.and_eq_true] at e
    obtain ⟨as, fps', rfl, h2, h3, h4⟩ := TRs.items r e.2
    obtain ⟨a, rfl, _⟩ := h.nodeB (by have e1 : notD t = true := e.1; unfold notD at e1; simpa using e1)
    exact ⟨a :: as, fp :: fps', rfl, by simp [h2], .cons (.nm h) h3, by simp [h4]⟩
theorem TRs.csts : ∀ as : List Addr, TRs K C G H (as.map V.ref) (as.map fun a => T.dat (.cst (.ref a))) []
  | [] => .nil
  | a :: as => TRs.cons (fp := []) (fq := []) (.dat (.cst _)) (TRs.csts as)
def wNewSplit (i : Nat) (w : WO) : WS := fun Z sl rt => w ⟨sl, Z.ex⟩ rt fun t rt1 => match t.strip with
  | .lst ts => ts.all notD = true ∧ ∀ as : List Addr, as.length = ts.length → Z.nx (sl.set i (some (.ref rt1.length []))) (rt1 ++ (.lst (as.map fun a => T.dat (.cst (.ref a))) :: List.zipWith T.nm as ts))
  | _ => False
theorem s_newSplit {i : Nat} {w : WO} : ∀ D σ H, tS K C U (wNewSplit i w) D σ H → tAsg (tO K C U w) (gName i) D σ H := fun D σ H ⟨Z, sl, rt, ρ, fps, G, s, w, f⟩ =>
  ⟨⟨sl, Z.ex⟩, rt, ρ, fps, G, _, s, f.xf, w, fun t rt1 fps1 fp G1 H1 v r1 n1 o1 new w1 => by
    have s1 := s.step r1 n1 fun _ _ e => e
    have o2 := o1.tr.strip
    split at w1
    · rename_i ts ht
      rw [ht] at o2
      cases o2 with
      | @lst L xs _ fq hL tr =>
        obtain ⟨as, fps', rfl, ha, hr, hf⟩ := tr.items w1.1
        have flat : (fps1 ++ ([L] :: fps')).flatten = fps1.flatten ++ (L :: fq) := by simp [hf]
        have r2 : RSt K C (rt1 ++ (.lst (as.map fun a => T.dat (.cst (.ref a))) :: List.zipWith T.nm as ts)) (ρ ++ (L :: as)) (fps1 ++ ([L] :: fps')) G1 H1 := by
          refine ⟨r1.sub, Rts.append r1.root (.cons (.lst hL (TRs.csts as)) hr), ?_, ?_⟩
          · rw [flat]
            exact List.nodup_append.mpr ⟨r1.nd, o1.nd, fun x hx y hy z => o1.ap y hy (by rw [← z]; exact hx)⟩
          · intro x hx
            rw [flat] at hx
            rcases List.mem_append.mp hx with z | z
            · exact r1.fr x z
            · exact o1.fr x z
        have n2 : Nx fps.flatten G H G1 H1 (fps1 ++ ([L] :: fps')).flatten := ⟨n1.g, n1.keep, n1.dom, fun l hl => by
          rw [flat] at hl
          rcases List.mem_append.mp hl with z | z
          · exact n1.new l z
          · exact new l z, n1.idn⟩
        have s2 := s.step r2 n2 (Pre.app ρ (L :: as))
        refine f.nx _ _ _ _ _ G1 H1 (s2.set (x := .ref rt1.length []) ⟨L, ?_, rfl, ⟨L, rfl, .inl ⟨_, hL⟩⟩, rfl⟩) n2 (Pre.app ρ (L :: as)) (w1.2 as ha)
        rw [← r1.root.lens.1]
        simp
    · exact w1.elim⟩
theorem ws_newSplit {i : Nat} {w : WO} (h : PS X st (tAsg (tO K C U w) (gName i))) : PS X st (tS K C U (wNewSplit i w)) := ps_imp h s_newSplit
theorem s_setLcSplit {i : Nat} {it : WI} {tg : Tg} {g : TG} {vs : List Nat} {tt : WT} {elt : WO} (hg : TgOk K C g tg) (hw : TgW g vs) (h : PS X st (tAsg (tLc (tI K C U it) g (tT K C noU tt) (tO K C noU elt) vs) (gName i))) : PS X st (tS K C U (wNewSplit i (wLc it tg vs tt elt))) :=
  ps_imp h fun D σ H q => o_lc hg hw σ H _ (s_newSplit D σ H q)
/-! ### xs[i] = something new, a root of its own -/
def wSetNew (w : WO) (wx wi : WE) : WS := fun Z sl rt => w ⟨sl, Z.ex⟩ rt fun t rt1 => (∀ d, t.strip ≠ .dat d) ∧ ∀ a : Addr, wx ⟨sl, Z.ex⟩ (rt1 ++ [.nm a t]) fun x rt2 => wi ⟨sl, Z.ex⟩ rt2 fun n rt3 => match x, n with
    | .ref r p, .dat (.int n) => match tat rt3 r p with
      | some (.lst ts) => ∃ j u, ixN ts.length n = some j ∧ ts[j]? = some u ∧ leafT u = true ∧ Z.nx sl (rt3.modify r (T.put (.lst (ts.set j (.dat (.cst (.ref a))))) p))
      | _ => False
    | _, _ => False
theorem s_setNew {w : WO} {wx wi : WE} : ∀ D σ H, tS K C U (wSetNew w wx wi) D σ H → tAsg (tO K C U w) (gSub (tE K C U wx) (tE K C U wi) rSetL) D σ H := fun D σ H ⟨Z, sl, rt, ρ, fps, G, s, w, f⟩ =>
  ⟨⟨sl, Z.ex⟩, rt, ρ, fps, G, _, s, f.xf, w, fun t rt1 fps1 fp G1 H1 vy r1 n1 o1 new ⟨nd, w1⟩ => by
    obtain ⟨a, rfl, hn⟩ := o1.tr.nodeV nd
    have r1' := r1.app (t := .nm a t) ⟨.nm o1.tr, o1.nd, o1.ap, o1.fr⟩
    have n1' : Nx fps.flatten G H G1 H1 (fps1 ++ [fp]).flatten := new_flat n1 new
    have s1' := s.step r1' n1' (Pre.app ρ [a])
    refine ⟨⟨sl, Z.ex⟩, rt1 ++ [.nm a t], ρ ++ [a], fps1 ++ [fp], G1, _, s1', f.xf.later n1' (Pre.app ρ [a]), w1 a, fun x rt2 fps2 G2 H2 vx r2 n2 v2 w2 =>
      ⟨⟨sl, Z.ex⟩, rt2, ρ ++ [a], fps2, G2, _, s1'.step r2 n2 fun _ _ e => e, f.xf.later (n1'.trans n2) (Pre.app ρ [a]), w2, fun n rt3 fps3 G3 H3 vn r3 n3 v3 w3 => ?_⟩⟩
    split at w3
    · rename_i r p n
      split at w3
      · rename_i ts ht
        obtain ⟨j, u, hj, hu, hl, w3⟩ := w3
        have v2 := v2.up n3 fun _ _ e => e
        have v1 : DR K C G3 (.ref a) (.cst (.ref a)) := .cst _
        cases v3
        obtain ⟨a', fu, z1, z2, z3, _⟩ := r3.get ht v2
        cases z3 with
        | @lst b xs _ fq hb tr =>
          obtain ⟨vo, fo, q1, q2, _⟩ := tr.get hu
          have idn : Idn H3 (upd H3 b (.lst (xs.set j (.ref a)))) := idn_lst hb fun i q hq nq => by
            by_cases z : j = i
            · subst z
              rw [q1] at hq
              cases hq
              exact absurd nq ((leaf_ok hl q2).2.2 _ r3.sub)
            · rw [List.getElem?_set_ne z]
              exact hq
          obtain ⟨fps4, r4, mem, hbF⟩ := r3.write (t' := .lst (ts.set j (.dat (.cst (.ref a))))) (fn := []) ht z1 z2 (by intro d q; cases q) idn (fun fu hfu => by
            cases hfu with
            | @lst _ xs' _ fq' hb' tr' =>
              rw [hb] at hb'
              cases hb'
              refine ⟨List.mem_cons_self, fun nd dis => ?_⟩
              have nb := (List.nodup_cons.mp nd).1
              refine ⟨b :: fq', .lst upd_same (TRs.set (TRs.stay (Ex.refl _) _ _ _ tr' fun q hq => upd_ne fun z => nb (by rw [← z]; exact hq)) hu hl v1), ?_⟩
              rw [List.append_nil]) List.nodup_nil (fun _ q => nomatch q) (fun _ q => nomatch q)
          refine ⟨b, xs, n, j, rfl, rfl, hb, by rw [TRs.len tr]; exact hj, ?_⟩
          have nW : Nx fps3.flatten G3 H3 G3 (upd H3 b (.lst (xs.set j (.ref a)))) fps3.flatten := Nx.write (fps' := fps3) hbF (by rw [hb]; exact fun q => nomatch q) idn (fp := []) (fun _ q => nomatch q)
          have n4 := (n1'.trans (n2.trans n3)).trans nW
          have n5 : Nx fps.flatten G H G3 (upd H3 b (.lst (xs.set j (.ref a)))) fps4.flatten := n4.less fun l hl => by
            rcases mem l hl with q | q
            · exact q
            · cases q
          exact f.nx sl _ σ (ρ ++ [a]) fps4 G3 _ (s.step r4 n5 (Pre.app ρ [a])) n5 (Pre.app ρ [a]) w3
      · exact w3.elim
    · exact w3.elim⟩
theorem ws_setNew {w : WO} {wx wi : WE} (h : PS X st (tAsg (tO K C U w) (gSub (tE K C U wx) (tE K C U wi) rSetL))) : PS X st (tS K C U (wSetNew w wx wi)) := ps_imp h s_setNew
/-! ### a def that gets all roots, whose new roots live on -/
abbrev CWA := List Val → Roots → (Roots → Prop) → Prop
variable (K C)
def spA (cw : CWA) : Sp := fun vs H Q _ => ∃ G ρ fps args rt k, RSt K C rt ρ fps G H ∧ VRs K C G H ρ args vs ∧ cw args rt k ∧
  ∀ rt' ρ' fps' G' H', RSt K C rt' ρ' fps' G' H' → Nx fps.flatten G H G' H' fps'.flatten → Pre ρ ρ' → k rt' → Q .non H'
variable {K C}
def cwOfA (m n : Nat) (w : WS) : CWA := fun args rt k => args.length = m ∧ w { nx := fun _ rt' => k rt' } (args.map some ++ List.replicate n none) rt
theorem w_enterA {N ps : List Str} {n : Nat} {body : WS} {vs : List V} {Q : VK} {E : XK} (hn : N.length = ps.length + n) (h : spA K C (cwOfA ps.length n body) vs H Q E) : tS K C (fun c d _ H => E c d H) body { nx := fun _ H' => Q .non H', rt := Q } (L2.start N vs) H := by
  obtain ⟨G, ρ, fps, args, rt, k', r, va, ⟨h1, w⟩, q⟩ := h
  refine ⟨_, _, rt, ρ, fps, G, ⟨r, ?_, ?_⟩, w, ⟨?_, ?_, ?_, ?_, ?_, ?_⟩⟩
  · unfold L2.start
    simp only [List.length_append, List.length_map, List.length_replicate]
    rw [va.len, h1]
    omega
  · intro i x e
    by_cases hi : i < args.length
    · rw [List.getElem?_append_left (by rw [List.length_map]; exact hi), List.getElem?_map] at e
      cases e2 : args[i]? with
      | none => rw [e2] at e; cases e
      | some y =>
        rw [e2] at e
        cases e
        obtain ⟨v, h2, h3⟩ := va.get e2
        refine ⟨v, ?_, h3⟩
        unfold L2.start
        rw [List.getElem?_append_left (by rw [List.length_map, va.len]; exact hi), List.getElem?_map, h2]
        rfl
    · rw [List.getElem?_append_right (by rw [List.length_map]; omega), List.getElem?_replicate] at e
      split at e <;> cases e
  · intro sl' rt' σ' ρ' fps' G' H' s' n' p' h
    exact q rt' ρ' fps' G' H' s'.toRSt n' p' h
  · exact fun _ _ _ _ _ _ _ _ _ _ _ h => h.elim
  · exact fun _ _ _ _ _ _ _ _ _ _ _ _ _ h => h.elim
  · exact fun _ _ _ _ _ _ _ _ _ _ h => h.elim
  · exact fun _ _ _ _ _ _ _ _ _ _ h => h.elim
  · exact Xf.no
theorem spA_len {ps : List Str} {n : Nat} {body : WS} {vs : List V} {Q : VK} {E : XK} (h : spA K C (cwOfA ps.length n body) vs H Q E) : vs.length = ps.length := by
  obtain ⟨G, ρ, fps, args, rt, k, r, v, ⟨h1, _⟩, _⟩ := h
  rw [v.len, h1]
theorem ok_WA {P : Program} {w : World} {mg : Str → Option Value} {base : Heap} {x qual : Str} {st : Stmt} {f : Addr} {fd : FuncData} {N ps : List Str} {k n : Nat} {body : WS}
    (F : Fun K x qual st f fd) (S : FnScope N ps (defScope st)) (hn : N.length = ps.length + n)
    (der : ∀ (cdv : Value) (A : Around) (outer : List Env) (s : Shared) (H : Hp) (E : XK), Room k (A.deeper (envOfC qual (defScope st) s.heap.objs.size f cdv)) → L2N.Takes (cxOf (L2N.CX P w) P w K mg base N qual (defScope st) f cdv A outer s H E) (fun c d _ H => E c d H) →
      PSs (cxOf (L2N.CX P w) P w K mg base N qual (defScope st) f cdv A outer s H E) (defBody st) (tS K C (fun c d _ H => E c d H) body)) :
    FnOk P w K mg base (L2N.CX P w) (k + 1) f fd ps (spA K C (cwOfA ps.length n body)) := by
  obtain ⟨oc, od, kV, doc, pm, an, cdv, ct, osl, rfl, lk, hcd⟩ := F.ex
  exact fn_of lk hcd S (fun vs H Q E h => spA_len h) fun A outer s H vs Q E hr h => ⟨_, der cdv A outer s H E hr (L2N.takes_of rfl rfl rfl rfl), w_enterA hn h⟩
/-- f(..) as a statement -/
def wDoA (cw : CWA) (w : WA) : WS := fun Z sl rt => w ⟨sl, Z.ex⟩ rt fun xs rt1 => cw xs rt1 fun rt2 => Z.nx sl rt2
theorem ws_doA {cw : CWA} {w : WA} (h : PE X e (tCallS (spA K C cw) (fun σ cls d H => U cls d σ H) (tA K C U w))) (hs : swapsWith e none pos.line X.env = pure false := by rfl) : PS X (.Expr e pos) (tS K C U (wDoA cw w)) := ps_imp (ps_expr h hs) fun D σ H ⟨Z, sl, rt, ρ, fps, G, s, w, f⟩ =>
  ⟨⟨sl, Z.ex⟩, rt, ρ, fps, G, _, s, f.xf, w, fun xs rt1 fps1 G1 H1 vs r1 n1 v1 w1 => ⟨G1, ρ, fps1, xs, rt1, _, r1, v1, w1, fun rt' ρ' fps' G' H' r' n' p' k => f.nx sl rt' σ ρ' fps' G' H' (s.step r' (n1.trans n') p') (n1.trans n') p' k⟩⟩
/-! ### not in a tuple of data -/
theorem op_ninT (hu : X.A.units + 64 < cLine) : OpR X (compareOp .NotIn) (rInT X.K true) := by
  intro pins s σ H x y v u Q I rx ry h
  obtain ⟨d, ds, hd, he, sd, dep, se, q⟩ := h
  obtain ⟨as, r1⟩ := Dp.reads I d x v hd rx
  obtain ⟨bs, r2⟩ := Dp.reads I (.tuple ds) y u he ry
  exact SeqAt.notIn_tuple_reads r2 r1 (SeqAt.canLay_of_shaped se) (SeqAt.canLay_of_shaped sd) (by omega) ⟨.bl _, H, I, rfl, q⟩
def sNinT : Sem2 := fun x y _ k => match x, y with
  | .dat d, .dat (.tup ds) => ∃ px ps, d.py = some px ∧ D.pys ds = some ps ∧ SeqAt.shaped px = true ∧ px.depth ≤ 32 ∧ SeqAt.shaped (.tuple ps) = true ∧ k (.bool (!(ps.any fun z => PyData.eqv z px)))
  | _, _ => False
theorem s_ninT : S2 K C sNinT (rInT K true) := fun rt ρ fps G H x y v u s a b k Q w q => by
  unfold sNinT at w
  split at w
  · obtain ⟨px, ps, h1, h2, h3, h5, h4, w⟩ := w
    exact ⟨px, ps, DR.py s.sub _ _ _ a h1, DR.py s.sub _ _ _ b (by simp [D.py, h2]), h3, h5, h4, q _ _ w (.bool _)⟩
  · exact w.elim
/-! ### repr of data -/
def rRepr (K : PySem.W.Frag) : List V → Hp → VK → Prop := fun xs H Q => ∃ v d, xs = [v] ∧ Dp K H v d ∧ ((∃ a, v = .ref a) ∨ v = .non) ∧ d.showable = true ∧ d.hasDict = false ∧ d.depth ≤ 60 ∧ d.shown.length ≤ sizeLine ∧ Q (.str d.shown) H
theorem cr_repr (hG : X.A.guards = some []) (hu : X.A.units + 64 < cLine) : CallR X (.builtin "repr") (rRepr X.K) := by
  intro pins s σ H xs us Q I r h
  obtain ⟨v, d, rfl, hd, hv, h1, h2, h3, h4, q⟩ := h
  cases r with
  | cons r0 rr =>
    cases rr
    rcases hv with ⟨a, rfl⟩ | rfl
    · obtain rfl : _ = Value.ref a := r0
      obtain ⟨as, rd⟩ := Dp.reads I d (.ref a) (Value.ref a) hd rfl
      exact repr_of_reads' rd h1 (fun z => by rw [h2] at z; cases z) hG (by omega) (fun _ _ e => e) (fun h' u tk hk => ⟨.str d.shown, H, Inv.kept I hk, ⟨u, rfl⟩, q⟩) h4
    · obtain rfl : _ = Value.none := r0
      cases hd
      exact PySem.P.repr_of_none ⟨.str _, H, Inv.kept I fun _ _ e => e, ⟨_, rfl⟩, q⟩
def fRepr : SemA := fun xs rt k => match xs with
  | [x] => ∃ d, valPy x rt = some d ∧ (match d with | .none => True | .list _ => True | .tuple _ => True | _ => False) ∧ d.showable = true ∧ d.hasDict = false ∧ d.depth ≤ 60 ∧ d.shown.length ≤ sizeLine ∧ k (.str d.shown)
  | _ => False
theorem sa_repr : SA K C fRepr (rRepr K) := fun rt ρ fps G H xs vs s v k Q w q => by
  unfold fRepr at w
  split at w
  · obtain ⟨d, h1, h2, h3, h4, h5, h6, w⟩ := w
    cases v with
    | cons h r =>
      cases r
      have hd := s.valPy h1 h
      refine ⟨_, d, rfl, hd, ?_, h3, h4, h5, h6, q _ _ w (.str _)⟩
      cases hd with
      | non => exact .inr rfl
      | lst _ _ => exact .inl ⟨_, rfl⟩
      | tup _ _ => exact .inl ⟨_, rfl⟩
      | bl _ => exact h2.elim
      | int _ => exact h2.elim
      | str _ => exact h2.elim
  · exact w.elim
end
end Wv
end

section
set_option Elab.async false
set_option linter.all false
set_option maxRecDepth 100000
set_option maxHeartbeats 4000000
namespace Wv
open PySem PySem.Spec PyProof.Rows L2 Evl
/-! ### a def that is called where no guard stands (repr) -/
structure FnG (P : Program) (w : World) (K : PySem.W.Frag) (mg : Str → Option Value) (base : Heap) (k : Nat) (f : Addr) (fd : FuncData) (ps : List Str) (sp : Sp) : Prop where
  len : ∀ vs H Q E, sp vs H Q E → vs.length = ps.length
  run : ∀ (A : Around) (outer : List Env) (s : Shared) (H : Hp) (args : Args) (us : List Value) (vs : List V) (Q : VK) (E : XK), Room k A → A.guards = some [] → Env0 P w K mg base A outer s H → BindsTo s fd args (ps.zip us) → Vals vs us → sp vs H Q E →
    codeAny (model P w) A (Code.call (Value.ref f) args) (CR CX0 outer P w H s Q E) s
theorem fnG_of {P : Program} {w : World} {K : PySem.W.Frag} {mg : Str → Option Value} {base : Heap} {k : Nat} {f : Addr} {name qual : Str} {params : Arguments} {body : List Stmt} {scope : Scope} {dV kV doc pm cdv ct oc : Value} {an od : Option Addr} {osl : Array (Option Value)} {N ps : List Str} {sp : Sp}
    (lk : List.lookup f K = some { cls := oc, dict := od, data := Data.func (PySem.W.fnOf name qual params body scope dV kV doc pm an cdv ct), slots := osl }) (hcd : PySem.W.codeIn K cdv qual = true) (S : FnScope N ps scope) (len : ∀ vs H Q E, sp vs H Q E → vs.length = ps.length)
    (hbody : ∀ (A : Around) (outer : List Env) (s : Shared) (H : Hp) (vs : List V) (Q : VK) (E : XK), A.guards = some [] → Room k (A.deeper (PyProof.Rows.envOfC qual scope s.heap.objs.size f cdv)) → sp vs H Q E →
      ∃ t, PSs (cxOf CX0 P w K mg base N qual scope f cdv A outer s H E) body t ∧ t { nx := fun x H' => Q V.non H', rt := Q } (L2.start N vs) H) :
    FnG P w K mg base (k + 1) f (PySem.W.fnOf name qual params body scope dV kV doc pm an cdv ct) ps sp := by
  refine ⟨len, fun A outer s H args us vs Q E hr hG e0 hb r hsp => ?_⟩
  have hl := len vs H Q E hsp
  have KX := PySem.W.Frag.In.keeps e0.mod.kin fun b o e => (e0.bs b o e).1
  have lim := Heap.NoLimit.keeps e0.mod.nolimit fun b o e => (e0.bs b o e).1
  have hkind : ∀ x : Str × Value, x ∈ ps.zip us → List.lookup x.fst scope.names = some NameKind.local ∨ List.lookup x.fst scope.names = some NameKind.cell ∧ (List.lookup x.fst (cellsFrom (s.heap.objs.size + 1) scope.names [])).isSome = true := fun x hy => by
    obtain ⟨n, v⟩ := x
    rcases S.par n (List.of_mem_zip hy).1 with q | q
    · exact .inl q
    · exact .inr ⟨q, PySem.W.cellsFrom_some scope.names (s.heap.objs.size + 1) [] (.inl q)⟩
  refine codeAny_call_function (Room.depth hr) (KX f _ lk) rfl S.co S.gen rfl (PySem.W.codeRec_of KX hcd) (hb (model P w) A.in1 _ _ (wpAny_newFunctionEnv_cells S.kind hkind fun env he s1 x => ?_))
  subst he
  refine ⟨Heap.NoLimit.keeps lim x.toInCall.keep, codeAny_func ?_⟩
  obtain ⟨t, ht, hq⟩ := hbody A outer s H vs Q E hG (hr.deeper _) hsp
  have I : L2.Inv (cxOf CX0 P w K mg base N qual scope f cdv A outer s H E) [] (L2.start N vs) H s1 := inv_start (CX := CX0) (E := E) S hr.hd e0 hl r x
  refine wpAny_mono (ht.run [] s1 (L2.start N vs) H { nx := fun x H' => Q V.non H', rt := Q } I hq) (fun fl s' hs => ?_) fun e s' hs => hs
  cases fl with
  | ret u =>
    obtain ⟨v, σ', H', J, rv, q⟩ := hs
    exact ⟨v, H', J.os, J.bare, J.base, J.hok, rv, q⟩
  | _ =>
    first
    | (obtain ⟨_, _, _, q⟩ := hs; exact q.elim)
    | (obtain ⟨σ', H', J, q⟩ := hs; exact ⟨V.non, H', J.os, J.bare, J.base, J.hok, rfl, q⟩)
section
variable {K : PySem.W.Frag} {C : Cs}
theorem ok_W0G {P : Program} {w : World} {mg : Str → Option Value} {base : Heap} {x qual : Str} {st : Stmt} {f : Addr} {fd : FuncData} {N ps : List Str} {k n : Nat} {body : WS}
    (F : Fun K x qual st f fd) (S : FnScope N ps (defScope st)) (hn : N.length = ps.length + n)
    (der : ∀ (cdv : Value) (A : Around) (outer : List Env) (s : Shared) (H : Hp) (E : XK), A.guards = some [] → Room k (A.deeper (envOfC qual (defScope st) s.heap.objs.size f cdv)) → L2N.Takes (cxOf CX0 P w K mg base N qual (defScope st) f cdv A outer s H E).nox (fun _ _ _ _ => False) →
      PSs (cxOf CX0 P w K mg base N qual (defScope st) f cdv A outer s H E).nox (defBody st) (tS K C (fun _ _ _ _ => False) body)) :
    FnG P w K mg base (k + 1) f fd ps (fun vs H Q _ => spW K C (cwOf ps.length n body) vs H Q fun _ _ _ => False) := by
  obtain ⟨oc, od, kV, doc, pm, an, cdv, ct, osl, rfl, lk, hcd⟩ := F.ex
  refine fnG_of lk hcd S (fun vs H Q E h => spW_len h) fun A outer s H vs Q E hG hr h => ?_
  refine ⟨_, PSs.nox (der cdv A outer s H E hG hr (fun u s' x => ?_)), w_enter hn h⟩
  obtain ⟨_, _, _, _, _, _, _, _, _, _, _, _, _, _, _, _, z⟩ := x
  exact z.elim
end
end Wv
end

section
set_option Elab.async false
set_option linter.all false
set_option maxRecDepth 100000
set_option maxHeartbeats 4000000
namespace Wv
open PySem PySem.Spec PyProof.Rows L2 Evl
/-! ### the law's call where its promise stands at no guard -/
theorem script_heap {P : Program} {w : World} {K : PySem.W.Frag} {h : Heap} {a : Addr} {vs : List Value} {ns : List Int} (KX : K.In h)
    (ha : h.get? a = some { cls := .type "list", data := .seq vs.toArray }) (hi : IntsAre vs ns) (hl : ns.length ≤ sizeLine) :
    ∃ H : Hp, (∀ b u, H b = some u → b = a ∧ K.lookup a = none ∧ ∃ o xs, u = .frz o (.lst xs)) ∧ SqL K H a (ns.map V.int) ∧ HOk P w H h := by
  have rel := vals_ints hi
  cases q : K.lookup a with
  | none =>
    refine ⟨fun b => if b = a then some (.frz { cls := .type "list", data := .seq vs.toArray } (.lst (ns.map V.int))) else none, fun b u e => ?_, .inl (.inr ⟨_, if_pos rfl⟩), fun b u e => ?_⟩
    · have e : (if b = a then some (HO.frz { cls := .type "list", data := .seq vs.toArray } (.lst (ns.map V.int))) else none) = some u := e
      split at e
      · rename_i z
        exact ⟨z, rfl, _, _, (Option.some.inj e).symm⟩
      · cases e
    · by_cases z : b = a
      · subst z
        have y := (if_pos rfl).symm.trans e
        cases Option.some.inj y
        exact ⟨ha, by rw [List.length_map]; exact hl, vs, _, rel, ha⟩
      · exact nomatch (if_neg z).symm.trans e
  | some o =>
    have e := KX a o q
    rw [ha] at e
    cases e
    exact ⟨fun _ => none, (fun b u e => by cases (show (none : Option HO) = some u from e)), .inr ⟨_, vs.toArray, _, q, rfl, rfl, rfl, by rw [List.size_toArray, hi.length]; exact hl, by simpa using rel⟩, (fun b u e => by cases (show (none : Option HO) = some u from e))⟩
theorem law_callG {P : Program} {w : World} {K : PySem.W.Frag} {mg mb : Str → Option Value} {k : Nat} {fa a : Addr} {fd : FuncData} {x : Str} {sp : Sp} {s : Shared} {vs : List Value} {ns : List Int}
    (KX : K.In s.heap) (n1 : s.heap.Ns mainGlobals mg) (n2 : s.heap.Ns builtinsNs mb) (n3 : ∀ y : Str, y ≠ "__name__" → mb y = bootBuiltins y) (n4 : s.heap.NoLimit) (ng : s.gens = #[])
    (ha : s.heap.get? a = some { cls := .type "list", data := .seq vs.toArray }) (hi : IntsAre vs ns) (hl : ns.length ≤ sizeLine) (hr : Room k callerA)
    (F : ∀ base : Heap, K.In base → base.Ns mainGlobals mg → FnG P w K mg base k fa fd [x] sp) (bi : ∀ (t : Shared) (u : Value), BindsTo t fd ⟨[u], []⟩ [(x, u)])
    (want : ∀ H : Hp, SqL K H a (ns.map V.int) → sp [.ref a] H (fun v _ => v = .bl true) fun _ _ _ => False) :
    codeAny (model P w) callerA (.call (.ref fa) ⟨[.ref a], []⟩) (fun r t => r = .ok (.ret (.bool true)) ∧ OldK s.heap t.heap ∧ t.os = s.os ∧ AllBare t.gens) s := by
  obtain ⟨H, only, sq, hok⟩ := script_heap (P := P) (w := w) KX ha hi hl
  -- what is not the script is not told by H
  have free : ∀ {b : Addr} {o : Obj}, s.heap.get? b = some o → (b = a → K.lookup a ≠ none ∨ ∃ es ep, o.data = .dict es ep) → (hidT s.heap H).get? b = some o := fun {b o} e d => by
    refine hidT_get e ?_
    cases q : H b with
    | none => rfl
    | some u =>
      obtain ⟨z, z2, _⟩ := only b u q
      rcases d z with y | ⟨es, ep, y⟩
      · exact absurd z2 y
      · rw [z, ha] at e
        cases e
        cases y
  have names : ∀ {b : Addr} {m : Str → Option Value}, s.heap.Ns b m → (hidT s.heap H).Ns b m := fun {b m} h => by
    obtain ⟨o, es, ep, e, d, r⟩ := h
    exact ⟨o, es, ep, free e fun _ => .inr ⟨es, ep, d⟩, d, r⟩
  have kin : K.In (hidT s.heap H) := fun b o e => free (KX b o e) fun z => .inl (by rw [← z, e]; exact fun y => nomatch y)
  obtain ⟨mc, l1, l2⟩ := n4
  have env : Env0 P w K mg (hidT s.heap H) callerA [] s H :=
    ⟨rfl, ⟨kin, names n1, ⟨mb, names n2, n3⟩, mc, names l1, l2⟩, fun b o e => of_hidT e, Nat.le_of_eq (hidT_size _ _), trivial, fun b z => (List.not_mem_nil z).elim, hok, .of_eq ng⟩
  have run := (F _ kin (names n1)).run callerA [] s H ⟨[.ref a], []⟩ [.ref a] [.ref a] _ _ hr rfl env (bi s (.ref a)) (.cons rfl .nil) (want H sq)
  refine codeAny_mono run fun r t z => ?_
  match r, z with
  | .ok (.ret u), ⟨v, H', os, bare, un, hok', rel, q⟩ =>
    have q : v = .bl true := q
    subst q
    obtain rfl : u = Value.bool true := rel
    refine ⟨rfl, OldK.of_keep fun b o e => ?_, os, bare⟩
    cases y : H b with
    | none => exact un.keep b o e y (fun z => (List.not_mem_nil z).elim) (by simp)
    | some g =>
      obtain ⟨_, _, o2, xs, rfl⟩ := only b g y
      have y2 := un.frzs b o2 _ y
      obtain ⟨e1, _⟩ := hok b _ y
      obtain ⟨e2, _⟩ := hok' b _ y2
      rw [e] at e1
      cases e1
      exact e2
theorem walk_ofG {l : PySem.W.OpenLaw} {n k : Nat} {q : Program} {loose : List Str} {XP : (Str → Option Value) → Heap → Prop} {YP : World → Heap → Prop} {d : DefRec} {K : Params → PySem.W.Frag} {sp : World → Sp} {x : Str}
    (m1 : l.most = some n) (m2 : n ≤ sizeLine) (nodef : d.params.defaults = []) (hr : Room k callerA)
    (hY : ∀ (w : World) (h : Heap), YP w h → (K w.params).In h)
    (F : ∀ (w : World) (mg : Str → Option Value) (fa : Addr) (h : Heap), (K w.params).In h → h.Ns mainGlobals mg → mg d.name = some (.ref fa) →
      ∃ fd : FuncData, (∀ (t : Shared) (u : Value), BindsTo t fd ⟨[u], []⟩ [(x, u)]) ∧ ∀ base : Heap, (K w.params).In base → base.Ns mainGlobals mg → FnG l.prog w (K w.params) mg base k fa fd [x] (sp w))
    (want : ∀ (w : World) (H : Hp) (a : Addr) (ns : List Int), ns.length ≤ n → SqL (K w.params) H a (ns.map V.int) → sp w [.ref a] H (fun v _ => v = .bl true) fun _ _ _ => False) :
    PySem.W.WalkO q loose XP YP l.row.toRowW d [] (fun f vs => PySem.call f vs) := by
  refine Att.attach_call m1 nodef fun w _ s mg mb fa _ _ _ _ a vs ns G Y _ _ _ hmg hobj hints hlen hg => ?_
  obtain ⟨fd, bi, hF⟩ := F w mg fa _ (hY w _ Y) G.T.g hmg
  exact law_callG (hY w _ Y) G.T.g G.T.b G.T.builtins G.T.nolimit hg hobj hints (Nat.le_trans hlen m2) hr hF bi fun H sq => want w H a ns hlen sq
theorem FnG.weak {P : Program} {w : World} {K : PySem.W.Frag} {mg : Str → Option Value} {base : Heap} {k : Nat} {f : Addr} {fd : FuncData} {ps : List Str} {sp sp2 : Sp} (h : FnG P w K mg base k f fd ps sp) (i : ∀ vs H Q E, sp2 vs H Q E → sp vs H Q E) : FnG P w K mg base k f fd ps sp2 where
  len vs H Q E z := h.len vs H Q E (i vs H Q E z)
  run A outer s H args us vs Q E hr hG he hb hv z := h.run A outer s H args us vs Q E hr hG he hb hv (i vs H Q E z)
end Wv
end

section
set_option Elab.async false
set_option linter.all false
set_option maxRecDepth 100000
set_option maxHeartbeats 4000000
namespace K31
open PySem PySem.Spec PyProof.Rows L2 Evl Wv
def topS (i : Nat) : Stmt := PySem.Challenge.pw_merestone_k31_judged_configurations.main.body.getD i (.Pass ⟨0, 0, 0, 0⟩)
structure DefAt (K : PySem.W.Frag) (mg : Str → Option Value) (x : Str) (st : Stmt) (f : Addr) (fd : FuncData) (ps : List Str) : Prop where
  F : Fun K x x st f fd
  g : mg x = some (.ref f)
  b : Binds K fd ps []
structure MethAt (K : PySem.W.Frag) (x q : Str) (st : Stmt) (f : Addr) (fd : FuncData) (ps : List Str) : Prop where
  F : Fun K x q st f fd
  b : Binds K fd ps []
def tbFITTING : Str → Option D := fun z => List.lookup z [("partition", .fn 0), ("frame", .fn 1), ("channel", .fn 2), ("share", .fn 3), ("device", .fn 4), ("flow", .fn 3), ("pages", .fn 5)]
def fld_image : Nat → Option Nat := fun c => match c with
  | 0 => some 0
  | _ => none
def fld_pages : Nat → Option Nat := fun c => match c with
  | 0 => some 1
  | _ => none
def fld_start : Nat → Option Nat := fun c => match c with
  | 0 => some 2
  | _ => none
def fld_partitions : Nat → Option Nat := fun c => match c with
  | 1 => some 0
  | _ => none
def fld_frames : Nat → Option Nat := fun c => match c with
  | 1 => some 1
  | _ => none
def fld_channels : Nat → Option Nat := fun c => match c with
  | 1 => some 2
  | _ => none
def fld_shares : Nat → Option Nat := fun c => match c with
  | 1 => some 3
  | _ => none
def fld_devices : Nat → Option Nat := fun c => match c with
  | 1 => some 4
  | _ => none
def fld_flows : Nat → Option Nat := fun c => match c with
  | 1 => some 5
  | _ => none
abbrev sPartitionInit : Stmt := inClass (topS 6) 0
abbrev NPartitionInit : List Str := ["self", "image", "pages", "start"]
abbrev PPartitionInit : List Str := ["self", "image", "pages", "start"]
theorem scPartitionInit : FnScope NPartitionInit PPartitionInit (defScope sPartitionInit) := ⟨rfl, rfl, rfl, by decide +kernel, rfl, by decide +kernel, by decide +kernel⟩
def wdPartitionInit : WS :=
(wSeq (wSetF fld_image (wLift (wTupOf (wCons (wVar 1) wNil))) (wVar 0))
(wSeq (wSetF fld_pages (wLift (wVar 2)) (wVar 0))
(wSetF fld_start (wLift (wVar 3)) (wVar 0))))
@[irreducible] def cPartitionInit : CW := cwOf 4 0 wdPartitionInit

abbrev sPartitionFields : Stmt := inClass (topS 6) 1
abbrev NPartitionFields : List Str := ["self"]
abbrev PPartitionFields : List Str := ["self"]
theorem scPartitionFields : FnScope NPartitionFields PPartitionFields (defScope sPartitionFields) := ⟨rfl, rfl, rfl, by decide +kernel, rfl, by decide +kernel, by decide +kernel⟩
def wdPartitionFields : WS :=
(wRet (wTup (wCons (wFld fld_image (wVar 0)) (wCons (wFld fld_pages (wVar 0)) (wCons (wFld fld_start (wVar 0)) wNil)))))
@[irreducible] def cPartitionFields : CW := cwOf 1 0 wdPartitionFields

abbrev sConfigInit : Stmt := inClass (topS 7) 0
abbrev NConfigInit : List Str := ["self", "partitions", "frames", "channels", "shares", "devices", "flows"]
abbrev PConfigInit : List Str := ["self", "partitions", "frames", "channels", "shares", "devices", "flows"]
theorem scConfigInit : FnScope NConfigInit PConfigInit (defScope sConfigInit) := ⟨rfl, rfl, rfl, by decide +kernel, rfl, by decide +kernel, by decide +kernel⟩
def wdConfigInit : WS :=
(wSeq (wSetF fld_partitions (wLift (wTupOf (wCons (wVar 1) wNil))) (wVar 0))
(wSeq (wSetF fld_frames (wLift (wTupOf (wCons (wVar 2) wNil))) (wVar 0))
(wSeq (wSetF fld_channels (wLift (wTupOf (wCons (wVar 3) wNil))) (wVar 0))
(wSeq (wSetF fld_shares (wLift (wTupOf (wCons (wVar 4) wNil))) (wVar 0))
(wSeq (wSetF fld_devices (wLift (wTupOf (wCons (wVar 5) wNil))) (wVar 0))
(wSetF fld_flows (wLift (wTupOf (wCons (wVar 6) wNil))) (wVar 0)))))))
@[irreducible] def cConfigInit : CW := cwOf 7 0 wdConfigInit

abbrev sConfigFields : Stmt := inClass (topS 7) 1
abbrev NConfigFields : List Str := ["self"]
abbrev PConfigFields : List Str := ["self"]
theorem scConfigFields : FnScope NConfigFields PConfigFields (defScope sConfigFields) := ⟨rfl, rfl, rfl, by decide +kernel, rfl, by decide +kernel, by decide +kernel⟩
def wdConfigFields : WS :=
(wRet (wTup (wCons (wFld fld_partitions (wVar 0)) (wCons (wFld fld_frames (wVar 0)) (wCons (wFld fld_channels (wVar 0)) (wCons (wFld fld_shares (wVar 0)) (wCons (wFld fld_devices (wVar 0)) (wCons (wFld fld_flows (wVar 0)) wNil))))))))
@[irreducible] def cConfigFields : CW := cwOf 1 0 wdConfigFields

abbrev sShareRights : Stmt := topS 8
abbrev NShareRights : List Str := ["share", "p", "writer", "reader"]
abbrev PShareRights : List Str := ["share", "p"]
theorem scShareRights : FnScope NShareRights PShareRights (defScope sShareRights) := ⟨rfl, rfl, rfl, by decide +kernel, rfl, by decide +kernel, by decide +kernel⟩
def wdShareRights : WS :=
(wSeq (wAsgT (tgTup [2, 3]) (wVar 0))
(wSeq (wIf (wB (wBin (sEq false) (wVar 1) (wVar 2)))
(wRet (wAdd (wC (.int 1)) (wC (.int 2))))
wNext)
(wSeq (wIf (wB (wBin (sEq false) (wVar 1) (wVar 3)))
(wRet (wC (.int 1)))
wNext)
(wRet (wC (.int 0))))))
@[irreducible] def cShareRights : CW := cwOf 2 2 wdShareRights

abbrev sPageMap : Stmt := topS 9
abbrev NPageMap : List Str := ["config", "p", "found", "index", "share", "rights", "owner"]
abbrev PPageMap : List Str := ["config", "p"]
theorem scPageMap : FnScope NPageMap PPageMap (defScope sPageMap) := ⟨rfl, rfl, rfl, by decide +kernel, rfl, by decide +kernel, by decide +kernel⟩
def wdPageMap : WS :=
(wSeq (wNew 2 (wLc (wRng1 (wCons (wFld fld_pages (wIdx (wFld fld_partitions (wVar 0)) (wVar 1))) wNil)) (tgName 3) [3] wYes (wLift (wTup (wCons (wC (.str "own")) (wCons (wVar 3) (wCons (wAdd (wAdd (wC (.int 1)) (wC (.int 2))) (wC (.int 4))) wNil)))))))
(wCut (wFor (wEnumT (wCons (wFld fld_shares (wVar 0)) wNil)) (tgTup [3, 4])
(wSeq (wAsg 5 (wFrz (wCall cShareRights (wCons (wVar 4) (wCons (wVar 1) wNil)))))
(wIf (wB (wBin sGt (wVar 5) (wC (.int 0))))
(wApp (wVar 2) (wLift (wTup (wCons (wC (.str "share")) (wCons (wVar 3) (wCons (wVar 5) wNil))))))
wNext)))
(wCut (wFor (wEnumT (wCons (wFld fld_devices (wVar 0)) wNil)) (tgTup [3, 6])
(wIf (wB (wBin (sEq false) (wVar 6) (wVar 1)))
(wApp (wVar 2) (wLift (wTup (wCons (wC (.str "device")) (wCons (wVar 3) (wCons (wC (.int 1)) wNil))))))
wNext))
(wRet (wVar 2)))))
@[irreducible] def cPageMap : CW := cwOf 2 5 wdPageMap

abbrev sMayFlow : Stmt := topS 10
abbrev NMayFlow : List Str := ["config", "source", "target"]
abbrev PMayFlow : List Str := ["config", "source", "target"]
theorem scMayFlow : FnScope NMayFlow PMayFlow (defScope sMayFlow) := ⟨rfl, rfl, rfl, by decide +kernel, rfl, by decide +kernel, by decide +kernel⟩
def wdMayFlow : WS :=
(wRet (wOrV (wBin (sEq false) (wVar 1) (wVar 2)) (wBin sInT (wTup (wCons (wVar 1) (wCons (wVar 2) wNil))) (wFld fld_flows (wVar 0)))))
@[irreducible] def cMayFlow : CW := cwOf 3 0 wdMayFlow

abbrev sIsWord : Stmt := topS 13
abbrev NIsWord : List Str := ["number"]
abbrev PIsWord : List Str := ["number"]
theorem scIsWord : FnScope NIsWord PIsWord (defScope sIsWord) := ⟨rfl, rfl, rfl, by decide +kernel, rfl, by decide +kernel, by decide +kernel⟩
def wdIsWord : WS :=
(wRet (wChain sLe sLt (wC (.int 0)) (wVar 0) (wC (.int 65536))))
@[irreducible] def cIsWord : CW := cwOf 1 0 wdIsWord

abbrev sIsInteger : Stmt := topS 15
abbrev NIsInteger : List Str := ["value"]
abbrev PIsInteger : List Str := ["value"]
theorem scIsInteger : FnScope NIsInteger PIsInteger (defScope sIsInteger) := ⟨rfl, rfl, rfl, by decide +kernel, rfl, by decide +kernel, by decide +kernel⟩
def wdIsInteger : WS :=
(wRet (wAndV (wIsT "int" (wVar 0)) (wNot (wIsT "bool" (wVar 0)))))
@[irreducible] def cIsInteger : CW := cwOf 1 0 wdIsInteger

abbrev sIsWithin : Stmt := topS 16
abbrev NIsWithin : List Str := ["value", "least", "greatest"]
abbrev PIsWithin : List Str := ["value", "least", "greatest"]
theorem scIsWithin : FnScope NIsWithin PIsWithin (defScope sIsWithin) := ⟨rfl, rfl, rfl, by decide +kernel, rfl, by decide +kernel, by decide +kernel⟩
def wdIsWithin : WS :=
(wRet (wAndV (wFrz (wCall cIsInteger (wCons (wVar 0) wNil))) (wChain sLe sLe (wVar 1) (wVar 0) (wVar 2))))
@[irreducible] def cIsWithin : CW := cwOf 3 0 wdIsWithin

abbrev sIsTupleOf : Stmt := topS 17
abbrev NIsTupleOf : List Str := ["value", "size"]
abbrev PIsTupleOf : List Str := ["value", "size"]
theorem scIsTupleOf : FnScope NIsTupleOf PIsTupleOf (defScope sIsTupleOf) := ⟨rfl, rfl, rfl, by decide +kernel, rfl, by decide +kernel, by decide +kernel⟩
def wdIsTupleOf : WS :=
(wRet (wAndV (wIsT "tuple" (wVar 0)) (wBin (sEq false) (wCB fLen (wCons (wVar 0) wNil)) (wVar 1))))
@[irreducible] def cIsTupleOf : CW := cwOf 2 0 wdIsTupleOf

abbrev sIsPartition : Stmt := topS 18
abbrev NIsPartition : List Str := ["config", "value"]
abbrev PIsPartition : List Str := ["config", "value"]
theorem scIsPartition : FnScope NIsPartition PIsPartition (defScope sIsPartition) := ⟨rfl, rfl, rfl, by decide +kernel, rfl, by decide +kernel, by decide +kernel⟩
def wdIsPartition : WS :=
(wRetO (wCall cIsWithin (wCons (wVar 1) (wCons (wC (.int 0)) (wCons (wSub (wCB fLen (wCons (wFld fld_partitions (wVar 0)) wNil)) (wC (.int 1))) wNil)))))
@[irreducible] def cIsPartition : CW := cwOf 2 0 wdIsPartition

abbrev sAreDifferent : Stmt := topS 19
abbrev NAreDifferent : List Str := ["config", "first", "second"]
abbrev PAreDifferent : List Str := ["config", "first", "second"]
theorem scAreDifferent : FnScope NAreDifferent PAreDifferent (defScope sAreDifferent) := ⟨rfl, rfl, rfl, by decide +kernel, rfl, by decide +kernel, by decide +kernel⟩
def wdAreDifferent : WS :=
(wRet (wAndV (wFrz (wCall cIsPartition (wCons (wVar 0) (wCons (wVar 1) wNil)))) (wAndV (wFrz (wCall cIsPartition (wCons (wVar 0) (wCons (wVar 2) wNil)))) (wBin (sEq true) (wVar 1) (wVar 2)))))
@[irreducible] def cAreDifferent : CW := cwOf 3 0 wdAreDifferent

abbrev sCountFault : Stmt := topS 20
abbrev NCountFault : List Str := ["config", "rows", "kind", "number", "least", "greatest"]
abbrev PCountFault : List Str := ["config"]
theorem scCountFault : FnScope NCountFault PCountFault (defScope sCountFault) := ⟨rfl, rfl, rfl, by decide +kernel, rfl, by decide +kernel, by decide +kernel⟩
def wdCountFault : WS :=
(wSeq (wAsg 1 (wTup (wCons (wTup (wCons (wC (.str "partitions")) (wCons (wCB fLen (wCons (wFld fld_partitions (wVar 0)) wNil)) (wCons (wC (.int 1)) (wCons (wC (.int 8)) wNil))))) (wCons (wTup (wCons (wC (.str "frames")) (wCons (wCB fLen (wCons (wFld fld_frames (wVar 0)) wNil)) (wCons (wC (.int 1)) (wCons (wC (.int 16)) wNil))))) (wCons (wTup (wCons (wC (.str "channels")) (wCons (wCB fLen (wCons (wFld fld_channels (wVar 0)) wNil)) (wCons (wC (.int 0)) (wCons (wC (.int 12)) wNil))))) (wCons (wTup (wCons (wC (.str "shares")) (wCons (wCB fLen (wCons (wFld fld_shares (wVar 0)) wNil)) (wCons (wC (.int 0)) (wCons (wC (.int 6)) wNil))))) (wCons (wTup (wCons (wC (.str "devices")) (wCons (wCB fLen (wCons (wFld fld_devices (wVar 0)) wNil)) (wCons (wC (.int 0)) (wCons (wC (.int 6)) wNil))))) (wCons (wTup (wCons (wC (.str "flows")) (wCons (wCB fLen (wCons (wFld fld_flows (wVar 0)) wNil)) (wCons (wC (.int 0)) (wCons (wC (.int 64)) wNil))))) wNil))))))))
(wCut (wFor (wItT (wVar 1)) (tgTup [2, 3, 4, 5])
(wIf (wNotT (wB (wChain sLe sLe (wVar 4) (wVar 3) (wVar 5))))
(wRet (wTup (wCons (wVar 2) (wCons (wVar 3) wNil))))
wNext))
(wRet (wC .non))))
@[irreducible] def cCountFault : CW := cwOf 1 5 wdCountFault

abbrev sPartitionFits : Stmt := topS 21
abbrev NPartitionFits : List Str := ["config", "partition", "words", "word"]
abbrev PPartitionFits : List Str := ["config", "partition"]
theorem scPartitionFits : FnScope NPartitionFits PPartitionFits (defScope sPartitionFits) := ⟨rfl, rfl, rfl, by decide +kernel, rfl, by decide +kernel, by decide +kernel⟩
def wdPartitionFits : WS :=
(wSeq (wIf (wNotT (wB (wFrz (wCall cIsWithin (wCons (wFld fld_pages (wVar 1)) (wCons (wC (.int 1)) (wCons (wC (.int 8)) wNil)))))))
(wRet (wC (.bool false)))
wNext)
(wSeq (wAsg 2 (wMul (wFld fld_pages (wVar 1)) (wC (.int 16))))
(wSeq (wIf (wOrT (wB (wBin sGt (wCB fLen (wCons (wFld fld_image (wVar 1)) wNil)) (wVar 2))) (wNotT (wB (wFrz (wCall cIsWithin (wCons (wFld fld_start (wVar 1)) (wCons (wC (.int 0)) (wCons (wSub (wVar 2) (wC (.int 1))) wNil))))))))
(wRet (wC (.bool false)))
wNext)
(wRet (wCB fAll (wCons (wFrz (wLc (wItT (wFld fld_image (wVar 1))) (tgName 3) [3] wYes (wLift (wAndV (wFrz (wCall cIsInteger (wCons (wVar 3) wNil))) (wFrz (wCall cIsWord (wCons (wVar 3) wNil))))))) wNil))))))
@[irreducible] def cPartitionFits : CW := cwOf 2 2 wdPartitionFits

abbrev sFrameFits : Stmt := topS 22
abbrev NFrameFits : List Str := ["config", "frame", "p", "ticks"]
abbrev PFrameFits : List Str := ["config", "frame"]
theorem scFrameFits : FnScope NFrameFits PFrameFits (defScope sFrameFits) := ⟨rfl, rfl, rfl, by decide +kernel, rfl, by decide +kernel, by decide +kernel⟩
def wdFrameFits : WS :=
(wSeq (wIf (wNotT (wB (wFrz (wCall cIsTupleOf (wCons (wVar 1) (wCons (wC (.int 2)) wNil))))))
(wRet (wC (.bool false)))
wNext)
(wSeq (wAsgT (tgTup [2, 3]) (wVar 1))
(wRet (wAndV (wOrV (wBin (sIs false) (wVar 2) (wC .non)) (wFrz (wCall cIsPartition (wCons (wVar 0) (wCons (wVar 2) wNil))))) (wFrz (wCall cIsWithin (wCons (wVar 3) (wCons (wC (.int 128)) (wCons (wC (.int 4000)) wNil)))))))))
@[irreducible] def cFrameFits : CW := cwOf 2 2 wdFrameFits

abbrev sChannelFits : Stmt := topS 23
abbrev NChannelFits : List Str := ["config", "channel", "source", "target", "capacity", "told"]
abbrev PChannelFits : List Str := ["config", "channel"]
theorem scChannelFits : FnScope NChannelFits PChannelFits (defScope sChannelFits) := ⟨rfl, rfl, rfl, by decide +kernel, rfl, by decide +kernel, by decide +kernel⟩
def wdChannelFits : WS :=
(wSeq (wIf (wNotT (wB (wFrz (wCall cIsTupleOf (wCons (wVar 1) (wCons (wC (.int 4)) wNil))))))
(wRet (wC (.bool false)))
wNext)
(wSeq (wAsgT (tgTup [2, 3, 4, 5]) (wVar 1))
(wRet (wAndV (wFrz (wCall cAreDifferent (wCons (wVar 0) (wCons (wVar 2) (wCons (wVar 3) wNil))))) (wAndV (wFrz (wCall cIsWithin (wCons (wVar 4) (wCons (wC (.int 1)) (wCons (wC (.int 8)) wNil))))) (wIsT "bool" (wVar 5)))))))
@[irreducible] def cChannelFits : CW := cwOf 2 4 wdChannelFits

abbrev sPairFits : Stmt := topS 24
abbrev NPairFits : List Str := ["config", "pair"]
abbrev PPairFits : List Str := ["config", "pair"]
theorem scPairFits : FnScope NPairFits PPairFits (defScope sPairFits) := ⟨rfl, rfl, rfl, by decide +kernel, rfl, by decide +kernel, by decide +kernel⟩
def wdPairFits : WS :=
(wRet (wAndV (wFrz (wCall cIsTupleOf (wCons (wVar 1) (wCons (wC (.int 2)) wNil)))) (wFrz (wCall cAreDifferent (wCons (wVar 0) (wCons (wIdx (wVar 1) (wC (.int 0))) (wCons (wIdx (wVar 1) (wC (.int 1))) wNil)))))))
@[irreducible] def cPairFits : CW := cwOf 2 0 wdPairFits

abbrev sDeviceFits : Stmt := topS 25
abbrev NDeviceFits : List Str := ["config", "owner"]
abbrev PDeviceFits : List Str := ["config", "owner"]
theorem scDeviceFits : FnScope NDeviceFits PDeviceFits (defScope sDeviceFits) := ⟨rfl, rfl, rfl, by decide +kernel, rfl, by decide +kernel, by decide +kernel⟩
def wdDeviceFits : WS :=
(wRetO (wCall cIsPartition (wCons (wVar 0) (wCons (wVar 1) wNil))))
@[irreducible] def cDeviceFits : CW := cwOf 2 0 wdDeviceFits

abbrev sPagesFit : Stmt := topS 26
abbrev NPagesFit : List Str := ["config", "p"]
abbrev PPagesFit : List Str := ["config", "p"]
theorem scPagesFit : FnScope NPagesFit PPagesFit (defScope sPagesFit) := ⟨rfl, rfl, rfl, by decide +kernel, rfl, by decide +kernel, by decide +kernel⟩
def wdPagesFit : WS :=
(wRet (wBin sLe (wCB fLen (wCons (wFrz (wCall cPageMap (wCons (wVar 0) (wCons (wVar 1) wNil)))) wNil)) (wC (.int 8))))
@[irreducible] def cPagesFit : CW := cwOf 2 0 wdPagesFit

def ftFITTING : Nat → CW := fun j => match j with
  | 0 => cPartitionFits
  | 1 => cFrameFits
  | 2 => cChannelFits
  | 3 => cPairFits
  | 4 => cDeviceFits
  | 5 => cPagesFit
  | _ => cNever
abbrev sShapeFault : Stmt := topS 28
abbrev NShapeFault : List Str := ["config", "rows", "kind", "things", "fits", "index", "thing"]
abbrev PShapeFault : List Str := ["config"]
theorem scShapeFault : FnScope NShapeFault PShapeFault (defScope sShapeFault) := ⟨rfl, rfl, rfl, by decide +kernel, rfl, by decide +kernel, by decide +kernel⟩
def wdShapeFault : WS :=
(wSeq (wAsg 1 (wTup (wCons (wTup (wCons (wC (.str "partition")) (wCons (wFld fld_partitions (wVar 0)) wNil))) (wCons (wTup (wCons (wC (.str "frame")) (wCons (wFld fld_frames (wVar 0)) wNil))) (wCons (wTup (wCons (wC (.str "channel")) (wCons (wFld fld_channels (wVar 0)) wNil))) (wCons (wTup (wCons (wC (.str "share")) (wCons (wFld fld_shares (wVar 0)) wNil))) (wCons (wTup (wCons (wC (.str "device")) (wCons (wFld fld_devices (wVar 0)) wNil))) (wCons (wTup (wCons (wC (.str "flow")) (wCons (wFld fld_flows (wVar 0)) wNil))) (wCons (wTup (wCons (wC (.str "pages")) (wCons (wTupRng (wCB fLen (wCons (wFld fld_partitions (wVar 0)) wNil))) wNil))) wNil)))))))))
(wCut (wFor (wItT (wVar 1)) (tgTup [2, 3])
(wSeq (wAsg 4 (wKD tbFITTING (wVar 2)))
(wFor (wEnumT (wCons (wVar 3) wNil)) (tgTup [5, 6])
(wIf (wNotT (wB (wFrz (wCallF [0, 1, 2, 3, 4, 5] ftFITTING 4 (wCons (wVar 0) (wCons (wVar 6) wNil))))))
(wRet (wTup (wCons (wVar 2) (wCons (wVar 5) wNil))))
wNext))))
(wRet (wC .non))))
@[irreducible] def cShapeFault : CW := cwOf 1 6 wdShapeFault

abbrev sChannelFault : Stmt := topS 29
abbrev NChannelFault : List Str := ["config", "index", "source", "target", "_", "told"]
abbrev PChannelFault : List Str := ["config", "index"]
theorem scChannelFault : FnScope NChannelFault PChannelFault (defScope sChannelFault) := ⟨rfl, rfl, rfl, by decide +kernel, rfl, by decide +kernel, by decide +kernel⟩
def wdChannelFault : WS :=
(wSeq (wAsgT (tgTup [2, 3, 4, 5]) (wIdx (wFld fld_channels (wVar 0)) (wVar 1)))
(wSeq (wIf (wNotT (wB (wFrz (wCall cMayFlow (wCons (wVar 0) (wCons (wVar 2) (wCons (wVar 3) wNil)))))))
(wRet (wTup (wCons (wC (.str "sends")) (wCons (wVar 1) wNil))))
wNext)
(wSeq (wIf (wAndT (wB (wVar 5)) (wNotT (wB (wFrz (wCall cMayFlow (wCons (wVar 0) (wCons (wVar 3) (wCons (wVar 2) wNil))))))))
(wRet (wTup (wCons (wC (.str "tells")) (wCons (wVar 1) wNil))))
wNext)
(wRet (wC .non)))))
@[irreducible] def cChannelFault : CW := cwOf 2 4 wdChannelFault

abbrev sFlowFault : Stmt := topS 30
abbrev NFlowFault : List Str := ["config", "index", "fault", "writer", "reader"]
abbrev PFlowFault : List Str := ["config"]
theorem scFlowFault : FnScope NFlowFault PFlowFault (defScope sFlowFault) := ⟨rfl, rfl, rfl, by decide +kernel, rfl, by decide +kernel, by decide +kernel⟩
def wdFlowFault : WS :=
(wCut (wFor (wRng1 (wCons (wCB fLen (wCons (wFld fld_channels (wVar 0)) wNil)) wNil)) (tgName 1)
(wSeq (wAsg 2 (wFrz (wCall cChannelFault (wCons (wVar 0) (wCons (wVar 1) wNil)))))
(wIf (wB (wBin (sIs true) (wVar 2) (wC .non)))
(wRet (wVar 2))
wNext)))
(wCut (wFor (wEnumT (wCons (wFld fld_shares (wVar 0)) wNil)) (tgNest 1 [3, 4])
(wIf (wNotT (wB (wFrz (wCall cMayFlow (wCons (wVar 0) (wCons (wVar 3) (wCons (wVar 4) wNil)))))))
(wRet (wTup (wCons (wC (.str "shows")) (wCons (wVar 1) wNil))))
wNext))
(wRet (wC .non))))
@[irreducible] def cFlowFault : CW := cwOf 1 4 wdFlowFault

abbrev sJudge : Stmt := topS 31
abbrev NJudge : List Str := ["config", "fault"]
abbrev PJudge : List Str := ["config"]
theorem scJudge : FnScope NJudge PJudge (defScope sJudge) := ⟨rfl, rfl, rfl, by decide +kernel, rfl, by decide +kernel, by decide +kernel⟩
def wdJudge : WS :=
(wSeq (wAsg 1 (wFrz (wCall cCountFault (wCons (wVar 0) wNil))))
(wCut (wIf (wB (wBin (sIs false) (wVar 1) (wC .non)))
(wAsg 1 (wFrz (wCall cShapeFault (wCons (wVar 0) wNil))))
wNext)
(wCut (wIf (wB (wBin (sIs false) (wVar 1) (wC .non)))
(wAsg 1 (wFrz (wCall cFlowFault (wCons (wVar 0) wNil))))
wNext)
(wRet (wVar 1)))))
@[irreducible] def cJudge : CW := cwOf 1 1 wdJudge

abbrev sLawDraw : Stmt := topS 33
abbrev NLawDraw : List Str := ["state", "script", "size", "cell", "mixed", "digit"]
abbrev PLawDraw : List Str := ["state", "script", "size"]
theorem scLawDraw : FnScope NLawDraw PLawDraw (defScope sLawDraw) := ⟨rfl, rfl, rfl, by decide +kernel, rfl, by decide +kernel, by decide +kernel⟩
def wdLawDraw : WS :=
(wCut (wIf (wB (wBin (sEq false) (wIdx (wVar 0) (wC (.int 1))) (wC (.int 0))))
(wSeq (wAsg 3 (wC (.int 0)))
(wCut (wIf (wB (wBin sGt (wCB fLen (wCons (wVar 1) wNil)) (wC (.int 0))))
(wAsg 3 (wIdx (wVar 1) (wMod (wIdx (wVar 0) (wC (.int 0))) (wCB fLen (wCons (wVar 1) wNil)))))
wNext)
(wCut (wIf (wB (wBin sLt (wVar 3) (wC (.int 0))))
(wAsg 3 (wSub (wC (.int 1)) (wMul (wC (.int 2)) (wVar 3))))
wNext)
(wSeq (wAsg 4 (wMod (wCB fInt (wCons (wMul (wAdd (wAdd (wVar 3) (wMul (wIdx (wVar 0) (wC (.int 0))) (wC (.int 7919)))) (wC (.int 1))) (wC (.int 48271))) wNil)) (wC (.int 2147483647))))
(wSeq (wSetI (wMod (wCB fInt (wCons (wAdd (wMul (wVar 4) (wC (.int 69621))) (wMul (wIdx (wVar 0) (wC (.int 0))) (wC (.int 104729)))) wNil)) (wC (.int 4294967291))) (wVar 0) (wC (.int 1)))
(wCut (wIf (wAndT (wB (wBin sGe (wVar 3) (wPow (wC (.int 10)) (wC (.int 18))))) (wB (wBin sLt (wIdx (wVar 0) (wC (.int 0))) (wCB fLen (wCons (wVar 1) wNil)))))
(wSetI (wVar 3) (wVar 0) (wC (.int 1)))
wNext)
(wSetI (wAdd (wIdx (wVar 0) (wC (.int 0))) (wC (.int 1))) (wVar 0) (wC (.int 0)))))))))
wNext)
(wSeq (wAsg 5 (wMod (wCB fInt (wCons (wIdx (wVar 0) (wC (.int 1))) wNil)) (wVar 2)))
(wSeq (wSetI (wDiv (wIdx (wVar 0) (wC (.int 1))) (wVar 2)) (wVar 0) (wC (.int 1)))
(wRet (wVar 5)))))
@[irreducible] def cLawDraw : CW := cwOf 3 3 wdLawDraw

abbrev sLawWord : Stmt := topS 34
abbrev NLawWord : List Str := ["op", "a", "b", "c", "names"]
abbrev PLawWord : List Str := ["op", "a", "b", "c"]
theorem scLawWord : FnScope NLawWord PLawWord (defScope sLawWord) := ⟨rfl, rfl, rfl, by decide +kernel, rfl, by decide +kernel, by decide +kernel⟩
def wdLawWord : WS :=
(wSeq (wAsg 4 (wFrz (wLst (wCons (wC (.str "halt")) (wCons (wC (.str "set")) (wCons (wC (.str "copy")) (wCons (wC (.str "add")) (wCons (wC (.str "sub")) (wCons (wC (.str "mul")) (wCons (wC (.str "and")) (wCons (wC (.str "or")) (wCons (wC (.str "xor")) (wCons (wC (.str "shl")) (wCons (wC (.str "shr")) (wCons (wC (.str "addi")) (wCons (wC (.str "load")) (wCons (wC (.str "store")) (wCons (wC (.str "jump")) (wCons (wC (.str "jal")) (wCons (wC (.str "beq")) (wCons (wC (.str "bne")) (wCons (wC (.str "blt")) (wCons (wC (.str "call")) wNil)))))))))))))))))))))))
(wRet (wAdd (wAdd (wAdd (wShl (wIxL (wVar 4) (wCons (wVar 0) wNil)) (wC (.int 10))) (wShl (wVar 1) (wC (.int 7)))) (wShl (wVar 2) (wC (.int 4)))) (wVar 3))))
@[irreducible] def cLawWord : CW := cwOf 4 1 wdLawWord

abbrev sLawLine : Stmt := topS 35
abbrev NLawLine : List Str := ["state", "script", "seen", "pick", "a", "b", "c", "op", "place", "channel", "call"]
abbrev PLawLine : List Str := ["state", "script", "seen"]
theorem scLawLine : FnScope NLawLine PLawLine (defScope sLawLine) := ⟨rfl, rfl, rfl, by decide +kernel, rfl, by decide +kernel, by decide +kernel⟩
def wdLawLine : WS :=
(wSeq (wAsg 3 (wFrz (wCall cLawDraw (wCons (wVar 0) (wCons (wVar 1) (wCons (wC (.int 20)) wNil))))))
(wSeq (wAsg 4 (wFrz (wCall cLawDraw (wCons (wVar 0) (wCons (wVar 1) (wCons (wC (.int 6)) wNil))))))
(wSeq (wAsg 5 (wFrz (wCall cLawDraw (wCons (wVar 0) (wCons (wVar 1) (wCons (wC (.int 6)) wNil))))))
(wSeq (wAsg 6 (wFrz (wCall cLawDraw (wCons (wVar 0) (wCons (wVar 1) (wCons (wC (.int 6)) wNil))))))
(wSeq (wIf (wB (wBin sLt (wVar 3) (wC (.int 4))))
(wSeq (wAsg 7 (wIdx (wFrz (wLst (wCons (wC (.str "add")) (wCons (wC (.str "sub")) (wCons (wC (.str "mul")) (wCons (wC (.str "xor")) (wCons (wC (.str "and")) (wCons (wC (.str "or")) (wCons (wC (.str "copy")) wNil))))))))) (wFrz (wCall cLawDraw (wCons (wVar 0) (wCons (wVar 1) (wCons (wC (.int 7)) wNil)))))))
(wRetO (wLst (wCons (wFrz (wCall cLawWord (wCons (wVar 7) (wCons (wVar 4) (wCons (wVar 5) (wCons (wMul (wVar 6) (wCB fInt (wCons (wBin (sEq true) (wVar 7) (wC (.str "copy"))) wNil))) wNil)))))) wNil))))
wNext)
(wSeq (wIf (wB (wBin sLt (wVar 3) (wC (.int 6))))
(wRetO (wLst (wCons (wFrz (wCall cLawWord (wCons (wC (.str "addi")) (wCons (wVar 4) (wCons (wVar 4) (wCons (wFrz (wCall cLawDraw (wCons (wVar 0) (wCons (wVar 1) (wCons (wC (.int 16)) wNil))))) wNil)))))) wNil)))
wNext)
(wSeq (wIf (wB (wBin sLt (wVar 3) (wC (.int 8))))
(wRetO (wLst (wCons (wFrz (wCall cLawWord (wCons (wC (.str "set")) (wCons (wVar 4) (wCons (wC (.int 0)) (wCons (wC (.int 0)) wNil)))))) (wCons (wFrz (wCall cLawDraw (wCons (wVar 0) (wCons (wVar 1) (wCons (wC (.int 300)) wNil))))) wNil))))
wNext)
(wSeq (wIf (wB (wBin sLt (wVar 3) (wC (.int 11))))
(wSeq (wAsg 8 (wAdd (wMul (wC (.int 16)) (wFrz (wCall cLawDraw (wCons (wVar 0) (wCons (wVar 1) (wCons (wAdd (wVar 2) (wC (.int 1))) wNil)))))) (wFrz (wCall cLawDraw (wCons (wVar 0) (wCons (wVar 1) (wCons (wC (.int 16)) wNil)))))))
(wSeq (wAsg 7 (wIdx (wFrz (wLst (wCons (wC (.str "load")) (wCons (wC (.str "store")) wNil)))) (wFrz (wCall cLawDraw (wCons (wVar 0) (wCons (wVar 1) (wCons (wC (.int 2)) wNil)))))))
(wRetO (wLst (wCons (wFrz (wCall cLawWord (wCons (wC (.str "set")) (wCons (wC (.int 6)) (wCons (wC (.int 0)) (wCons (wC (.int 0)) wNil)))))) (wCons (wVar 8) (wCons (wFrz (wCall cLawWord (wCons (wVar 7) (wCons (wVar 4) (wCons (wC (.int 6)) (wCons (wC (.int 0)) wNil)))))) wNil)))))))
wNext)
(wSeq (wIf (wB (wBin sLt (wVar 3) (wC (.int 15))))
(wSeq (wAsg 9 (wFrz (wCall cLawDraw (wCons (wVar 0) (wCons (wVar 1) (wCons (wC (.int 4)) wNil))))))
(wSeq (wAsg 10 (wIdx (wFrz (wLst (wCons (wC (.int 1)) (wCons (wC (.int 1)) (wCons (wC (.int 2)) (wCons (wC (.int 2)) (wCons (wC (.int 3)) (wCons (wC (.int 0)) wNil)))))))) (wFrz (wCall cLawDraw (wCons (wVar 0) (wCons (wVar 1) (wCons (wC (.int 6)) wNil)))))))
(wRetO (wLst (wCons (wFrz (wCall cLawWord (wCons (wC (.str "set")) (wCons (wC (.int 0)) (wCons (wC (.int 0)) (wCons (wC (.int 0)) wNil)))))) (wCons (wVar 9) (wCons (wFrz (wCall cLawWord (wCons (wC (.str "call")) (wCons (wC (.int 0)) (wCons (wC (.int 0)) (wCons (wVar 10) wNil)))))) wNil)))))))
wNext)
(wSeq (wIf (wB (wBin sLt (wVar 3) (wC (.int 17))))
(wSeq (wAsg 7 (wIdx (wFrz (wLst (wCons (wC (.str "beq")) (wCons (wC (.str "bne")) (wCons (wC (.str "blt")) wNil))))) (wFrz (wCall cLawDraw (wCons (wVar 0) (wCons (wVar 1) (wCons (wC (.int 3)) wNil)))))))
(wRetO (wLst (wCons (wFrz (wCall cLawWord (wCons (wVar 7) (wCons (wVar 4) (wCons (wVar 5) (wCons (wFrz (wCall cLawDraw (wCons (wVar 0) (wCons (wVar 1) (wCons (wC (.int 16)) wNil))))) wNil)))))) wNil))))
wNext)
(wSeq (wIf (wAndD (wB (wBin (sEq false) (wVar 3) (wC (.int 17)))) (wB (wBin (sEq false) (wFrz (wCall cLawDraw (wCons (wVar 0) (wCons (wVar 1) (wCons (wC (.int 4)) wNil))))) (wC (.int 0)))))
(wRetO (wLst (wCons (wIdx (wFrz (wLst (wCons (wFrz (wCall cLawWord (wCons (wC (.str "halt")) (wCons (wC (.int 0)) (wCons (wC (.int 0)) (wCons (wC (.int 0)) wNil)))))) (wCons (wC (.int 65535)) (wCons (wFrz (wCall cLawWord (wCons (wC (.str "call")) (wCons (wC (.int 0)) (wCons (wC (.int 0)) (wCons (wC (.int 9)) wNil)))))) (wCons (wFrz (wCall cLawDraw (wCons (wVar 0) (wCons (wVar 1) (wCons (wC (.int 65536)) wNil))))) wNil)))))) (wFrz (wCall cLawDraw (wCons (wVar 0) (wCons (wVar 1) (wCons (wC (.int 4)) wNil)))))) wNil)))
wNext)
(wSeq (wIf (wB (wBin (sEq false) (wVar 3) (wC (.int 18))))
(wRetO (wLst (wCons (wFrz (wCall cLawWord (wCons (wC (.str "set")) (wCons (wC (.int 7)) (wCons (wC (.int 0)) (wCons (wC (.int 0)) wNil)))))) (wCons (wC (.int 0)) (wCons (wFrz (wCall cLawWord (wCons (wC (.str "jump")) (wCons (wC (.int 7)) (wCons (wC (.int 0)) (wCons (wC (.int 0)) wNil)))))) wNil)))))
wNext)
(wRetO (wLst (wCons (wFrz (wCall cLawWord (wCons (wC (.str "copy")) (wCons (wC (.int 1)) (wCons (wVar 4) (wCons (wC (.int 0)) wNil)))))) wNil)))))))))))))))
@[irreducible] def cLawLine : CW := cwOf 3 8 wdLawLine

abbrev sLawImage : Stmt := topS 36
abbrev NLawImage : List Str := ["state", "script", "pages", "seen", "words", "k", "line"]
abbrev PLawImage : List Str := ["state", "script", "pages", "seen"]
theorem scLawImage : FnScope NLawImage PLawImage (defScope sLawImage) := ⟨rfl, rfl, rfl, by decide +kernel, rfl, by decide +kernel, by decide +kernel⟩
def wdLawImage : WS :=
(wSeq (wAsg 4 (wFrz (wLst wNil)))
(wCut (wFor (wRng1 (wCons (wAdd (wC (.int 3)) (wFrz (wCall cLawDraw (wCons (wVar 0) (wCons (wVar 1) (wCons (wC (.int 12)) wNil)))))) wNil)) (tgName 5)
(wSeq (wAsg 6 (wFrz (wCall cLawLine (wCons (wVar 0) (wCons (wVar 1) (wCons (wVar 3) wNil))))))
(wIf (wB (wBin sLe (wAdd (wCB fLen (wCons (wVar 4) wNil)) (wCB fLen (wCons (wVar 6) wNil))) (wSub (wMul (wC (.int 16)) (wVar 2)) (wC (.int 3)))))
(wAsg 4 (wFrz (wCatL (wVar 4) (wVar 6))))
wNext)))
(wRetO (wCatL (wVar 4) (wFrz (wLst (wCons (wFrz (wCall cLawWord (wCons (wC (.str "set")) (wCons (wC (.int 7)) (wCons (wC (.int 0)) (wCons (wC (.int 0)) wNil)))))) (wCons (wC (.int 0)) (wCons (wFrz (wCall cLawWord (wCons (wC (.str "jump")) (wCons (wC (.int 7)) (wCons (wC (.int 0)) (wCons (wC (.int 0)) wNil)))))) wNil)))))))))
@[irreducible] def cLawImage : CW := cwOf 4 3 wdLawImage

abbrev sLawParts : Stmt := topS 37
abbrev NLawParts : List Str := ["state", "script", "count", "flows", "p", "q", "channels", "shares", "k", "source", "target", "devices", "frames"]
abbrev PLawParts : List Str := ["state", "script"]
theorem scLawParts : FnScope NLawParts PLawParts (defScope sLawParts) := ⟨rfl, rfl, rfl, by decide +kernel, rfl, by decide +kernel, by decide +kernel⟩
def wdLawParts : WS :=
(wSeq (wAsg 2 (wAdd (wC (.int 2)) (wFrz (wCall cLawDraw (wCons (wVar 0) (wCons (wVar 1) (wCons (wC (.int 3)) wNil)))))))
(wSeq (wNew 3 (wLst wNil))
(wCut (wFor (wRng1 (wCons (wVar 2) wNil)) (tgName 4)
(wFor (wRng1 (wCons (wVar 2) wNil)) (tgName 5)
(wIf (wAndD (wB (wBin (sEq true) (wVar 4) (wVar 5))) (wB (wBin (sEq false) (wFrz (wCall cLawDraw (wCons (wVar 0) (wCons (wVar 1) (wCons (wC (.int 3)) wNil))))) (wC (.int 0)))))
(wApp (wVar 3) (wLift (wTup (wCons (wVar 4) (wCons (wVar 5) wNil)))))
wNext)))
(wSeq (wNew 6 (wLst wNil))
(wSeq (wNew 7 (wLst wNil))
(wCut (wFor (wRng1 (wCons (wFrz (wCall cLawDraw (wCons (wVar 0) (wCons (wVar 1) (wCons (wC (.int 4)) wNil))))) wNil)) (tgName 8)
(wIf (wB (wBin sGt (wCB fLen (wCons (wVar 3) wNil)) (wC (.int 0))))
(wSeq (wAsgT (tgTup [9, 10]) (wIdx (wVar 3) (wFrz (wCall cLawDraw (wCons (wVar 0) (wCons (wVar 1) (wCons (wCB fLen (wCons (wVar 3) wNil)) wNil)))))))
(wApp (wVar 6) (wLift (wTup (wCons (wVar 9) (wCons (wVar 10) (wCons (wAdd (wC (.int 1)) (wFrz (wCall cLawDraw (wCons (wVar 0) (wCons (wVar 1) (wCons (wC (.int 3)) wNil)))))) (wCons (wAndE (wBin sInL (wTup (wCons (wVar 10) (wCons (wVar 9) wNil))) (wVar 3)) (wBin (sEq false) (wFrz (wCall cLawDraw (wCons (wVar 0) (wCons (wVar 1) (wCons (wC (.int 2)) wNil))))) (wC (.int 1)))) wNil))))))))
wNext))
(wCut (wFor (wRng1 (wCons (wFrz (wCall cLawDraw (wCons (wVar 0) (wCons (wVar 1) (wCons (wC (.int 3)) wNil))))) wNil)) (tgName 8)
(wIf (wB (wBin sGt (wCB fLen (wCons (wVar 3) wNil)) (wC (.int 0))))
(wApp (wVar 7) (wLift (wIdx (wVar 3) (wFrz (wCall cLawDraw (wCons (wVar 0) (wCons (wVar 1) (wCons (wCB fLen (wCons (wVar 3) wNil)) wNil))))))))
wNext))
(wSeq (wAsg 11 (wFrz (wLc (wRng1 (wCons (wFrz (wCall cLawDraw (wCons (wVar 0) (wCons (wVar 1) (wCons (wC (.int 3)) wNil))))) wNil)) (tgName 8) [8] wYes (wCall cLawDraw (wCons (wVar 0) (wCons (wVar 1) (wCons (wVar 2) wNil)))))))
(wSeq (wNew 12 (wLst wNil))
(wCut (wFor (wRng1 (wCons (wAdd (wC (.int 1)) (wFrz (wCall cLawDraw (wCons (wVar 0) (wCons (wVar 1) (wCons (wC (.int 4)) wNil)))))) wNil)) (tgName 8)
(wApp (wVar 12) (wLift (wTup (wCons (wIdx (wFrz (wLst (wCons (wC .non) (wCons (wFrz (wCall cLawDraw (wCons (wVar 0) (wCons (wVar 1) (wCons (wVar 2) wNil))))) wNil)))) (wCB fInt (wCons (wBin sGt (wFrz (wCall cLawDraw (wCons (wVar 0) (wCons (wVar 1) (wCons (wC (.int 6)) wNil))))) (wC (.int 0))) wNil))) (wCons (wAdd (wC (.int 128)) (wFrz (wCall cLawDraw (wCons (wVar 0) (wCons (wVar 1) (wCons (wC (.int 160)) wNil)))))) wNil))))))
(wRetO (wLst (wCons (wVar 2) (wCons (wFz (wVar 3)) (wCons (wFz (wVar 6)) (wCons (wFz (wVar 7)) (wCons (wVar 11) (wCons (wFz (wVar 12)) wNil))))))))))))))))))
@[irreducible] def cLawParts : CW := cwOf 2 11 wdLawParts

abbrev sLawPartition : Stmt := topS 38
abbrev NLawPartition : List Str := ["state", "script", "parts", "p", "pages", "seen", "one"]
abbrev PLawPartition : List Str := ["state", "script", "parts", "p"]
theorem scLawPartition : FnScope NLawPartition PLawPartition (defScope sLawPartition) := ⟨rfl, rfl, rfl, by decide +kernel, rfl, by decide +kernel, by decide +kernel⟩
def wdLawPartition : WS :=
(wSeq (wAsg 4 (wAdd (wC (.int 1)) (wFrz (wCall cLawDraw (wCons (wVar 0) (wCons (wVar 1) (wCons (wC (.int 3)) wNil)))))))
(wSeq (wAsg 5 (wAdd (wAdd (wVar 4) (wCB fLen (wCons (wFrz (wLc (wItL (wIdx (wVar 2) (wC (.int 3)))) (tgName 6) [6] (wB (wBin (sIn false) (wVar 3) (wVar 6))) (wLift (wVar 6)))) wNil))) (wCB fLen (wCons (wFrz (wLc (wItL (wIdx (wVar 2) (wC (.int 4)))) (tgName 6) [6] (wB (wBin (sEq false) (wVar 6) (wVar 3))) (wLift (wVar 6)))) wNil))))
(wRetO (wMake 0 cPartitionInit (wCons (wFrz (wCall cLawImage (wCons (wVar 0) (wCons (wVar 1) (wCons (wVar 4) (wCons (wVar 5) wNil)))))) (wCons (wVar 4) (wCons (wC (.int 0)) wNil)))))))
@[irreducible] def cLawPartition : CW := cwOf 4 3 wdLawPartition

abbrev sLawConfig : Stmt := topS 39
abbrev NLawConfig : List Str := ["state", "script", "parts", "partitions", "p"]
abbrev PLawConfig : List Str := ["state", "script"]
theorem scLawConfig : FnScope NLawConfig PLawConfig (defScope sLawConfig) := ⟨rfl, rfl, rfl, by decide +kernel, rfl, by decide +kernel, by decide +kernel⟩
def wdLawConfig : WS :=
(wSeq (wAsg 2 (wFrz (wCall cLawParts (wCons (wVar 0) (wCons (wVar 1) wNil)))))
(wSeq (wAsg 3 (wFrz (wLc (wRng1 (wCons (wIdx (wVar 2) (wC (.int 0))) wNil)) (tgName 4) [4] wYes (wCall cLawPartition (wCons (wVar 0) (wCons (wVar 1) (wCons (wVar 2) (wCons (wVar 4) wNil))))))))
(wRetO (wMake 1 cConfigInit (wCons (wVar 3) (wCons (wIdx (wVar 2) (wC (.int 5))) (wCons (wIdx (wVar 2) (wC (.int 2))) (wCons (wIdx (wVar 2) (wC (.int 3))) (wCons (wIdx (wVar 2) (wC (.int 4))) (wCons (wIdx (wVar 2) (wC (.int 1))) wNil))))))))))
@[irreducible] def cLawConfig : CW := cwOf 2 3 wdLawConfig

abbrev sLawInt : Stmt := topS 41
abbrev NLawInt : List Str := ["value", "least", "most"]
abbrev PLawInt : List Str := ["value", "least", "most"]
theorem scLawInt : FnScope NLawInt PLawInt (defScope sLawInt) := ⟨rfl, rfl, rfl, by decide +kernel, rfl, by decide +kernel, by decide +kernel⟩
def wdLawInt : WS :=
(wRet (wAndV (wIsT "int" (wVar 0)) (wAndV (wNot (wIsT "bool" (wVar 0))) (wChain sLe sLe (wVar 1) (wVar 0) (wVar 2)))))
@[irreducible] def cLawInt : CW := cwOf 3 0 wdLawInt

abbrev sLawEnds : Stmt := topS 42
abbrev NLawEnds : List Str := ["value", "count", "length"]
abbrev PLawEnds : List Str := ["value", "count", "length"]
theorem scLawEnds : FnScope NLawEnds PLawEnds (defScope sLawEnds) := ⟨rfl, rfl, rfl, by decide +kernel, rfl, by decide +kernel, by decide +kernel⟩
def wdLawEnds : WS :=
(wSeq (wIf (wOrT (wNotT (wB (wIsT "tuple" (wVar 0)))) (wB (wBin (sEq true) (wCB fLen (wCons (wVar 0) wNil)) (wVar 2))))
(wRet (wC (.bool false)))
wNext)
(wRet (wAndV (wFrz (wCall cLawInt (wCons (wIdx (wVar 0) (wC (.int 0))) (wCons (wC (.int 0)) (wCons (wSub (wVar 1) (wC (.int 1))) wNil))))) (wAndV (wFrz (wCall cLawInt (wCons (wIdx (wVar 0) (wC (.int 1))) (wCons (wC (.int 0)) (wCons (wSub (wVar 1) (wC (.int 1))) wNil))))) (wBin (sEq true) (wIdx (wVar 0) (wC (.int 0))) (wIdx (wVar 0) (wC (.int 1))))))))
@[irreducible] def cLawEnds : CW := cwOf 3 0 wdLawEnds

abbrev sLawGood : Stmt := topS 43
abbrev NLawGood : List Str := ["kind", "value", "count", "word"]
abbrev PLawGood : List Str := ["kind", "value", "count"]
theorem scLawGood : FnScope NLawGood PLawGood (defScope sLawGood) := ⟨rfl, rfl, rfl, by decide +kernel, rfl, by decide +kernel, by decide +kernel⟩
def wdLawGood : WS :=
(wSeq (wIf (wB (wBin (sEq false) (wVar 0) (wC (.str "partition"))))
(wSeq (wIf (wOrT (wNotT (wB (wFrz (wCall cLawInt (wCons (wFld fld_pages (wVar 1)) (wCons (wC (.int 1)) (wCons (wC (.int 8)) wNil))))))) (wNotT (wB (wFrz (wCall cLawInt (wCons (wFld fld_start (wVar 1)) (wCons (wC (.int 0)) (wCons (wSub (wMul (wC (.int 16)) (wFld fld_pages (wVar 1))) (wC (.int 1))) wNil))))))))
(wRet (wC (.bool false)))
wNext)
(wRet (wAndV (wBin sLe (wCB fLen (wCons (wFld fld_image (wVar 1)) wNil)) (wMul (wC (.int 16)) (wFld fld_pages (wVar 1)))) (wBin (sIn true) (wC (.bool false)) (wFrz (wLc (wItT (wFld fld_image (wVar 1))) (tgName 3) [3] wYes (wCall cLawInt (wCons (wVar 3) (wCons (wC (.int 0)) (wCons (wC (.int 65535)) wNil))))))))))
wNext)
(wSeq (wIf (wB (wBin (sEq false) (wVar 0) (wC (.str "frame"))))
(wSeq (wIf (wOrT (wNotT (wB (wIsT "tuple" (wVar 1)))) (wOrT (wB (wBin (sEq true) (wCB fLen (wCons (wVar 1) wNil)) (wC (.int 2)))) (wNotT (wB (wFrz (wCall cLawInt (wCons (wIdx (wVar 1) (wC (.int 1))) (wCons (wC (.int 128)) (wCons (wC (.int 4000)) wNil)))))))))
(wRet (wC (.bool false)))
wNext)
(wRet (wOrV (wBin (sIs false) (wIdx (wVar 1) (wC (.int 0))) (wC .non)) (wFrz (wCall cLawInt (wCons (wIdx (wVar 1) (wC (.int 0))) (wCons (wC (.int 0)) (wCons (wSub (wVar 2) (wC (.int 1))) wNil))))))))
wNext)
(wSeq (wIf (wB (wBin (sEq false) (wVar 0) (wC (.str "channel"))))
(wRet (wAndV (wFrz (wCall cLawEnds (wCons (wVar 1) (wCons (wVar 2) (wCons (wC (.int 4)) wNil))))) (wAndV (wFrz (wCall cLawInt (wCons (wIdx (wVar 1) (wC (.int 2))) (wCons (wC (.int 1)) (wCons (wC (.int 8)) wNil))))) (wIsT "bool" (wIdx (wVar 1) (wC (.int 3)))))))
wNext)
(wSeq (wIf (wB (wBin (sEq false) (wVar 0) (wC (.str "device"))))
(wRetO (wCall cLawInt (wCons (wVar 1) (wCons (wC (.int 0)) (wCons (wSub (wVar 2) (wC (.int 1))) wNil)))))
wNext)
(wRetO (wCall cLawEnds (wCons (wVar 1) (wCons (wVar 2) (wCons (wC (.int 2)) wNil)))))))))
@[irreducible] def cLawGood : CW := cwOf 3 1 wdLawGood

abbrev sLawShape : Stmt := topS 44
abbrev NLawShape : List Str := ["config", "count", "kinds", "j", "things", "k", "p", "seen", "one"]
abbrev PLawShape : List Str := ["config"]
theorem scLawShape : FnScope NLawShape PLawShape (defScope sLawShape) := ⟨rfl, rfl, rfl, by decide +kernel, rfl, by decide +kernel, by decide +kernel⟩
def wdLawShape : WS :=
(wSeq (wAsg 1 (wCB fLen (wCons (wFld fld_partitions (wVar 0)) wNil)))
(wSeq (wAsg 2 (wFrz (wLst (wCons (wC (.str "partition")) (wCons (wC (.str "frame")) (wCons (wC (.str "channel")) (wCons (wC (.str "share")) (wCons (wC (.str "device")) (wCons (wC (.str "flow")) wNil)))))))))
(wCut (wFor (wRng1 (wCons (wC (.int 6)) wNil)) (tgName 3)
(wSeq (wAsg 4 (wIdx (wFrz (wMeth 1 cConfigFields (wVar 0) wNil)) (wVar 3)))
(wFor (wRng1 (wCons (wCB fLen (wCons (wVar 4) wNil)) wNil)) (tgName 5)
(wIf (wNotT (wB (wFrz (wCall cLawGood (wCons (wIdx (wVar 2) (wVar 3)) (wCons (wIdx (wVar 4) (wVar 5)) (wCons (wVar 1) wNil)))))))
(wRet (wTup (wCons (wIdx (wVar 2) (wVar 3)) (wCons (wVar 5) wNil))))
wNext))))
(wCut (wFor (wRng1 (wCons (wVar 1) wNil)) (tgName 6)
(wSeq (wAsg 7 (wAdd (wFld fld_pages (wIdx (wFld fld_partitions (wVar 0)) (wVar 6))) (wCB fLen (wCons (wFrz (wLc (wItT (wFld fld_shares (wVar 0))) (tgName 8) [8] (wB (wBin (sIn false) (wVar 6) (wVar 8))) (wLift (wVar 8)))) wNil))))
(wIf (wB (wBin sGt (wAdd (wVar 7) (wCB fLen (wCons (wFrz (wLc (wItT (wFld fld_devices (wVar 0))) (tgName 8) [8] (wB (wBin (sEq false) (wVar 8) (wVar 6))) (wLift (wVar 8)))) wNil))) (wC (.int 8))))
(wRet (wTup (wCons (wC (.str "pages")) (wCons (wVar 6) wNil))))
wNext)))
(wRet (wC .non))))))
@[irreducible] def cLawShape : CW := cwOf 1 8 wdLawShape

abbrev sLawFault : Stmt := topS 45
abbrev NLawFault : List Str := ["config", "words", "limits", "j", "many", "found", "k", "source", "target", "capacity", "told"]
abbrev PLawFault : List Str := ["config"]
theorem scLawFault : FnScope NLawFault PLawFault (defScope sLawFault) := ⟨rfl, rfl, rfl, by decide +kernel, rfl, by decide +kernel, by decide +kernel⟩
def wdLawFault : WS :=
(wSeq (wAsg 1 (wFrz (wLst (wCons (wC (.str "partitions")) (wCons (wC (.str "frames")) (wCons (wC (.str "channels")) (wCons (wC (.str "shares")) (wCons (wC (.str "devices")) (wCons (wC (.str "flows")) wNil)))))))))
(wSeq (wAsg 2 (wFrz (wLst (wCons (wC (.int 8)) (wCons (wC (.int 16)) (wCons (wC (.int 12)) (wCons (wC (.int 6)) (wCons (wC (.int 6)) (wCons (wC (.int 64)) wNil)))))))))
(wCut (wFor (wRng1 (wCons (wC (.int 6)) wNil)) (tgName 3)
(wSeq (wAsg 4 (wCB fLen (wCons (wIdx (wFrz (wMeth 1 cConfigFields (wVar 0) wNil)) (wVar 3)) wNil)))
(wIf (wOrT (wB (wBin sGt (wVar 4) (wIdx (wVar 2) (wVar 3)))) (wAndT (wB (wBin sLt (wVar 3) (wC (.int 2)))) (wB (wBin (sEq false) (wVar 4) (wC (.int 0))))))
(wRetO (wLst (wCons (wC (.int 0)) (wCons (wTup (wCons (wIdx (wVar 1) (wVar 3)) (wCons (wVar 4) wNil))) wNil))))
wNext)))
(wSeq (wAsg 5 (wFrz (wCall cLawShape (wCons (wVar 0) wNil))))
(wSeq (wIf (wB (wBin (sIs true) (wVar 5) (wC .non)))
(wRetO (wLst (wCons (wC (.int 1)) (wCons (wVar 5) wNil))))
wNext)
(wCut (wFor (wRng1 (wCons (wCB fLen (wCons (wFld fld_channels (wVar 0)) wNil)) wNil)) (tgName 6)
(wSeq (wAsgT (tgTup [7, 8, 9, 10]) (wIdx (wFld fld_channels (wVar 0)) (wVar 6)))
(wSeq (wIf (wB (wBin sNinT (wTup (wCons (wVar 7) (wCons (wVar 8) wNil))) (wFld fld_flows (wVar 0))))
(wRetO (wLst (wCons (wC (.int 2)) (wCons (wTup (wCons (wC (.str "sends")) (wCons (wVar 6) wNil))) wNil))))
wNext)
(wIf (wAndT (wB (wVar 10)) (wB (wBin sNinT (wTup (wCons (wVar 8) (wCons (wVar 7) wNil))) (wFld fld_flows (wVar 0)))))
(wRetO (wLst (wCons (wC (.int 2)) (wCons (wTup (wCons (wC (.str "tells")) (wCons (wVar 6) wNil))) wNil))))
wNext))))
(wCut (wFor (wRng1 (wCons (wCB fLen (wCons (wFld fld_shares (wVar 0)) wNil)) wNil)) (tgName 6)
(wIf (wB (wBin sNinT (wIdx (wFld fld_shares (wVar 0)) (wVar 6)) (wFld fld_flows (wVar 0))))
(wRetO (wLst (wCons (wC (.int 2)) (wCons (wTup (wCons (wC (.str "shows")) (wCons (wVar 6) wNil))) wNil))))
wNext))
(wRetO (wLst (wCons (wC (.int 3)) (wCons (wC .non) wNil)))))))))))
@[irreducible] def cLawFault : CW := cwOf 1 10 wdLawFault

abbrev sLawOdd : Stmt := topS 46
abbrev NLawOdd : List Str := ["state", "script", "count"]
abbrev PLawOdd : List Str := ["state", "script", "count"]
theorem scLawOdd : FnScope NLawOdd PLawOdd (defScope sLawOdd) := ⟨rfl, rfl, rfl, by decide +kernel, rfl, by decide +kernel, by decide +kernel⟩
def wdLawOdd : WS :=
(wRet (wIdx (wFrz (wLst (wCons (wC (.int 0)) (wCons (wC (.int 1)) (wCons (wSub (wVar 2) (wC (.int 1))) (wCons (wVar 2) (wCons (wSub (wC (.int 0)) (wC (.int 1))) (wCons (wC .non) (wCons (wC (.bool true)) (wCons (wC (.str "a")) (wCons (wC (.int 9)) (wCons (wC (.int 127)) (wCons (wC (.int 128)) (wCons (wC (.int 4000)) (wCons (wC (.int 4001)) wNil))))))))))))))) (wFrz (wCall cLawDraw (wCons (wVar 0) (wCons (wVar 1) (wCons (wC (.int 13)) wNil)))))))
@[irreducible] def cLawOdd : CW := cwOf 3 0 wdLawOdd

abbrev sLawChanged : Stmt := topS 47
abbrev NLawChanged : List Str := ["state", "script", "lists", "pick", "count", "a", "b", "c", "k", "p", "q", "j"]
abbrev PLawChanged : List Str := ["state", "script", "lists"]
theorem scLawChanged : FnScope NLawChanged PLawChanged (defScope sLawChanged) := ⟨rfl, rfl, rfl, by decide +kernel, rfl, by decide +kernel, by decide +kernel⟩
def wdLawChanged : WS :=
(wSeq (wAsg 3 (wFrz (wCall cLawDraw (wCons (wVar 0) (wCons (wVar 1) (wCons (wC (.int 12)) wNil))))))
(wSeq (wAsg 4 (wCB fLen (wCons (wRes (wIdx (wVar 2) (wC (.int 0)))) wNil)))
(wSeq (wAsgT (tgLst [5, 6, 7]) (wFrz (wLc (wRng1 (wCons (wC (.int 3)) wNil)) (tgName 8) [8] wYes (wCall cLawOdd (wCons (wVar 0) (wCons (wVar 1) (wCons (wVar 4) wNil)))))))
(wSeq (wAsg 9 (wFrz (wCall cLawDraw (wCons (wVar 0) (wCons (wVar 1) (wCons (wVar 4) wNil))))))
(wSeq (wAsg 10 (wFrz (wCall cLawDraw (wCons (wVar 0) (wCons (wVar 1) (wCons (wVar 4) wNil))))))
(wCut (wIf (wB (wBin (sEq false) (wVar 3) (wC (.int 0))))
(wApp (wRes (wIdx (wVar 2) (wC (.int 0)))) (wLift (wFrz (wMake 0 cPartitionInit (wCons (wFrz (wRepL (wFrz (wLst (wCons (wIdx (wFrz (wLst (wCons (wC (.int 0)) (wCons (wC (.int 65535)) (wCons (wC (.int 65536)) (wCons (wSub (wC (.int 0)) (wC (.int 1))) (wCons (wC (.bool true)) wNil))))))) (wFrz (wCall cLawDraw (wCons (wVar 0) (wCons (wVar 1) (wCons (wC (.int 5)) wNil)))))) wNil))) (wFrz (wCall cLawDraw (wCons (wVar 0) (wCons (wVar 1) (wCons (wC (.int 20)) wNil))))))) (wCons (wC (.int 1)) (wCons (wC (.int 0)) wNil)))))))
wNext)
(wCut (wIf (wB (wBin (sEq false) (wVar 3) (wC (.int 1))))
(wSetI (wFrz (wMake 0 cPartitionInit (wCons (wFrz (wLst wNil)) (wCons (wIdx (wFrz (wLst (wCons (wC (.int 1)) (wCons (wC (.int 8)) (wCons (wC (.int 9)) (wCons (wC (.int 0)) (wCons (wC (.bool true)) wNil))))))) (wFrz (wCall cLawDraw (wCons (wVar 0) (wCons (wVar 1) (wCons (wC (.int 5)) wNil)))))) (wCons (wIdx (wFrz (wLst (wCons (wC (.int 0)) (wCons (wC (.int 15)) (wCons (wC (.int 16)) (wCons (wC (.int 127)) (wCons (wC (.int 128)) (wCons (wSub (wC (.int 0)) (wC (.int 1))) (wCons (wC (.bool true)) wNil))))))))) (wFrz (wCall cLawDraw (wCons (wVar 0) (wCons (wVar 1) (wCons (wC (.int 7)) wNil)))))) wNil))))) (wRes (wIdx (wVar 2) (wC (.int 0)))) (wVar 9))
wNext)
(wCut (wIf (wB (wBin (sEq false) (wVar 3) (wC (.int 2))))
(wApp (wRes (wIdx (wVar 2) (wC (.int 1)))) (wLift (wIdx (wFrz (wLst (wCons (wTup (wCons (wVar 5) (wCons (wVar 6) wNil))) (wCons (wTup (wCons (wVar 9) (wCons (wC (.int 128)) wNil))) (wCons (wTup (wCons (wVar 9) (wCons (wC (.int 127)) wNil))) (wCons (wTup (wCons (wVar 9) (wCons (wC (.int 128)) (wCons (wC (.int 1)) wNil)))) (wCons (wC .non) wNil))))))) (wFrz (wCall cLawDraw (wCons (wVar 0) (wCons (wVar 1) (wCons (wC (.int 5)) wNil))))))))
wNext)
(wCut (wIf (wB (wBin (sEq false) (wVar 3) (wC (.int 3))))
(wApp (wRes (wIdx (wVar 2) (wC (.int 2)))) (wLift (wIdx (wFrz (wLst (wCons (wTup (wCons (wVar 5) (wCons (wVar 6) (wCons (wVar 7) (wCons (wC (.bool true)) wNil))))) (wCons (wTup (wCons (wVar 9) (wCons (wVar 10) (wCons (wC (.int 1)) (wCons (wC (.bool false)) wNil))))) (wCons (wTup (wCons (wVar 9) (wCons (wVar 10) (wCons (wC (.int 9)) (wCons (wC (.bool false)) wNil))))) (wCons (wTup (wCons (wVar 9) (wCons (wVar 10) (wCons (wC (.int 1)) (wCons (wC (.int 1)) wNil))))) (wCons (wTup (wCons (wVar 9) (wCons (wVar 10) (wCons (wC (.int 1)) wNil)))) (wCons (wTup (wCons (wVar 9) (wCons (wVar 10) (wCons (wC (.int 1)) (wCons (wC (.bool true)) wNil))))) wNil)))))))) (wFrz (wCall cLawDraw (wCons (wVar 0) (wCons (wVar 1) (wCons (wC (.int 6)) wNil))))))))
wNext)
(wCut (wIf (wB (wBin (sIn false) (wVar 3) (wFrz (wLst (wCons (wC (.int 4)) (wCons (wC (.int 5)) wNil))))))
(wApp (wRes (wIdx (wVar 2) (wIdx (wFrz (wLst (wCons (wC (.int 3)) (wCons (wC (.int 5)) wNil)))) (wSub (wVar 3) (wC (.int 4)))))) (wLift (wIdx (wFrz (wLst (wCons (wTup (wCons (wVar 5) (wCons (wVar 6) wNil))) (wCons (wTup (wCons (wVar 9) (wCons (wVar 10) wNil))) (wCons (wTup (wCons (wVar 9) (wCons (wVar 10) (wCons (wVar 9) wNil)))) (wCons (wC (.int 5)) wNil)))))) (wFrz (wCall cLawDraw (wCons (wVar 0) (wCons (wVar 1) (wCons (wC (.int 4)) wNil))))))))
wNext)
(wCut (wIf (wB (wBin (sEq false) (wVar 3) (wC (.int 6))))
(wApp (wRes (wIdx (wVar 2) (wC (.int 4)))) (wLift (wIdx (wFrz (wLst (wCons (wVar 5) (wCons (wVar 9) wNil)))) (wFrz (wCall cLawDraw (wCons (wVar 0) (wCons (wVar 1) (wCons (wC (.int 2)) wNil))))))))
wNext)
(wCut (wIf (wB (wBin (sEq false) (wVar 3) (wC (.int 7))))
(wSeq (wAsg 11 (wFrz (wCall cLawDraw (wCons (wVar 0) (wCons (wVar 1) (wCons (wC (.int 6)) wNil))))))
(wIf (wB (wBin sGt (wCB fLen (wCons (wRes (wIdx (wVar 2) (wVar 11))) wNil)) (wC (.int 0))))
(wSetNew (wCatL (wRes (wIdx (wVar 2) (wVar 11))) (wFrz (wRepL (wFrz (wLst (wCons (wIdx (wRes (wIdx (wVar 2) (wVar 11))) (wC (.int 0))) wNil))) (wIdx (wFrz (wLst (wCons (wC (.int 7)) (wCons (wC (.int 8)) (wCons (wC (.int 11)) (wCons (wC (.int 12)) (wCons (wC (.int 15)) (wCons (wC (.int 16)) (wCons (wC (.int 63)) (wCons (wC (.int 64)) wNil)))))))))) (wFrz (wCall cLawDraw (wCons (wVar 0) (wCons (wVar 1) (wCons (wC (.int 8)) wNil))))))))) (wVar 2) (wVar 11))
wNext))
wNext)
(wCut (wIf (wAndT (wB (wBin (sEq false) (wVar 3) (wC (.int 8)))) (wB (wBin sGt (wCB fLen (wCons (wRes (wIdx (wVar 2) (wC (.int 5)))) wNil)) (wC (.int 0)))))
(wDrop (wPop (wRes (wIdx (wVar 2) (wC (.int 5)))) (wCons (wFrz (wCall cLawDraw (wCons (wVar 0) (wCons (wVar 1) (wCons (wCB fLen (wCons (wRes (wIdx (wVar 2) (wC (.int 5)))) wNil)) wNil))))) wNil)))
wNext)
(wCut (wIf (wB (wBin (sEq false) (wVar 3) (wC (.int 9))))
(wSeq (wAsg 11 (wFrz (wCall cLawDraw (wCons (wVar 0) (wCons (wVar 1) (wCons (wC (.int 6)) wNil))))))
(wSetNew (wLst wNil) (wVar 2) (wVar 11)))
wNext)
(wIf (wB (wBin (sEq false) (wVar 3) (wC (.int 10))))
(wSetI (wFrz (wMake 0 cPartitionInit (wCons (wFrz (wLst wNil)) (wCons (wSub (wC (.int 8)) (wFrz (wCall cLawDraw (wCons (wVar 0) (wCons (wVar 1) (wCons (wC (.int 4)) wNil)))))) (wCons (wC (.int 0)) wNil))))) (wRes (wIdx (wVar 2) (wC (.int 0)))) (wVar 9))
wNext)))))))))))))))
@[irreducible] def cLawChanged : CWA := cwOfA 3 9 wdLawChanged

abbrev sLaw : Stmt := topS 48
abbrev NLaw : List Str := ["script", "state", "config", "lists", "part", "k", "changed", "kept", "stage", "due"]
abbrev PLaw : List Str := ["script"]
theorem scLaw : FnScope NLaw PLaw (defScope sLaw) := ⟨rfl, rfl, rfl, by decide +kernel, rfl, by decide +kernel, by decide +kernel⟩
def wdLaw : WS :=
(wSeq (wNew 1 (wLst (wCons (wC (.int 0)) (wCons (wC (.int 0)) wNil))))
(wSeq (wAsg 2 (wFrz (wCall cLawConfig (wCons (wVar 1) (wCons (wVar 0) wNil)))))
(wSeq (wIf (wB (wBin (sIs true) (wFrz (wCall cJudge (wCons (wVar 2) wNil))) (wC .non)))
(wRet (wC (.bool false)))
wNext)
(wSeq (wNewSplit 3 (wLc (wItT (wFrz (wMeth 1 cConfigFields (wVar 2) wNil))) (tgName 4) [4] wYes (wListOf (wCons (wVar 4) wNil))))
(wCut (wFor (wRng1 (wCons (wAdd (wC (.int 1)) (wFrz (wCall cLawDraw (wCons (wVar 1) (wCons (wVar 0) (wCons (wC (.int 2)) wNil)))))) wNil)) (tgName 5)
(wIf (wB (wBin sGt (wCB fLen (wCons (wRes (wIdx (wVar 3) (wC (.int 0)))) wNil)) (wC (.int 0))))
(wDoA cLawChanged (wCons (wVar 1) (wCons (wVar 0) (wCons (wVar 3) wNil))))
wNext))
(wSeq (wAsg 6 (wFrz (wMake 1 cConfigInit (wCons (wFz (wRes (wIdx (wVar 3) (wC (.int 0))))) (wCons (wFz (wRes (wIdx (wVar 3) (wC (.int 1))))) (wCons (wFz (wRes (wIdx (wVar 3) (wC (.int 2))))) (wCons (wFz (wRes (wIdx (wVar 3) (wC (.int 3))))) (wCons (wFz (wRes (wIdx (wVar 3) (wC (.int 4))))) (wCons (wFz (wRes (wIdx (wVar 3) (wC (.int 5))))) wNil)))))))))
(wSeq (wAsg 7 (wAdd (wCB fRepr (wCons (wFrz (wLc (wItT (wFld fld_partitions (wVar 6))) (tgName 4) [4] wYes (wMeth 0 cPartitionFields (wVar 4) wNil))) wNil)) (wCB fRepr (wCons (wSlT (wFrz (wMeth 1 cConfigFields (wVar 6) wNil)) (wPart (wC (.int 1))) wNo) wNil))))
(wSeq (wAsgT (tgLst [8, 9]) (wFrz (wCall cLawFault (wCons (wVar 6) wNil))))
(wSeq (wIf (wOrT (wB (wBin (sEqV true) (wFrz (wCall cJudge (wCons (wVar 6) wNil))) (wVar 9))) (wB (wBin (sEq true) (wCB fRepr (wCons (wFrz (wCall cJudge (wCons (wVar 6) wNil))) wNil)) (wCB fRepr (wCons (wVar 9) wNil)))))
(wRet (wC (.bool false)))
wNext)
(wSeq (wIf (wOrT (wB (wBin (sEq true) (wBin (sIs false) (wFrz (wCall cCountFault (wCons (wVar 6) wNil))) (wC .non)) (wBin sGt (wVar 8) (wC (.int 0))))) (wAndT (wB (wBin sGt (wVar 8) (wC (.int 0)))) (wB (wBin (sEq true) (wBin (sIs false) (wFrz (wCall cShapeFault (wCons (wVar 6) wNil))) (wC .non)) (wBin sGt (wVar 8) (wC (.int 1)))))))
(wRet (wC (.bool false)))
wNext)
(wSeq (wIf (wAndT (wB (wBin sGt (wVar 8) (wC (.int 1)))) (wB (wBin (sEqV true) (wFrz (wCall cFlowFault (wCons (wVar 6) wNil))) (wVar 9))))
(wRet (wC (.bool false)))
wNext)
(wRet (wBin (sEq false) (wAdd (wCB fRepr (wCons (wFrz (wLc (wItT (wFld fld_partitions (wVar 6))) (tgName 4) [4] wYes (wMeth 0 cPartitionFields (wVar 4) wNil))) wNil)) (wCB fRepr (wCons (wSlT (wFrz (wMeth 1 cConfigFields (wVar 6) wNil)) (wPart (wC (.int 1))) wNo) wNil))) (wVar 7))))))))))))))
@[irreducible] def cLaw : CW := cwOf 1 9 wdLaw

structure Tx (K : PySem.W.Frag) (w : World) (mg : Str → Option Value) where
  cPartition : Addr
  gPartition : mg "Partition" = some (.ref cPartition)
  clPartition : Cls K cPartition
  cConfig : Addr
  gConfig : mg "Config" = some (.ref cConfig)
  clConfig : Cls K cConfig
  aPartitionInit : Addr
  fdPartitionInit : FuncData
  mPartitionInit : MethAt K "__init__" "Partition.__init__" sPartitionInit aPartitionInit fdPartitionInit PPartitionInit
  mkPartition : Mk K cPartition aPartitionInit
  aPartitionFields : Addr
  fdPartitionFields : FuncData
  mPartitionFields : MethAt K "fields" "Partition.fields" sPartitionFields aPartitionFields fdPartitionFields PPartitionFields
  hPartitionFields : Meth K cPartition "fields" aPartitionFields
  aConfigInit : Addr
  fdConfigInit : FuncData
  mConfigInit : MethAt K "__init__" "Config.__init__" sConfigInit aConfigInit fdConfigInit PConfigInit
  mkConfig : Mk K cConfig aConfigInit
  aConfigFields : Addr
  fdConfigFields : FuncData
  mConfigFields : MethAt K "fields" "Config.fields" sConfigFields aConfigFields fdConfigFields PConfigFields
  hConfigFields : Meth K cConfig "fields" aConfigFields
  aShareRights : Addr
  fdShareRights : FuncData
  dShareRights : DefAt K mg "share_rights" sShareRights aShareRights fdShareRights PShareRights
  aPageMap : Addr
  fdPageMap : FuncData
  dPageMap : DefAt K mg "page_map" sPageMap aPageMap fdPageMap PPageMap
  aMayFlow : Addr
  fdMayFlow : FuncData
  dMayFlow : DefAt K mg "may_flow" sMayFlow aMayFlow fdMayFlow PMayFlow
  aIsWord : Addr
  fdIsWord : FuncData
  dIsWord : DefAt K mg "is_word" sIsWord aIsWord fdIsWord PIsWord
  aIsInteger : Addr
  fdIsInteger : FuncData
  dIsInteger : DefAt K mg "is_integer" sIsInteger aIsInteger fdIsInteger PIsInteger
  aIsWithin : Addr
  fdIsWithin : FuncData
  dIsWithin : DefAt K mg "is_within" sIsWithin aIsWithin fdIsWithin PIsWithin
  aIsTupleOf : Addr
  fdIsTupleOf : FuncData
  dIsTupleOf : DefAt K mg "is_tuple_of" sIsTupleOf aIsTupleOf fdIsTupleOf PIsTupleOf
  aIsPartition : Addr
  fdIsPartition : FuncData
  dIsPartition : DefAt K mg "is_partition" sIsPartition aIsPartition fdIsPartition PIsPartition
  aAreDifferent : Addr
  fdAreDifferent : FuncData
  dAreDifferent : DefAt K mg "are_different" sAreDifferent aAreDifferent fdAreDifferent PAreDifferent
  aCountFault : Addr
  fdCountFault : FuncData
  dCountFault : DefAt K mg "count_fault" sCountFault aCountFault fdCountFault PCountFault
  aPartitionFits : Addr
  fdPartitionFits : FuncData
  dPartitionFits : DefAt K mg "partition_fits" sPartitionFits aPartitionFits fdPartitionFits PPartitionFits
  aFrameFits : Addr
  fdFrameFits : FuncData
  dFrameFits : DefAt K mg "frame_fits" sFrameFits aFrameFits fdFrameFits PFrameFits
  aChannelFits : Addr
  fdChannelFits : FuncData
  dChannelFits : DefAt K mg "channel_fits" sChannelFits aChannelFits fdChannelFits PChannelFits
  aPairFits : Addr
  fdPairFits : FuncData
  dPairFits : DefAt K mg "pair_fits" sPairFits aPairFits fdPairFits PPairFits
  aDeviceFits : Addr
  fdDeviceFits : FuncData
  dDeviceFits : DefAt K mg "device_fits" sDeviceFits aDeviceFits fdDeviceFits PDeviceFits
  aPagesFit : Addr
  fdPagesFit : FuncData
  dPagesFit : DefAt K mg "pages_fit" sPagesFit aPagesFit fdPagesFit PPagesFit
  aShapeFault : Addr
  fdShapeFault : FuncData
  dShapeFault : DefAt K mg "shape_fault" sShapeFault aShapeFault fdShapeFault PShapeFault
  aChannelFault : Addr
  fdChannelFault : FuncData
  dChannelFault : DefAt K mg "channel_fault" sChannelFault aChannelFault fdChannelFault PChannelFault
  aFlowFault : Addr
  fdFlowFault : FuncData
  dFlowFault : DefAt K mg "flow_fault" sFlowFault aFlowFault fdFlowFault PFlowFault
  aJudge : Addr
  fdJudge : FuncData
  dJudge : DefAt K mg "judge" sJudge aJudge fdJudge PJudge
  aLawDraw : Addr
  fdLawDraw : FuncData
  dLawDraw : DefAt K mg "_law_draw" sLawDraw aLawDraw fdLawDraw PLawDraw
  aLawWord : Addr
  fdLawWord : FuncData
  dLawWord : DefAt K mg "_law_word" sLawWord aLawWord fdLawWord PLawWord
  aLawLine : Addr
  fdLawLine : FuncData
  dLawLine : DefAt K mg "_law_line" sLawLine aLawLine fdLawLine PLawLine
  aLawImage : Addr
  fdLawImage : FuncData
  dLawImage : DefAt K mg "_law_image" sLawImage aLawImage fdLawImage PLawImage
  aLawParts : Addr
  fdLawParts : FuncData
  dLawParts : DefAt K mg "_law_parts" sLawParts aLawParts fdLawParts PLawParts
  aLawPartition : Addr
  fdLawPartition : FuncData
  dLawPartition : DefAt K mg "_law_partition" sLawPartition aLawPartition fdLawPartition PLawPartition
  aLawConfig : Addr
  fdLawConfig : FuncData
  dLawConfig : DefAt K mg "_law_config" sLawConfig aLawConfig fdLawConfig PLawConfig
  aLawInt : Addr
  fdLawInt : FuncData
  dLawInt : DefAt K mg "_law_int" sLawInt aLawInt fdLawInt PLawInt
  aLawEnds : Addr
  fdLawEnds : FuncData
  dLawEnds : DefAt K mg "_law_ends" sLawEnds aLawEnds fdLawEnds PLawEnds
  aLawGood : Addr
  fdLawGood : FuncData
  dLawGood : DefAt K mg "_law_good" sLawGood aLawGood fdLawGood PLawGood
  aLawShape : Addr
  fdLawShape : FuncData
  dLawShape : DefAt K mg "_law_shape" sLawShape aLawShape fdLawShape PLawShape
  aLawFault : Addr
  fdLawFault : FuncData
  dLawFault : DefAt K mg "_law_fault" sLawFault aLawFault fdLawFault PLawFault
  aLawOdd : Addr
  fdLawOdd : FuncData
  dLawOdd : DefAt K mg "_law_odd" sLawOdd aLawOdd fdLawOdd PLawOdd
  aLawChanged : Addr
  fdLawChanged : FuncData
  dLawChanged : DefAt K mg "_law_changed" sLawChanged aLawChanged fdLawChanged PLawChanged
  aLaw : Addr
  fdLaw : FuncData
  dLaw : DefAt K mg "law" sLaw aLaw fdLaw PLaw
  nPartition_image : NoAttr K cPartition "image"
  nPartition_pages : NoAttr K cPartition "pages"
  nPartition_start : NoAttr K cPartition "start"
  nConfig_partitions : NoAttr K cConfig "partitions"
  nConfig_frames : NoAttr K cConfig "frames"
  nConfig_channels : NoAttr K cConfig "channels"
  nConfig_shares : NoAttr K cConfig "shares"
  nConfig_devices : NoAttr K cConfig "devices"
  nConfig_flows : NoAttr K cConfig "flows"
  isPartition : IsK K cPartition
  isConfig : IsK K cConfig
  b_len : mg "len" = none
  b_int : mg "int" = none
  b_range : mg "range" = none
  b_tuple : mg "tuple" = none
  b_list : mg "list" = none
  b_isinstance : mg "isinstance" = none
  b_enumerate : mg "enumerate" = none
  b_all : mg "all" = none
  b_repr : mg "repr" = none
  b_bool : mg "bool" = none
  gPAGE : ∃ t, mg "PAGE" = some (.int 16 t)
  gVIRTUAL : ∃ t, mg "VIRTUAL" = some (.int 8 t)
  gREAD : ∃ t, mg "READ" = some (.int 1 t)
  gWRITE : ∃ t, mg "WRITE" = some (.int 2 t)
  gEXECUTE : ∃ t, mg "EXECUTE" = some (.int 4 t)
  gWORDS : ∃ t, mg "WORDS" = some (.int 65536 t)
  aFITTING : Addr
  gFITTING : mg "FITTING" = some (.ref aFITTING)
  kFITTING : ∀ C : Cs, C.fn = (fun j => ([aPartitionFits, aFrameFits, aChannelFits, aPairFits, aDeviceFits, aPagesFit] : List Addr).getD j 0) → KTab K C w aFITTING tbFITTING
def lys : List (List Str) := [["image", "pages", "start"], ["partitions", "frames", "channels", "shares", "devices", "flows"]]
def Tx.cs {K : PySem.W.Frag} {w : World} {mg : Str → Option Value} (T : Tx K w mg) : Cs := ⟨fun c => ([T.cPartition, T.cConfig] : List Addr).getD c 0, fun c => lys.getD c [], fun j => ([T.aPartitionFits, T.aFrameFits, T.aChannelFits, T.aPairFits, T.aDeviceFits, T.aPagesFit] : List Addr).getD j 0⟩
theorem Tx.fk_image {K : PySem.W.Frag} {w : World} {mg : Str → Option Value} (T : Tx K w mg) : FOk K T.cs fld_image "image" := fun c i h => by
  unfold fld_image at h
  split at h
  · cases h
    exact ⟨T.clPartition, T.nPartition_image, rfl, show (lys.getD 0 []).Nodup by decide +kernel⟩
  · cases h
theorem Tx.fk_pages {K : PySem.W.Frag} {w : World} {mg : Str → Option Value} (T : Tx K w mg) : FOk K T.cs fld_pages "pages" := fun c i h => by
  unfold fld_pages at h
  split at h
  · cases h
    exact ⟨T.clPartition, T.nPartition_pages, rfl, show (lys.getD 0 []).Nodup by decide +kernel⟩
  · cases h
theorem Tx.fk_start {K : PySem.W.Frag} {w : World} {mg : Str → Option Value} (T : Tx K w mg) : FOk K T.cs fld_start "start" := fun c i h => by
  unfold fld_start at h
  split at h
  · cases h
    exact ⟨T.clPartition, T.nPartition_start, rfl, show (lys.getD 0 []).Nodup by decide +kernel⟩
  · cases h
theorem Tx.fk_partitions {K : PySem.W.Frag} {w : World} {mg : Str → Option Value} (T : Tx K w mg) : FOk K T.cs fld_partitions "partitions" := fun c i h => by
  unfold fld_partitions at h
  split at h
  · cases h
    exact ⟨T.clConfig, T.nConfig_partitions, rfl, show (lys.getD 1 []).Nodup by decide +kernel⟩
  · cases h
theorem Tx.fk_frames {K : PySem.W.Frag} {w : World} {mg : Str → Option Value} (T : Tx K w mg) : FOk K T.cs fld_frames "frames" := fun c i h => by
  unfold fld_frames at h
  split at h
  · cases h
    exact ⟨T.clConfig, T.nConfig_frames, rfl, show (lys.getD 1 []).Nodup by decide +kernel⟩
  · cases h
theorem Tx.fk_channels {K : PySem.W.Frag} {w : World} {mg : Str → Option Value} (T : Tx K w mg) : FOk K T.cs fld_channels "channels" := fun c i h => by
  unfold fld_channels at h
  split at h
  · cases h
    exact ⟨T.clConfig, T.nConfig_channels, rfl, show (lys.getD 1 []).Nodup by decide +kernel⟩
  · cases h
theorem Tx.fk_shares {K : PySem.W.Frag} {w : World} {mg : Str → Option Value} (T : Tx K w mg) : FOk K T.cs fld_shares "shares" := fun c i h => by
  unfold fld_shares at h
  split at h
  · cases h
    exact ⟨T.clConfig, T.nConfig_shares, rfl, show (lys.getD 1 []).Nodup by decide +kernel⟩
  · cases h
theorem Tx.fk_devices {K : PySem.W.Frag} {w : World} {mg : Str → Option Value} (T : Tx K w mg) : FOk K T.cs fld_devices "devices" := fun c i h => by
  unfold fld_devices at h
  split at h
  · cases h
    exact ⟨T.clConfig, T.nConfig_devices, rfl, show (lys.getD 1 []).Nodup by decide +kernel⟩
  · cases h
theorem Tx.fk_flows {K : PySem.W.Frag} {w : World} {mg : Str → Option Value} (T : Tx K w mg) : FOk K T.cs fld_flows "flows" := fun c i h => by
  unfold fld_flows at h
  split at h
  · cases h
    exact ⟨T.clConfig, T.nConfig_flows, rfl, show (lys.getD 1 []).Nodup by decide +kernel⟩
  · cases h
section
variable {P : Program} {w : World} {K : PySem.W.Frag} {mg : Str → Option Value} {base : Heap}
theorem ok_PartitionInit (T : Tx K w mg) : FnOk P w K mg base (L2N.CX P w) 1 T.aPartitionInit T.fdPartitionInit PPartitionInit (spW K T.cs cPartitionInit) := by
  unfold cPartitionInit
  exact ok_W T.mPartitionInit.F scPartitionInit rfl fun cdv A outer s H E hr tk => by
    unfold wdPartitionInit
    exact (wss_cons (ws_setF T.fk_image (we_var (pv 0)) (wo_lift (pe_imp (pe_callTy call_tuple_of (by rfl) T.b_tuple (by decide +kernel) (wa_cons (we_var (pv 1)) wa_nil)) (e_tupOf))) rfl)
(wss_cons (ws_setF T.fk_pages (we_var (pv 0)) (wo_lift (we_var (pv 2))) rfl)
(wss_one (ws_setF T.fk_start (we_var (pv 0)) (wo_lift (we_var (pv 3))) rfl))))

theorem ok_PartitionFields (T : Tx K w mg) : FnOk P w K mg base (L2N.CX P w) 1 T.aPartitionFields T.fdPartitionFields PPartitionFields (spW K T.cs cPartitionFields) := by
  unfold cPartitionFields
  exact ok_W T.mPartitionFields.F scPartitionFields rfl fun cdv A outer s H E hr tk => by
    unfold wdPartitionFields
    exact (wss_one (ws_ret (we_tup (wa_cons (we_fld T.fk_image (we_var (pv 0)) rfl) (wa_cons (we_fld T.fk_pages (we_var (pv 0)) rfl) (wa_cons (we_fld T.fk_start (we_var (pv 0)) rfl) wa_nil))))))

theorem ok_ConfigInit (T : Tx K w mg) : FnOk P w K mg base (L2N.CX P w) 1 T.aConfigInit T.fdConfigInit PConfigInit (spW K T.cs cConfigInit) := by
  unfold cConfigInit
  exact ok_W T.mConfigInit.F scConfigInit rfl fun cdv A outer s H E hr tk => by
    unfold wdConfigInit
    exact (wss_cons (ws_setF T.fk_partitions (we_var (pv 0)) (wo_lift (pe_imp (pe_callTy call_tuple_of (by rfl) T.b_tuple (by decide +kernel) (wa_cons (we_var (pv 1)) wa_nil)) (e_tupOf))) rfl)
(wss_cons (ws_setF T.fk_frames (we_var (pv 0)) (wo_lift (pe_imp (pe_callTy call_tuple_of (by rfl) T.b_tuple (by decide +kernel) (wa_cons (we_var (pv 2)) wa_nil)) (e_tupOf))) rfl)
(wss_cons (ws_setF T.fk_channels (we_var (pv 0)) (wo_lift (pe_imp (pe_callTy call_tuple_of (by rfl) T.b_tuple (by decide +kernel) (wa_cons (we_var (pv 3)) wa_nil)) (e_tupOf))) rfl)
(wss_cons (ws_setF T.fk_shares (we_var (pv 0)) (wo_lift (pe_imp (pe_callTy call_tuple_of (by rfl) T.b_tuple (by decide +kernel) (wa_cons (we_var (pv 4)) wa_nil)) (e_tupOf))) rfl)
(wss_cons (ws_setF T.fk_devices (we_var (pv 0)) (wo_lift (pe_imp (pe_callTy call_tuple_of (by rfl) T.b_tuple (by decide +kernel) (wa_cons (we_var (pv 5)) wa_nil)) (e_tupOf))) rfl)
(wss_one (ws_setF T.fk_flows (we_var (pv 0)) (wo_lift (pe_imp (pe_callTy call_tuple_of (by rfl) T.b_tuple (by decide +kernel) (wa_cons (we_var (pv 6)) wa_nil)) (e_tupOf))) rfl)))))))

theorem ok_ConfigFields (T : Tx K w mg) : FnOk P w K mg base (L2N.CX P w) 1 T.aConfigFields T.fdConfigFields PConfigFields (spW K T.cs cConfigFields) := by
  unfold cConfigFields
  exact ok_W T.mConfigFields.F scConfigFields rfl fun cdv A outer s H E hr tk => by
    unfold wdConfigFields
    exact (wss_one (ws_ret (we_tup (wa_cons (we_fld T.fk_partitions (we_var (pv 0)) rfl) (wa_cons (we_fld T.fk_frames (we_var (pv 0)) rfl) (wa_cons (we_fld T.fk_channels (we_var (pv 0)) rfl) (wa_cons (we_fld T.fk_shares (we_var (pv 0)) rfl) (wa_cons (we_fld T.fk_devices (we_var (pv 0)) rfl) (wa_cons (we_fld T.fk_flows (we_var (pv 0)) rfl) wa_nil)))))))))

theorem ok_ShareRights (T : Tx K w mg) : FnOk P w K mg base (L2N.CX P w) 1 T.aShareRights T.fdShareRights PShareRights (spW K T.cs cShareRights) := by
  unfold cShareRights
  exact ok_W T.dShareRights.F scShareRights rfl fun cdv A outer s H E hr tk => by
    unfold wdShareRights
    exact (wss_cons (ws_asgT (tg_tup (js := [2, 3]) rfl) (ps_asg (we_var (pv 0)) (pg_tup rfl (pgs_cons (pg_name (i := 2) scShareRights.nd rfl (Or.inl rfl)) (pgs_cons (pg_name (i := 3) scShareRights.nd rfl (Or.inl rfl)) pgs_nil)))))
(wss_cons (ws_if (wt_cmp (op_eqA hr.units) s_eq (we_var (pv 1)) (we_var (pv 2)) (nomark _)) (wss_one (ws_ret (we_add (we_c (pe_glob (v := .int 1) (by rfl) T.gREAD.choose_spec ⟨_, rfl⟩) fun _ => .int _) (we_c (pe_glob (v := .int 2) (by rfl) T.gWRITE.choose_spec ⟨_, rfl⟩) fun _ => .int _)))) wss_nil)
(wss_cons (ws_if (wt_cmp (op_eqA hr.units) s_eq (we_var (pv 1)) (we_var (pv 3)) (nomark _)) (wss_one (ws_ret (we_c (pe_glob (v := .int 1) (by rfl) T.gREAD.choose_spec ⟨_, rfl⟩) fun _ => .int _))) wss_nil)
(wss_one (ws_ret we_int)))))

theorem ok_PageMap (T : Tx K w mg) : FnOk P w K mg base (L2N.CX P w) 2 T.aPageMap T.fdPageMap PPageMap (spW K T.cs cPageMap) := by
  unfold cPageMap
  exact ok_W T.dPageMap.F scPageMap rfl fun cdv A outer s H E hr tk => by
    unfold wdPageMap
    exact (wss_cons (s_setLc tg_name (tgw_name (by decide)) (ps_setLc (i := 2) (own := [("index", 3)]) rfl scPageMap.nd rfl rfl (sw_true rfl rfl rfl (by decide +kernel)) (wi_rng1 (pi_range1 (by rfl) T.b_range (wa_cons (we_fld T.fk_pages (we_idx (we_fld T.fk_partitions (we_var (pv 0)) rfl) (we_var (pv 1)) (fun _ _ => rfl)) rfl) wa_nil))) (blkOk_by (own := [("index", 3)]) (N := NPageMap) (sc := defScope sPageMap) (by decide +kernel)) (fun _ _ _ _ _ => (pg_name (i := 3) scPageMap.nd rfl (Or.inl rfl))) (fun _ _ _ _ _ => wts_nil) (fun _ _ _ _ _ => (wo_lift (we_tup (wa_cons we_str (wa_cons (we_var (pv 3)) (wa_cons (we_add (we_add (we_c (pe_glob (v := .int 1) (by rfl) T.gREAD.choose_spec ⟨_, rfl⟩) fun _ => .int _) (we_c (pe_glob (v := .int 2) (by rfl) T.gWRITE.choose_spec ⟨_, rfl⟩) fun _ => .int _)) (we_c (pe_glob (v := .int 4) (by rfl) T.gEXECUTE.choose_spec ⟨_, rfl⟩) fun _ => .int _)) wa_nil))))))))
(wss_cut (ws_for (tg_tup (js := [3, 4]) rfl) (ps_for PassesOwn.leaving rfl (pi_imp (pi_enumT (by rfl) T.b_enumerate (wa_cons (we_fld T.fk_shares (we_var (pv 0)) rfl) wa_nil)) i_enumT) (pg_tup rfl (pgs_cons (pg_name (i := 3) scPageMap.nd rfl (Or.inl rfl)) (pgs_cons (pg_name (i := 4) scPageMap.nd rfl (Or.inl rfl)) pgs_nil))) (wss_cons (ws_asg (ps_set (i := 5) scPageMap.nd rfl (Or.inl rfl) (we_frz (wo_call (pe_callS (ok_ShareRights T) (hr.mono (by decide)) (by rfl) T.dShareRights.g T.dShareRights.F.kp T.dShareRights.b (fun σ => L2N.passAt tk σ) (wa_cons (we_var (pv 4)) (wa_cons (we_var (pv 1)) wa_nil)))))))
(wss_one (ws_if (wt_cmp op_gt s_gt (we_var (pv 5)) we_int (nomark _)) (wss_one (ws_app (ps_expr (pe_bm PySem.F.plainAttrs_list PySem.F.slot_list_append PySem.F.type_list_append mt_append (we_var (pv 2)) (pa_cons (wo_lift (we_tup (wa_cons we_str (wa_cons (we_var (pv 3)) (wa_cons (we_var (pv 5)) wa_nil))))) pa_nil))))) wss_nil)))))
(wss_cut (ws_for (tg_tup (js := [3, 6]) rfl) (ps_for PassesOwn.leaving rfl (pi_imp (pi_enumT (by rfl) T.b_enumerate (wa_cons (we_fld T.fk_devices (we_var (pv 0)) rfl) wa_nil)) i_enumT) (pg_tup rfl (pgs_cons (pg_name (i := 3) scPageMap.nd rfl (Or.inl rfl)) (pgs_cons (pg_name (i := 6) scPageMap.nd rfl (Or.inl rfl)) pgs_nil))) (wss_one (ws_if (wt_cmp (op_eqA hr.units) s_eq (we_var (pv 6)) (we_var (pv 1)) (nomark _)) (wss_one (ws_app (ps_expr (pe_bm PySem.F.plainAttrs_list PySem.F.slot_list_append PySem.F.type_list_append mt_append (we_var (pv 2)) (pa_cons (wo_lift (we_tup (wa_cons we_str (wa_cons (we_var (pv 3)) (wa_cons (we_c (pe_glob (v := .int 1) (by rfl) T.gREAD.choose_spec ⟨_, rfl⟩) fun _ => .int _) wa_nil))))) pa_nil))))) wss_nil))))
(wss_one (ws_ret (we_var (pv 2)))))))

theorem ok_MayFlow (T : Tx K w mg) : FnOk P w K mg base (L2N.CX P w) 1 T.aMayFlow T.fdMayFlow PMayFlow (spW K T.cs cMayFlow) := by
  unfold cMayFlow
  exact ok_W T.dMayFlow.F scMayFlow rfl fun cdv A outer s H E hr tk => by
    unfold wdMayFlow
    exact (wss_one (ws_ret (we_orV (we_cmp (op_eqA hr.units) s_eq (we_var (pv 1)) (we_var (pv 2)) (nomark _)) (pe_one (we_cmp (op_inT hr.units) s_inT (we_tup (wa_cons (we_var (pv 1)) (wa_cons (we_var (pv 2)) wa_nil))) (we_fld T.fk_flows (we_var (pv 0)) rfl) rfl)))))

theorem ok_IsWord (T : Tx K w mg) : FnOk P w K mg base (L2N.CX P w) 1 T.aIsWord T.fdIsWord PIsWord (spW K T.cs cIsWord) := by
  unfold cIsWord
  exact ok_W T.dIsWord.F scIsWord rfl fun cdv A outer s H E hr tk => by
    unfold wdIsWord
    exact (wss_one (ws_ret (we_chain op_le op_lt s_le s_lt we_int (we_var (pv 0)) (we_c (pe_glob (v := .int 65536) (by rfl) T.gWORDS.choose_spec ⟨_, rfl⟩) fun _ => .int _) (pe_chain op_le op_lt we_int (we_var (pv 0)) (we_c (pe_glob (v := .int 65536) (by rfl) T.gWORDS.choose_spec ⟨_, rfl⟩) fun _ => .int _)))))

theorem ok_IsInteger (T : Tx K w mg) : FnOk P w K mg base (L2N.CX P w) 1 T.aIsInteger T.fdIsInteger PIsInteger (spW K T.cs cIsInteger) := by
  unfold cIsInteger
  exact ok_W T.dIsInteger.F scIsInteger rfl fun cdv A outer s H E hr tk => by
    unfold wdIsInteger
    exact (wss_one (ws_ret (we_andV (we_isT (pe_callB (id := "isinstance") call_isi (by rfl) T.b_isinstance (by decide +kernel) (pa_cons (we_var (pv 0)) (pa_cons (pe_bltn (v := .ty "int") (by rfl) T.b_int (by decide +kernel) rfl) pa_nil)))) (pe_one (we_not (we_isT (pe_callB (id := "isinstance") call_isi (by rfl) T.b_isinstance (by decide +kernel) (pa_cons (we_var (pv 0)) (pa_cons (pe_bltn (v := .ty "bool") (by rfl) T.b_bool (by decide +kernel) rfl) pa_nil)))))))))

theorem ok_IsWithin (T : Tx K w mg) : FnOk P w K mg base (L2N.CX P w) 2 T.aIsWithin T.fdIsWithin PIsWithin (spW K T.cs cIsWithin) := by
  unfold cIsWithin
  exact ok_W T.dIsWithin.F scIsWithin rfl fun cdv A outer s H E hr tk => by
    unfold wdIsWithin
    exact (wss_one (ws_ret (we_andV (we_frz (wo_call (pe_callS (ok_IsInteger T) (hr.mono (by decide)) (by rfl) T.dIsInteger.g T.dIsInteger.F.kp T.dIsInteger.b (fun σ => L2N.passAt tk σ) (wa_cons (we_var (pv 0)) wa_nil)))) (pe_one (we_chain op_le op_le s_le s_le (we_var (pv 1)) (we_var (pv 0)) (we_var (pv 2)) (pe_chain op_le op_le (we_var (pv 1)) (we_var (pv 0)) (we_var (pv 2))))))))

theorem ok_IsTupleOf (T : Tx K w mg) : FnOk P w K mg base (L2N.CX P w) 1 T.aIsTupleOf T.fdIsTupleOf PIsTupleOf (spW K T.cs cIsTupleOf) := by
  unfold cIsTupleOf
  exact ok_W T.dIsTupleOf.F scIsTupleOf rfl fun cdv A outer s H E hr tk => by
    unfold wdIsTupleOf
    exact (wss_one (ws_ret (we_andV (we_isT (pe_callB (id := "isinstance") call_isi (by rfl) T.b_isinstance (by decide +kernel) (pa_cons (we_var (pv 0)) (pa_cons (pe_bltn (v := .ty "tuple") (by rfl) T.b_tuple (by decide +kernel) rfl) pa_nil)))) (pe_one (we_cmp (op_eqA hr.units) s_eq (pe_imp (pe_callB call_len (by rfl) T.b_len PySem.boot_len (wa_cons (we_var (pv 0)) wa_nil)) (e_cb sa_len)) (we_var (pv 1)) (nomark _))))))

theorem ok_IsPartition (T : Tx K w mg) : FnOk P w K mg base (L2N.CX P w) 3 T.aIsPartition T.fdIsPartition PIsPartition (spW K T.cs cIsPartition) := by
  unfold cIsPartition
  exact ok_W T.dIsPartition.F scIsPartition rfl fun cdv A outer s H E hr tk => by
    unfold wdIsPartition
    exact (wss_one (ws_retO (wo_call (pe_callS (ok_IsWithin T) (hr.mono (by decide)) (by rfl) T.dIsWithin.g T.dIsWithin.F.kp T.dIsWithin.b (fun σ => L2N.passAt tk σ) (wa_cons (we_var (pv 1)) (wa_cons we_int (wa_cons (we_sub (pe_imp (pe_callB call_len (by rfl) T.b_len PySem.boot_len (wa_cons (we_fld T.fk_partitions (we_var (pv 0)) rfl) wa_nil)) (e_cb sa_len)) we_int) wa_nil)))))))

theorem ok_AreDifferent (T : Tx K w mg) : FnOk P w K mg base (L2N.CX P w) 4 T.aAreDifferent T.fdAreDifferent PAreDifferent (spW K T.cs cAreDifferent) := by
  unfold cAreDifferent
  exact ok_W T.dAreDifferent.F scAreDifferent rfl fun cdv A outer s H E hr tk => by
    unfold wdAreDifferent
    exact (wss_one (ws_ret (we_andV (we_frz (wo_call (pe_callS (ok_IsPartition T) (hr.mono (by decide)) (by rfl) T.dIsPartition.g T.dIsPartition.F.kp T.dIsPartition.b (fun σ => L2N.passAt tk σ) (wa_cons (we_var (pv 0)) (wa_cons (we_var (pv 1)) wa_nil))))) (we_andV (we_frz (wo_call (pe_callS (ok_IsPartition T) (hr.mono (by decide)) (by rfl) T.dIsPartition.g T.dIsPartition.F.kp T.dIsPartition.b (fun σ => L2N.passAt tk σ) (wa_cons (we_var (pv 0)) (wa_cons (we_var (pv 2)) wa_nil))))) (pe_one (we_cmp (op_neA hr.units) s_ne (we_var (pv 1)) (we_var (pv 2)) (nomark _)))))))

theorem ok_CountFault (T : Tx K w mg) : FnOk P w K mg base (L2N.CX P w) 1 T.aCountFault T.fdCountFault PCountFault (spW K T.cs cCountFault) := by
  unfold cCountFault
  exact ok_W T.dCountFault.F scCountFault rfl fun cdv A outer s H E hr tk => by
    unfold wdCountFault
    exact (wss_cons (ws_asg (ps_set (i := 1) scCountFault.nd rfl (Or.inl rfl) (we_tup (wa_cons (we_tup (wa_cons we_str (wa_cons (pe_imp (pe_callB call_len (by rfl) T.b_len PySem.boot_len (wa_cons (we_fld T.fk_partitions (we_var (pv 0)) rfl) wa_nil)) (e_cb sa_len)) (wa_cons we_int (wa_cons we_int wa_nil))))) (wa_cons (we_tup (wa_cons we_str (wa_cons (pe_imp (pe_callB call_len (by rfl) T.b_len PySem.boot_len (wa_cons (we_fld T.fk_frames (we_var (pv 0)) rfl) wa_nil)) (e_cb sa_len)) (wa_cons we_int (wa_cons we_int wa_nil))))) (wa_cons (we_tup (wa_cons we_str (wa_cons (pe_imp (pe_callB call_len (by rfl) T.b_len PySem.boot_len (wa_cons (we_fld T.fk_channels (we_var (pv 0)) rfl) wa_nil)) (e_cb sa_len)) (wa_cons we_int (wa_cons we_int wa_nil))))) (wa_cons (we_tup (wa_cons we_str (wa_cons (pe_imp (pe_callB call_len (by rfl) T.b_len PySem.boot_len (wa_cons (we_fld T.fk_shares (we_var (pv 0)) rfl) wa_nil)) (e_cb sa_len)) (wa_cons we_int (wa_cons we_int wa_nil))))) (wa_cons (we_tup (wa_cons we_str (wa_cons (pe_imp (pe_callB call_len (by rfl) T.b_len PySem.boot_len (wa_cons (we_fld T.fk_devices (we_var (pv 0)) rfl) wa_nil)) (e_cb sa_len)) (wa_cons we_int (wa_cons we_int wa_nil))))) (wa_cons (we_tup (wa_cons we_str (wa_cons (pe_imp (pe_callB call_len (by rfl) T.b_len PySem.boot_len (wa_cons (we_fld T.fk_flows (we_var (pv 0)) rfl) wa_nil)) (e_cb sa_len)) (wa_cons we_int (wa_cons we_int wa_nil))))) wa_nil)))))))))
(wss_cut (ws_for (tg_tup (js := [2, 3, 4, 5]) rfl) (ps_for PassesOwn.leaving rfl (wi_tup (we_var (pv 1))) (pg_tup rfl (pgs_cons (pg_name (i := 2) scCountFault.nd rfl (Or.inl rfl)) (pgs_cons (pg_name (i := 3) scCountFault.nd rfl (Or.inl rfl)) (pgs_cons (pg_name (i := 4) scCountFault.nd rfl (Or.inl rfl)) (pgs_cons (pg_name (i := 5) scCountFault.nd rfl (Or.inl rfl)) pgs_nil))))) (wss_one (ws_if (wt_not (wt_chain s_le s_le (pt_chain op_le op_le (we_var (pv 4)) (we_var (pv 3)) (we_var (pv 5))))) (wss_one (ws_ret (we_tup (wa_cons (we_var (pv 2)) (wa_cons (we_var (pv 3)) wa_nil))))) wss_nil))))
(wss_one (ws_ret we_non))))

theorem ok_PartitionFits (T : Tx K w mg) : FnOk P w K mg base (L2N.CX P w) 3 T.aPartitionFits T.fdPartitionFits PPartitionFits (spW K T.cs cPartitionFits) := by
  unfold cPartitionFits
  exact ok_W T.dPartitionFits.F scPartitionFits rfl fun cdv A outer s H E hr tk => by
    unfold wdPartitionFits
    exact (wss_cons (ws_if (wt_not (wt_val (we_frz (wo_call (pe_callS (ok_IsWithin T) (hr.mono (by decide)) (by rfl) T.dIsWithin.g T.dIsWithin.F.kp T.dIsWithin.b (fun σ => L2N.passAt tk σ) (wa_cons (we_fld T.fk_pages (we_var (pv 1)) rfl) (wa_cons we_int (wa_cons (we_c (pe_glob (v := .int 8) (by rfl) T.gVIRTUAL.choose_spec ⟨_, rfl⟩) fun _ => .int _) wa_nil)))))))) (wss_one (ws_ret we_bl)) wss_nil)
(wss_cons (ws_asg (ps_set (i := 2) scPartitionFits.nd rfl (Or.inl rfl) (we_mul (we_fld T.fk_pages (we_var (pv 1)) rfl) (we_c (pe_glob (v := .int 16) (by rfl) T.gPAGE.choose_spec ⟨_, rfl⟩) fun _ => .int _))))
(wss_cons (ws_if (ww_or (wt_cmp op_gt s_gt (pe_imp (pe_callB call_len (by rfl) T.b_len PySem.boot_len (wa_cons (we_fld T.fk_image (we_var (pv 1)) rfl) wa_nil)) (e_cb sa_len)) (we_var (pv 2)) (nomark _)) (pw_or1 (wt_not (wt_val (we_frz (wo_call (pe_callS (ok_IsWithin T) (hr.mono (by decide)) (by rfl) T.dIsWithin.g T.dIsWithin.F.kp T.dIsWithin.b (fun σ => L2N.passAt tk σ) (wa_cons (we_fld T.fk_start (we_var (pv 1)) rfl) (wa_cons we_int (wa_cons (we_sub (we_var (pv 2)) we_int) wa_nil)))))))))).pt (wss_one (ws_ret we_bl)) wss_nil)
(wss_one (ws_ret (pe_imp (pe_callB (id := "all") (cr_all rfl) (by rfl) T.b_all (by decide +kernel) (wa_cons (we_frz (wo_lc tg_name (tgw_name (by decide)) (pe_lc (own := [("word", 3)]) rfl scPartitionFits.nd (wi_tup (we_fld T.fk_image (we_var (pv 1)) rfl)) (blkOk_by (own := [("word", 3)]) (N := NPartitionFits) (sc := defScope sPartitionFits) (by decide +kernel)) (fun _ _ _ _ _ => (pg_name (i := 3) scPartitionFits.nd rfl (Or.inl rfl))) (fun _ _ _ _ _ => wts_nil) (fun _ _ _ _ _ => (wo_lift (we_andV (we_frz (wo_call (pe_callS (ok_IsInteger T) (hr.mono (by decide)) (by rfl) T.dIsInteger.g T.dIsInteger.F.kp T.dIsInteger.b (fun σ => L2N.passAt takesNo σ) (wa_cons (we_var (pv 3)) wa_nil)))) (pe_one (we_frz (wo_call (pe_callS (ok_IsWord T) (hr.mono (by decide)) (by rfl) T.dIsWord.g T.dIsWord.F.kp T.dIsWord.b (fun σ => L2N.passAt takesNo σ) (wa_cons (we_var (pv 3)) wa_nil))))))))))) wa_nil)) (e_cb sa_all)))))))

theorem ok_FrameFits (T : Tx K w mg) : FnOk P w K mg base (L2N.CX P w) 4 T.aFrameFits T.fdFrameFits PFrameFits (spW K T.cs cFrameFits) := by
  unfold cFrameFits
  exact ok_W T.dFrameFits.F scFrameFits rfl fun cdv A outer s H E hr tk => by
    unfold wdFrameFits
    exact (wss_cons (ws_if (wt_not (wt_val (we_frz (wo_call (pe_callS (ok_IsTupleOf T) (hr.mono (by decide)) (by rfl) T.dIsTupleOf.g T.dIsTupleOf.F.kp T.dIsTupleOf.b (fun σ => L2N.passAt tk σ) (wa_cons (we_var (pv 1)) (wa_cons we_int wa_nil))))))) (wss_one (ws_ret we_bl)) wss_nil)
(wss_cons (ws_asgT (tg_tup (js := [2, 3]) rfl) (ps_asg (we_var (pv 1)) (pg_tup rfl (pgs_cons (pg_name (i := 2) scFrameFits.nd rfl (Or.inl rfl)) (pgs_cons (pg_name (i := 3) scFrameFits.nd rfl (Or.inl rfl)) pgs_nil)))))
(wss_one (ws_ret (we_andV (we_orV (we_cmp op_isN s_is (we_var (pv 2)) we_non (nomark _)) (pe_one (we_frz (wo_call (pe_callS (ok_IsPartition T) (hr.mono (by decide)) (by rfl) T.dIsPartition.g T.dIsPartition.F.kp T.dIsPartition.b (fun σ => L2N.passAt tk σ) (wa_cons (we_var (pv 0)) (wa_cons (we_var (pv 2)) wa_nil))))))) (pe_one (we_frz (wo_call (pe_callS (ok_IsWithin T) (hr.mono (by decide)) (by rfl) T.dIsWithin.g T.dIsWithin.F.kp T.dIsWithin.b (fun σ => L2N.passAt tk σ) (wa_cons (we_var (pv 3)) (wa_cons we_int (wa_cons we_int wa_nil))))))))))))

theorem ok_ChannelFits (T : Tx K w mg) : FnOk P w K mg base (L2N.CX P w) 5 T.aChannelFits T.fdChannelFits PChannelFits (spW K T.cs cChannelFits) := by
  unfold cChannelFits
  exact ok_W T.dChannelFits.F scChannelFits rfl fun cdv A outer s H E hr tk => by
    unfold wdChannelFits
    exact (wss_cons (ws_if (wt_not (wt_val (we_frz (wo_call (pe_callS (ok_IsTupleOf T) (hr.mono (by decide)) (by rfl) T.dIsTupleOf.g T.dIsTupleOf.F.kp T.dIsTupleOf.b (fun σ => L2N.passAt tk σ) (wa_cons (we_var (pv 1)) (wa_cons we_int wa_nil))))))) (wss_one (ws_ret we_bl)) wss_nil)
(wss_cons (ws_asgT (tg_tup (js := [2, 3, 4, 5]) rfl) (ps_asg (we_var (pv 1)) (pg_tup rfl (pgs_cons (pg_name (i := 2) scChannelFits.nd rfl (Or.inl rfl)) (pgs_cons (pg_name (i := 3) scChannelFits.nd rfl (Or.inl rfl)) (pgs_cons (pg_name (i := 4) scChannelFits.nd rfl (Or.inl rfl)) (pgs_cons (pg_name (i := 5) scChannelFits.nd rfl (Or.inl rfl)) pgs_nil)))))))
(wss_one (ws_ret (we_andV (we_frz (wo_call (pe_callS (ok_AreDifferent T) (hr.mono (by decide)) (by rfl) T.dAreDifferent.g T.dAreDifferent.F.kp T.dAreDifferent.b (fun σ => L2N.passAt tk σ) (wa_cons (we_var (pv 0)) (wa_cons (we_var (pv 2)) (wa_cons (we_var (pv 3)) wa_nil)))))) (we_andV (we_frz (wo_call (pe_callS (ok_IsWithin T) (hr.mono (by decide)) (by rfl) T.dIsWithin.g T.dIsWithin.F.kp T.dIsWithin.b (fun σ => L2N.passAt tk σ) (wa_cons (we_var (pv 4)) (wa_cons we_int (wa_cons we_int wa_nil)))))) (pe_one (we_isT (pe_callB (id := "isinstance") call_isi (by rfl) T.b_isinstance (by decide +kernel) (pa_cons (we_var (pv 5)) (pa_cons (pe_bltn (v := .ty "bool") (by rfl) T.b_bool (by decide +kernel) rfl) pa_nil)))))))))))

theorem ok_PairFits (T : Tx K w mg) : FnOk P w K mg base (L2N.CX P w) 5 T.aPairFits T.fdPairFits PPairFits (spW K T.cs cPairFits) := by
  unfold cPairFits
  exact ok_W T.dPairFits.F scPairFits rfl fun cdv A outer s H E hr tk => by
    unfold wdPairFits
    exact (wss_one (ws_ret (we_andV (we_frz (wo_call (pe_callS (ok_IsTupleOf T) (hr.mono (by decide)) (by rfl) T.dIsTupleOf.g T.dIsTupleOf.F.kp T.dIsTupleOf.b (fun σ => L2N.passAt tk σ) (wa_cons (we_var (pv 1)) (wa_cons we_int wa_nil))))) (pe_one (we_frz (wo_call (pe_callS (ok_AreDifferent T) (hr.mono (by decide)) (by rfl) T.dAreDifferent.g T.dAreDifferent.F.kp T.dAreDifferent.b (fun σ => L2N.passAt tk σ) (wa_cons (we_var (pv 0)) (wa_cons (we_idx (we_var (pv 1)) we_int (fun _ _ => rfl)) (wa_cons (we_idx (we_var (pv 1)) we_int (fun _ _ => rfl)) wa_nil))))))))))

theorem ok_DeviceFits (T : Tx K w mg) : FnOk P w K mg base (L2N.CX P w) 4 T.aDeviceFits T.fdDeviceFits PDeviceFits (spW K T.cs cDeviceFits) := by
  unfold cDeviceFits
  exact ok_W T.dDeviceFits.F scDeviceFits rfl fun cdv A outer s H E hr tk => by
    unfold wdDeviceFits
    exact (wss_one (ws_retO (wo_call (pe_callS (ok_IsPartition T) (hr.mono (by decide)) (by rfl) T.dIsPartition.g T.dIsPartition.F.kp T.dIsPartition.b (fun σ => L2N.passAt tk σ) (wa_cons (we_var (pv 0)) (wa_cons (we_var (pv 1)) wa_nil))))))

theorem ok_PagesFit (T : Tx K w mg) : FnOk P w K mg base (L2N.CX P w) 3 T.aPagesFit T.fdPagesFit PPagesFit (spW K T.cs cPagesFit) := by
  unfold cPagesFit
  exact ok_W T.dPagesFit.F scPagesFit rfl fun cdv A outer s H E hr tk => by
    unfold wdPagesFit
    exact (wss_one (ws_ret (we_cmp op_le s_le (pe_imp (pe_callB call_len (by rfl) T.b_len PySem.boot_len (wa_cons (we_frz (wo_call (pe_callS (ok_PageMap T) (hr.mono (by decide)) (by rfl) T.dPageMap.g T.dPageMap.F.kp T.dPageMap.b (fun σ => L2N.passAt tk σ) (wa_cons (we_var (pv 0)) (wa_cons (we_var (pv 1)) wa_nil))))) wa_nil)) (e_cb sa_len)) (we_c (pe_glob (v := .int 8) (by rfl) T.gVIRTUAL.choose_spec ⟨_, rfl⟩) fun _ => .int _) (nomark _))))

theorem ok_ShapeFault (T : Tx K w mg) : FnOk P w K mg base (L2N.CX P w) 6 T.aShapeFault T.fdShapeFault PShapeFault (spW K T.cs cShapeFault) := by
  unfold cShapeFault
  exact ok_W T.dShapeFault.F scShapeFault rfl fun cdv A outer s H E hr tk => by
    unfold wdShapeFault
    exact (wss_cons (ws_asg (ps_set (i := 1) scShapeFault.nd rfl (Or.inl rfl) (we_tup (wa_cons (we_tup (wa_cons we_str (wa_cons (we_fld T.fk_partitions (we_var (pv 0)) rfl) wa_nil))) (wa_cons (we_tup (wa_cons we_str (wa_cons (we_fld T.fk_frames (we_var (pv 0)) rfl) wa_nil))) (wa_cons (we_tup (wa_cons we_str (wa_cons (we_fld T.fk_channels (we_var (pv 0)) rfl) wa_nil))) (wa_cons (we_tup (wa_cons we_str (wa_cons (we_fld T.fk_shares (we_var (pv 0)) rfl) wa_nil))) (wa_cons (we_tup (wa_cons we_str (wa_cons (we_fld T.fk_devices (we_var (pv 0)) rfl) wa_nil))) (wa_cons (we_tup (wa_cons we_str (wa_cons (we_fld T.fk_flows (we_var (pv 0)) rfl) wa_nil))) (wa_cons (we_tup (wa_cons we_str (wa_cons (we_tupRng (pe_tupRng rfl (by rfl) T.b_tuple (by rfl) T.b_range (pe_imp (pe_callB call_len (by rfl) T.b_len PySem.boot_len (wa_cons (we_fld T.fk_partitions (we_var (pv 0)) rfl) wa_nil)) (e_cb sa_len)))) wa_nil))) wa_nil))))))))))
(wss_cut (ws_for (tg_tup (js := [2, 3]) rfl) (ps_for PassesOwn.leaving rfl (wi_tup (we_var (pv 1))) (pg_tup rfl (pgs_cons (pg_name (i := 2) scShapeFault.nd rfl (Or.inl rfl)) (pgs_cons (pg_name (i := 3) scShapeFault.nd rfl (Or.inl rfl)) pgs_nil))) (wss_cons (ws_asg (ps_set (i := 4) scShapeFault.nd rfl (Or.inl rfl) (we_kd (T.kFITTING T.cs rfl) (pe_ix ix_kdict (pe_glob (v := .ref T.aFITTING) (by rfl) T.gFITTING rfl) (we_var (pv 2)) (fun _ _ => rfl)))))
(wss_one (ws_for (tg_tup (js := [5, 6]) rfl) (ps_for PassesOwn.leaving rfl (pi_imp (pi_enumT (by rfl) T.b_enumerate (wa_cons (we_var (pv 3)) wa_nil)) i_enumT) (pg_tup rfl (pgs_cons (pg_name (i := 5) scShapeFault.nd rfl (Or.inl rfl)) (pgs_cons (pg_name (i := 6) scShapeFault.nd rfl (Or.inl rfl)) pgs_nil))) (wss_one (ws_if (wt_not (wt_val (we_frz (wo_callF (all_cons (pe_callLS (ok_PartitionFits T) (hr.mono (by decide)) rfl (Or.inl rfl) T.dPartitionFits.F.kp T.dPartitionFits.b (fun σ => L2N.passAt tk σ) (wa_cons (we_var (pv 0)) (wa_cons (we_var (pv 6)) wa_nil)))
 (all_cons (pe_callLS (ok_FrameFits T) (hr.mono (by decide)) rfl (Or.inl rfl) T.dFrameFits.F.kp T.dFrameFits.b (fun σ => L2N.passAt tk σ) (wa_cons (we_var (pv 0)) (wa_cons (we_var (pv 6)) wa_nil)))
 (all_cons (pe_callLS (ok_ChannelFits T) (hr.mono (by decide)) rfl (Or.inl rfl) T.dChannelFits.F.kp T.dChannelFits.b (fun σ => L2N.passAt tk σ) (wa_cons (we_var (pv 0)) (wa_cons (we_var (pv 6)) wa_nil)))
 (all_cons (pe_callLS (ok_PairFits T) (hr.mono (by decide)) rfl (Or.inl rfl) T.dPairFits.F.kp T.dPairFits.b (fun σ => L2N.passAt tk σ) (wa_cons (we_var (pv 0)) (wa_cons (we_var (pv 6)) wa_nil)))
 (all_cons (pe_callLS (ok_DeviceFits T) (hr.mono (by decide)) rfl (Or.inl rfl) T.dDeviceFits.F.kp T.dDeviceFits.b (fun σ => L2N.passAt tk σ) (wa_cons (we_var (pv 0)) (wa_cons (we_var (pv 6)) wa_nil)))
 (all_cons (pe_callLS (ok_PagesFit T) (hr.mono (by decide)) rfl (Or.inl rfl) T.dPagesFit.F.kp T.dPagesFit.b (fun σ => L2N.passAt tk σ) (wa_cons (we_var (pv 0)) (wa_cons (we_var (pv 6)) wa_nil)))
 all_nil)))))))))) (wss_one (ws_ret (we_tup (wa_cons (we_var (pv 2)) (wa_cons (we_var (pv 5)) wa_nil))))) wss_nil))))))))
(wss_one (ws_ret we_non))))

theorem ok_ChannelFault (T : Tx K w mg) : FnOk P w K mg base (L2N.CX P w) 2 T.aChannelFault T.fdChannelFault PChannelFault (spW K T.cs cChannelFault) := by
  unfold cChannelFault
  exact ok_W T.dChannelFault.F scChannelFault rfl fun cdv A outer s H E hr tk => by
    unfold wdChannelFault
    exact (wss_cons (ws_asgT (tg_tup (js := [2, 3, 4, 5]) rfl) (ps_asg (we_idx (we_fld T.fk_channels (we_var (pv 0)) rfl) (we_var (pv 1)) (fun _ _ => rfl)) (pg_tup rfl (pgs_cons (pg_name (i := 2) scChannelFault.nd rfl (Or.inl rfl)) (pgs_cons (pg_name (i := 3) scChannelFault.nd rfl (Or.inl rfl)) (pgs_cons (pg_name (i := 4) scChannelFault.nd rfl (Or.inl rfl)) (pgs_cons (pg_name (i := 5) scChannelFault.nd rfl (Or.inl rfl)) pgs_nil)))))))
(wss_cons (ws_if (wt_not (wt_val (we_frz (wo_call (pe_callS (ok_MayFlow T) (hr.mono (by decide)) (by rfl) T.dMayFlow.g T.dMayFlow.F.kp T.dMayFlow.b (fun σ => L2N.passAt tk σ) (wa_cons (we_var (pv 0)) (wa_cons (we_var (pv 2)) (wa_cons (we_var (pv 3)) wa_nil)))))))) (wss_one (ws_ret (we_tup (wa_cons we_str (wa_cons (we_var (pv 1)) wa_nil))))) wss_nil)
(wss_cons (ws_if (ww_and (wt_val (we_var (pv 5))) (pw_and1 (wt_not (wt_val (we_frz (wo_call (pe_callS (ok_MayFlow T) (hr.mono (by decide)) (by rfl) T.dMayFlow.g T.dMayFlow.F.kp T.dMayFlow.b (fun σ => L2N.passAt tk σ) (wa_cons (we_var (pv 0)) (wa_cons (we_var (pv 3)) (wa_cons (we_var (pv 2)) wa_nil)))))))))).pt (wss_one (ws_ret (we_tup (wa_cons we_str (wa_cons (we_var (pv 1)) wa_nil))))) wss_nil)
(wss_one (ws_ret we_non)))))

theorem ok_FlowFault (T : Tx K w mg) : FnOk P w K mg base (L2N.CX P w) 3 T.aFlowFault T.fdFlowFault PFlowFault (spW K T.cs cFlowFault) := by
  unfold cFlowFault
  exact ok_W T.dFlowFault.F scFlowFault rfl fun cdv A outer s H E hr tk => by
    unfold wdFlowFault
    exact (wss_cut (ws_for tg_name (ps_for PassesOwn.leaving rfl (wi_rng1 (pi_range1 (by rfl) T.b_range (wa_cons (pe_imp (pe_callB call_len (by rfl) T.b_len PySem.boot_len (wa_cons (we_fld T.fk_channels (we_var (pv 0)) rfl) wa_nil)) (e_cb sa_len)) wa_nil))) (pg_name (i := 1) scFlowFault.nd rfl (Or.inl rfl)) (wss_cons (ws_asg (ps_set (i := 2) scFlowFault.nd rfl (Or.inl rfl) (we_frz (wo_call (pe_callS (ok_ChannelFault T) (hr.mono (by decide)) (by rfl) T.dChannelFault.g T.dChannelFault.F.kp T.dChannelFault.b (fun σ => L2N.passAt tk σ) (wa_cons (we_var (pv 0)) (wa_cons (we_var (pv 1)) wa_nil)))))))
(wss_one (ws_if (wt_cmp op_notN s_isnt (we_var (pv 2)) we_non (nomark _)) (wss_one (ws_ret (we_var (pv 2)))) wss_nil)))))
(wss_cut (ws_for (tg_nest (j := 1) (js := [3, 4]) rfl) (ps_for PassesOwn.leaving rfl (pi_imp (pi_enumT (by rfl) T.b_enumerate (wa_cons (we_fld T.fk_shares (we_var (pv 0)) rfl) wa_nil)) i_enumT) (pg_tup rfl (pgs_cons (pg_name (i := 1) scFlowFault.nd rfl (Or.inl rfl)) (pgs_cons (pg_tup rfl (pgs_cons (pg_name (i := 3) scFlowFault.nd rfl (Or.inl rfl)) (pgs_cons (pg_name (i := 4) scFlowFault.nd rfl (Or.inl rfl)) pgs_nil))) pgs_nil))) (wss_one (ws_if (wt_not (wt_val (we_frz (wo_call (pe_callS (ok_MayFlow T) (hr.mono (by decide)) (by rfl) T.dMayFlow.g T.dMayFlow.F.kp T.dMayFlow.b (fun σ => L2N.passAt tk σ) (wa_cons (we_var (pv 0)) (wa_cons (we_var (pv 3)) (wa_cons (we_var (pv 4)) wa_nil)))))))) (wss_one (ws_ret (we_tup (wa_cons we_str (wa_cons (we_var (pv 1)) wa_nil))))) wss_nil))))
(wss_one (ws_ret we_non))))

theorem ok_Judge (T : Tx K w mg) : FnOk P w K mg base (L2N.CX P w) 7 T.aJudge T.fdJudge PJudge (spW K T.cs cJudge) := by
  unfold cJudge
  exact ok_W T.dJudge.F scJudge rfl fun cdv A outer s H E hr tk => by
    unfold wdJudge
    exact (wss_cons (ws_asg (ps_set (i := 1) scJudge.nd rfl (Or.inl rfl) (we_frz (wo_call (pe_callS (ok_CountFault T) (hr.mono (by decide)) (by rfl) T.dCountFault.g T.dCountFault.F.kp T.dCountFault.b (fun σ => L2N.passAt tk σ) (wa_cons (we_var (pv 0)) wa_nil))))))
(wss_cut (ws_if (wt_cmp op_isN s_is (we_var (pv 1)) we_non (nomark _)) (wss_one (ws_asg (ps_set (i := 1) scJudge.nd rfl (Or.inl rfl) (we_frz (wo_call (pe_callS (ok_ShapeFault T) (hr.mono (by decide)) (by rfl) T.dShapeFault.g T.dShapeFault.F.kp T.dShapeFault.b (fun σ => L2N.passAt tk σ) (wa_cons (we_var (pv 0)) wa_nil))))))) wss_nil)
(wss_cut (ws_if (wt_cmp op_isN s_is (we_var (pv 1)) we_non (nomark _)) (wss_one (ws_asg (ps_set (i := 1) scJudge.nd rfl (Or.inl rfl) (we_frz (wo_call (pe_callS (ok_FlowFault T) (hr.mono (by decide)) (by rfl) T.dFlowFault.g T.dFlowFault.F.kp T.dFlowFault.b (fun σ => L2N.passAt tk σ) (wa_cons (we_var (pv 0)) wa_nil))))))) wss_nil)
(wss_one (ws_ret (we_var (pv 1)))))))

theorem ok_LawDraw (T : Tx K w mg) : FnOk P w K mg base (L2N.CX P w) 1 T.aLawDraw T.fdLawDraw PLawDraw (spW K T.cs cLawDraw) := by
  unfold cLawDraw
  exact ok_W T.dLawDraw.F scLawDraw rfl fun cdv A outer s H E hr tk => by
    unfold wdLawDraw
    exact (wss_cut (ws_if (wt_cmp (op_eqA hr.units) s_eq (we_idx (we_var (pv 0)) we_int (fun _ _ => rfl)) we_int (nomark _)) (wss_cons (ws_asg (ps_set (i := 3) scLawDraw.nd rfl (Or.inl rfl) we_int))
(wss_cut (ws_if (wt_cmp op_gt s_gt (pe_imp (pe_callB call_len (by rfl) T.b_len PySem.boot_len (wa_cons (we_var (pv 1)) wa_nil)) (e_cb sa_len)) we_int (nomark _)) (wss_one (ws_asg (ps_set (i := 3) scLawDraw.nd rfl (Or.inl rfl) (we_idx (we_var (pv 1)) (we_mod (we_idx (we_var (pv 0)) we_int (fun _ _ => rfl)) (pe_imp (pe_callB call_len (by rfl) T.b_len PySem.boot_len (wa_cons (we_var (pv 1)) wa_nil)) (e_cb sa_len))) (fun _ _ => rfl))))) wss_nil)
(wss_cut (ws_if (wt_cmp op_lt s_lt (we_var (pv 3)) we_int (nomark _)) (wss_one (ws_asg (ps_set (i := 3) scLawDraw.nd rfl (Or.inl rfl) (we_sub we_int (we_mul we_int (we_var (pv 3))))))) wss_nil)
(wss_cons (ws_asg (ps_set (i := 4) scLawDraw.nd rfl (Or.inl rfl) (we_mod (pe_imp (pe_callTy call_int1 (by rfl) T.b_int (by decide +kernel) (wa_cons (we_mul (we_add (we_add (we_var (pv 3)) (we_mul (we_idx (we_var (pv 0)) we_int (fun _ _ => rfl)) we_int)) we_int) we_int) wa_nil)) (e_cb sa_int)) we_int)))
(wss_cons (ws_setI (ps_asg (we_mod (pe_imp (pe_callTy call_int1 (by rfl) T.b_int (by decide +kernel) (wa_cons (we_add (we_mul (we_var (pv 4)) we_int) (we_mul (we_idx (we_var (pv 0)) we_int (fun _ _ => rfl)) we_int)) wa_nil)) (e_cb sa_int)) we_int) (pg_sub (we_var (pv 0)) we_int set_list)))
(wss_cut (ws_if (ww_and (wt_cmp op_ge s_ge (we_var (pv 3)) (we_pow we_int we_int) (nomark _)) (pw_and1 (wt_cmp op_lt s_lt (we_idx (we_var (pv 0)) we_int (fun _ _ => rfl)) (pe_imp (pe_callB call_len (by rfl) T.b_len PySem.boot_len (wa_cons (we_var (pv 1)) wa_nil)) (e_cb sa_len)) (nomark _)))).pt (wss_one (ws_setI (ps_asg (we_var (pv 3)) (pg_sub (we_var (pv 0)) we_int set_list)))) wss_nil)
(wss_one (ws_setI (ps_asg (we_add (we_idx (we_var (pv 0)) we_int (fun _ _ => rfl)) we_int) (pg_sub (we_var (pv 0)) we_int set_list)))))))))) wss_nil)
(wss_cons (ws_asg (ps_set (i := 5) scLawDraw.nd rfl (Or.inl rfl) (we_mod (pe_imp (pe_callTy call_int1 (by rfl) T.b_int (by decide +kernel) (wa_cons (we_idx (we_var (pv 0)) we_int (fun _ _ => rfl)) wa_nil)) (e_cb sa_int)) (we_var (pv 2)))))
(wss_cons (ws_setI (ps_asg (we_fdiv (we_idx (we_var (pv 0)) we_int (fun _ _ => rfl)) (we_var (pv 2))) (pg_sub (we_var (pv 0)) we_int set_list)))
(wss_one (ws_ret (we_var (pv 5)))))))

theorem ok_LawWord (T : Tx K w mg) : FnOk P w K mg base (L2N.CX P w) 1 T.aLawWord T.fdLawWord PLawWord (spW K T.cs cLawWord) := by
  unfold cLawWord
  exact ok_W T.dLawWord.F scLawWord rfl fun cdv A outer s H E hr tk => by
    unfold wdLawWord
    exact (wss_cons (ws_asg (ps_set (i := 4) scLawWord.nd rfl (Or.inl rfl) (we_frz (wo_lst (wa_cons we_str (wa_cons we_str (wa_cons we_str (wa_cons we_str (wa_cons we_str (wa_cons we_str (wa_cons we_str (wa_cons we_str (wa_cons we_str (wa_cons we_str (wa_cons we_str (wa_cons we_str (wa_cons we_str (wa_cons we_str (wa_cons we_str (wa_cons we_str (wa_cons we_str (wa_cons we_str (wa_cons we_str (wa_cons we_str wa_nil))))))))))))))))))))))))
(wss_one (ws_ret (we_add (we_add (we_add (we_shl (we_ixL (pe_bm PySem.F.plainAttrs_list PySem.F.slot_list_index PySem.F.type_list_index mt_index (we_var (pv 4)) (wa_cons (we_var (pv 0)) wa_nil))) we_int) (we_shl (we_var (pv 1)) we_int)) (we_shl (we_var (pv 2)) we_int)) (we_var (pv 3))))))

theorem ok_LawLine (T : Tx K w mg) : FnOk P w K mg base (L2N.CX P w) 2 T.aLawLine T.fdLawLine PLawLine (spW K T.cs cLawLine) := by
  unfold cLawLine
  exact ok_W T.dLawLine.F scLawLine rfl fun cdv A outer s H E hr tk => by
    unfold wdLawLine
    exact (wss_cons (ws_asg (ps_set (i := 3) scLawLine.nd rfl (Or.inl rfl) (we_frz (wo_call (pe_callS (ok_LawDraw T) (hr.mono (by decide)) (by rfl) T.dLawDraw.g T.dLawDraw.F.kp T.dLawDraw.b (fun σ => L2N.passAt tk σ) (wa_cons (we_var (pv 0)) (wa_cons (we_var (pv 1)) (wa_cons we_int wa_nil))))))))
(wss_cons (ws_asg (ps_set (i := 4) scLawLine.nd rfl (Or.inl rfl) (we_frz (wo_call (pe_callS (ok_LawDraw T) (hr.mono (by decide)) (by rfl) T.dLawDraw.g T.dLawDraw.F.kp T.dLawDraw.b (fun σ => L2N.passAt tk σ) (wa_cons (we_var (pv 0)) (wa_cons (we_var (pv 1)) (wa_cons we_int wa_nil))))))))
(wss_cons (ws_asg (ps_set (i := 5) scLawLine.nd rfl (Or.inl rfl) (we_frz (wo_call (pe_callS (ok_LawDraw T) (hr.mono (by decide)) (by rfl) T.dLawDraw.g T.dLawDraw.F.kp T.dLawDraw.b (fun σ => L2N.passAt tk σ) (wa_cons (we_var (pv 0)) (wa_cons (we_var (pv 1)) (wa_cons we_int wa_nil))))))))
(wss_cons (ws_asg (ps_set (i := 6) scLawLine.nd rfl (Or.inl rfl) (we_frz (wo_call (pe_callS (ok_LawDraw T) (hr.mono (by decide)) (by rfl) T.dLawDraw.g T.dLawDraw.F.kp T.dLawDraw.b (fun σ => L2N.passAt tk σ) (wa_cons (we_var (pv 0)) (wa_cons (we_var (pv 1)) (wa_cons we_int wa_nil))))))))
(wss_cons (ws_if (wt_cmp op_lt s_lt (we_var (pv 3)) we_int (nomark _)) (wss_cons (ws_asg (ps_set (i := 7) scLawLine.nd rfl (Or.inl rfl) (we_idx (we_frz (wo_lst (wa_cons we_str (wa_cons we_str (wa_cons we_str (wa_cons we_str (wa_cons we_str (wa_cons we_str (wa_cons we_str wa_nil))))))))) (we_frz (wo_call (pe_callS (ok_LawDraw T) (hr.mono (by decide)) (by rfl) T.dLawDraw.g T.dLawDraw.F.kp T.dLawDraw.b (fun σ => L2N.passAt tk σ) (wa_cons (we_var (pv 0)) (wa_cons (we_var (pv 1)) (wa_cons we_int wa_nil)))))) (fun _ _ => rfl))))
(wss_one (ws_retO (wo_lst (wa_cons (we_frz (wo_call (pe_callS (ok_LawWord T) (hr.mono (by decide)) (by rfl) T.dLawWord.g T.dLawWord.F.kp T.dLawWord.b (fun σ => L2N.passAt tk σ) (wa_cons (we_var (pv 7)) (wa_cons (we_var (pv 4)) (wa_cons (we_var (pv 5)) (wa_cons (we_mul (we_var (pv 6)) (pe_imp (pe_callTy call_int1 (by rfl) T.b_int (by decide +kernel) (wa_cons (we_cmp (op_neA hr.units) s_ne (we_var (pv 7)) we_str (nomark _)) wa_nil)) (e_cb sa_int))) wa_nil))))))) wa_nil))))) wss_nil)
(wss_cons (ws_if (wt_cmp op_lt s_lt (we_var (pv 3)) we_int (nomark _)) (wss_one (ws_retO (wo_lst (wa_cons (we_frz (wo_call (pe_callS (ok_LawWord T) (hr.mono (by decide)) (by rfl) T.dLawWord.g T.dLawWord.F.kp T.dLawWord.b (fun σ => L2N.passAt tk σ) (wa_cons we_str (wa_cons (we_var (pv 4)) (wa_cons (we_var (pv 4)) (wa_cons (we_frz (wo_call (pe_callS (ok_LawDraw T) (hr.mono (by decide)) (by rfl) T.dLawDraw.g T.dLawDraw.F.kp T.dLawDraw.b (fun σ => L2N.passAt tk σ) (wa_cons (we_var (pv 0)) (wa_cons (we_var (pv 1)) (wa_cons we_int wa_nil)))))) wa_nil))))))) wa_nil)))) wss_nil)
(wss_cons (ws_if (wt_cmp op_lt s_lt (we_var (pv 3)) we_int (nomark _)) (wss_one (ws_retO (wo_lst (wa_cons (we_frz (wo_call (pe_callS (ok_LawWord T) (hr.mono (by decide)) (by rfl) T.dLawWord.g T.dLawWord.F.kp T.dLawWord.b (fun σ => L2N.passAt tk σ) (wa_cons we_str (wa_cons (we_var (pv 4)) (wa_cons we_int (wa_cons we_int wa_nil))))))) (wa_cons (we_frz (wo_call (pe_callS (ok_LawDraw T) (hr.mono (by decide)) (by rfl) T.dLawDraw.g T.dLawDraw.F.kp T.dLawDraw.b (fun σ => L2N.passAt tk σ) (wa_cons (we_var (pv 0)) (wa_cons (we_var (pv 1)) (wa_cons we_int wa_nil)))))) wa_nil))))) wss_nil)
(wss_cons (ws_if (wt_cmp op_lt s_lt (we_var (pv 3)) we_int (nomark _)) (wss_cons (ws_asg (ps_set (i := 8) scLawLine.nd rfl (Or.inl rfl) (we_add (we_mul we_int (we_frz (wo_call (pe_callS (ok_LawDraw T) (hr.mono (by decide)) (by rfl) T.dLawDraw.g T.dLawDraw.F.kp T.dLawDraw.b (fun σ => L2N.passAt tk σ) (wa_cons (we_var (pv 0)) (wa_cons (we_var (pv 1)) (wa_cons (we_add (we_var (pv 2)) we_int) wa_nil))))))) (we_frz (wo_call (pe_callS (ok_LawDraw T) (hr.mono (by decide)) (by rfl) T.dLawDraw.g T.dLawDraw.F.kp T.dLawDraw.b (fun σ => L2N.passAt tk σ) (wa_cons (we_var (pv 0)) (wa_cons (we_var (pv 1)) (wa_cons we_int wa_nil)))))))))
(wss_cons (ws_asg (ps_set (i := 7) scLawLine.nd rfl (Or.inl rfl) (we_idx (we_frz (wo_lst (wa_cons we_str (wa_cons we_str wa_nil)))) (we_frz (wo_call (pe_callS (ok_LawDraw T) (hr.mono (by decide)) (by rfl) T.dLawDraw.g T.dLawDraw.F.kp T.dLawDraw.b (fun σ => L2N.passAt tk σ) (wa_cons (we_var (pv 0)) (wa_cons (we_var (pv 1)) (wa_cons we_int wa_nil)))))) (fun _ _ => rfl))))
(wss_one (ws_retO (wo_lst (wa_cons (we_frz (wo_call (pe_callS (ok_LawWord T) (hr.mono (by decide)) (by rfl) T.dLawWord.g T.dLawWord.F.kp T.dLawWord.b (fun σ => L2N.passAt tk σ) (wa_cons we_str (wa_cons we_int (wa_cons we_int (wa_cons we_int wa_nil))))))) (wa_cons (we_var (pv 8)) (wa_cons (we_frz (wo_call (pe_callS (ok_LawWord T) (hr.mono (by decide)) (by rfl) T.dLawWord.g T.dLawWord.F.kp T.dLawWord.b (fun σ => L2N.passAt tk σ) (wa_cons (we_var (pv 7)) (wa_cons (we_var (pv 4)) (wa_cons we_int (wa_cons we_int wa_nil))))))) wa_nil)))))))) wss_nil)
(wss_cons (ws_if (wt_cmp op_lt s_lt (we_var (pv 3)) we_int (nomark _)) (wss_cons (ws_asg (ps_set (i := 9) scLawLine.nd rfl (Or.inl rfl) (we_frz (wo_call (pe_callS (ok_LawDraw T) (hr.mono (by decide)) (by rfl) T.dLawDraw.g T.dLawDraw.F.kp T.dLawDraw.b (fun σ => L2N.passAt tk σ) (wa_cons (we_var (pv 0)) (wa_cons (we_var (pv 1)) (wa_cons we_int wa_nil))))))))
(wss_cons (ws_asg (ps_set (i := 10) scLawLine.nd rfl (Or.inl rfl) (we_idx (we_frz (wo_lst (wa_cons we_int (wa_cons we_int (wa_cons we_int (wa_cons we_int (wa_cons we_int (wa_cons we_int wa_nil)))))))) (we_frz (wo_call (pe_callS (ok_LawDraw T) (hr.mono (by decide)) (by rfl) T.dLawDraw.g T.dLawDraw.F.kp T.dLawDraw.b (fun σ => L2N.passAt tk σ) (wa_cons (we_var (pv 0)) (wa_cons (we_var (pv 1)) (wa_cons we_int wa_nil)))))) (fun _ _ => rfl))))
(wss_one (ws_retO (wo_lst (wa_cons (we_frz (wo_call (pe_callS (ok_LawWord T) (hr.mono (by decide)) (by rfl) T.dLawWord.g T.dLawWord.F.kp T.dLawWord.b (fun σ => L2N.passAt tk σ) (wa_cons we_str (wa_cons we_int (wa_cons we_int (wa_cons we_int wa_nil))))))) (wa_cons (we_var (pv 9)) (wa_cons (we_frz (wo_call (pe_callS (ok_LawWord T) (hr.mono (by decide)) (by rfl) T.dLawWord.g T.dLawWord.F.kp T.dLawWord.b (fun σ => L2N.passAt tk σ) (wa_cons we_str (wa_cons we_int (wa_cons we_int (wa_cons (we_var (pv 10)) wa_nil))))))) wa_nil)))))))) wss_nil)
(wss_cons (ws_if (wt_cmp op_lt s_lt (we_var (pv 3)) we_int (nomark _)) (wss_cons (ws_asg (ps_set (i := 7) scLawLine.nd rfl (Or.inl rfl) (we_idx (we_frz (wo_lst (wa_cons we_str (wa_cons we_str (wa_cons we_str wa_nil))))) (we_frz (wo_call (pe_callS (ok_LawDraw T) (hr.mono (by decide)) (by rfl) T.dLawDraw.g T.dLawDraw.F.kp T.dLawDraw.b (fun σ => L2N.passAt tk σ) (wa_cons (we_var (pv 0)) (wa_cons (we_var (pv 1)) (wa_cons we_int wa_nil)))))) (fun _ _ => rfl))))
(wss_one (ws_retO (wo_lst (wa_cons (we_frz (wo_call (pe_callS (ok_LawWord T) (hr.mono (by decide)) (by rfl) T.dLawWord.g T.dLawWord.F.kp T.dLawWord.b (fun σ => L2N.passAt tk σ) (wa_cons (we_var (pv 7)) (wa_cons (we_var (pv 4)) (wa_cons (we_var (pv 5)) (wa_cons (we_frz (wo_call (pe_callS (ok_LawDraw T) (hr.mono (by decide)) (by rfl) T.dLawDraw.g T.dLawDraw.F.kp T.dLawDraw.b (fun σ => L2N.passAt tk σ) (wa_cons (we_var (pv 0)) (wa_cons (we_var (pv 1)) (wa_cons we_int wa_nil)))))) wa_nil))))))) wa_nil))))) wss_nil)
(wss_cons (ws_if (ww_andD (wt_cmp (op_eqA hr.units) s_eq (we_var (pv 3)) we_int (nomark _)) (pw_and1 (wt_cmp (op_eqA hr.units) s_eq (we_frz (wo_call (pe_callS (ok_LawDraw T) (hr.mono (by decide)) (by rfl) T.dLawDraw.g T.dLawDraw.F.kp T.dLawDraw.b (fun σ => L2N.passAt tk σ) (wa_cons (we_var (pv 0)) (wa_cons (we_var (pv 1)) (wa_cons we_int wa_nil)))))) we_int (nomark _)))).pt (wss_one (ws_retO (wo_lst (wa_cons (we_idx (we_frz (wo_lst (wa_cons (we_frz (wo_call (pe_callS (ok_LawWord T) (hr.mono (by decide)) (by rfl) T.dLawWord.g T.dLawWord.F.kp T.dLawWord.b (fun σ => L2N.passAt tk σ) (wa_cons we_str (wa_cons we_int (wa_cons we_int (wa_cons we_int wa_nil))))))) (wa_cons we_int (wa_cons (we_frz (wo_call (pe_callS (ok_LawWord T) (hr.mono (by decide)) (by rfl) T.dLawWord.g T.dLawWord.F.kp T.dLawWord.b (fun σ => L2N.passAt tk σ) (wa_cons we_str (wa_cons we_int (wa_cons we_int (wa_cons we_int wa_nil))))))) (wa_cons (we_frz (wo_call (pe_callS (ok_LawDraw T) (hr.mono (by decide)) (by rfl) T.dLawDraw.g T.dLawDraw.F.kp T.dLawDraw.b (fun σ => L2N.passAt tk σ) (wa_cons (we_var (pv 0)) (wa_cons (we_var (pv 1)) (wa_cons we_int wa_nil)))))) wa_nil)))))) (we_frz (wo_call (pe_callS (ok_LawDraw T) (hr.mono (by decide)) (by rfl) T.dLawDraw.g T.dLawDraw.F.kp T.dLawDraw.b (fun σ => L2N.passAt tk σ) (wa_cons (we_var (pv 0)) (wa_cons (we_var (pv 1)) (wa_cons we_int wa_nil)))))) (fun _ _ => rfl)) wa_nil)))) wss_nil)
(wss_cons (ws_if (wt_cmp (op_eqA hr.units) s_eq (we_var (pv 3)) we_int (nomark _)) (wss_one (ws_retO (wo_lst (wa_cons (we_frz (wo_call (pe_callS (ok_LawWord T) (hr.mono (by decide)) (by rfl) T.dLawWord.g T.dLawWord.F.kp T.dLawWord.b (fun σ => L2N.passAt tk σ) (wa_cons we_str (wa_cons we_int (wa_cons we_int (wa_cons we_int wa_nil))))))) (wa_cons we_int (wa_cons (we_frz (wo_call (pe_callS (ok_LawWord T) (hr.mono (by decide)) (by rfl) T.dLawWord.g T.dLawWord.F.kp T.dLawWord.b (fun σ => L2N.passAt tk σ) (wa_cons we_str (wa_cons we_int (wa_cons we_int (wa_cons we_int wa_nil))))))) wa_nil)))))) wss_nil)
(wss_one (ws_retO (wo_lst (wa_cons (we_frz (wo_call (pe_callS (ok_LawWord T) (hr.mono (by decide)) (by rfl) T.dLawWord.g T.dLawWord.F.kp T.dLawWord.b (fun σ => L2N.passAt tk σ) (wa_cons we_str (wa_cons we_int (wa_cons (we_var (pv 4)) (wa_cons we_int wa_nil))))))) wa_nil))))))))))))))))

theorem ok_LawImage (T : Tx K w mg) : FnOk P w K mg base (L2N.CX P w) 3 T.aLawImage T.fdLawImage PLawImage (spW K T.cs cLawImage) := by
  unfold cLawImage
  exact ok_W T.dLawImage.F scLawImage rfl fun cdv A outer s H E hr tk => by
    unfold wdLawImage
    exact (wss_cons (ws_asg (ps_set (i := 4) scLawImage.nd rfl (Or.inl rfl) (we_frz (wo_lst wa_nil))))
(wss_cut (ws_for tg_name (ps_for PassesOwn.leaving rfl (wi_rng1 (pi_range1 (by rfl) T.b_range (wa_cons (we_add we_int (we_frz (wo_call (pe_callS (ok_LawDraw T) (hr.mono (by decide)) (by rfl) T.dLawDraw.g T.dLawDraw.F.kp T.dLawDraw.b (fun σ => L2N.passAt tk σ) (wa_cons (we_var (pv 0)) (wa_cons (we_var (pv 1)) (wa_cons we_int wa_nil))))))) wa_nil))) (pg_name (i := 5) scLawImage.nd rfl (Or.inl rfl)) (wss_cons (ws_asg (ps_set (i := 6) scLawImage.nd rfl (Or.inl rfl) (we_frz (wo_call (pe_callS (ok_LawLine T) (hr.mono (by decide)) (by rfl) T.dLawLine.g T.dLawLine.F.kp T.dLawLine.b (fun σ => L2N.passAt tk σ) (wa_cons (we_var (pv 0)) (wa_cons (we_var (pv 1)) (wa_cons (we_var (pv 3)) wa_nil))))))))
(wss_one (ws_if (wt_cmp op_le s_le (we_add (pe_imp (pe_callB call_len (by rfl) T.b_len PySem.boot_len (wa_cons (we_var (pv 4)) wa_nil)) (e_cb sa_len)) (pe_imp (pe_callB call_len (by rfl) T.b_len PySem.boot_len (wa_cons (we_var (pv 6)) wa_nil)) (e_cb sa_len))) (we_sub (we_mul we_int (we_var (pv 2))) we_int) (nomark _)) (wss_one (ws_asg (ps_set (i := 4) scLawImage.nd rfl (Or.inl rfl) (we_frz (wo_catL (we_var (pv 4)) (we_var (pv 6))))))) wss_nil)))))
(wss_one (ws_retO (wo_catL (we_var (pv 4)) (we_frz (wo_lst (wa_cons (we_frz (wo_call (pe_callS (ok_LawWord T) (hr.mono (by decide)) (by rfl) T.dLawWord.g T.dLawWord.F.kp T.dLawWord.b (fun σ => L2N.passAt tk σ) (wa_cons we_str (wa_cons we_int (wa_cons we_int (wa_cons we_int wa_nil))))))) (wa_cons we_int (wa_cons (we_frz (wo_call (pe_callS (ok_LawWord T) (hr.mono (by decide)) (by rfl) T.dLawWord.g T.dLawWord.F.kp T.dLawWord.b (fun σ => L2N.passAt tk σ) (wa_cons we_str (wa_cons we_int (wa_cons we_int (wa_cons we_int wa_nil))))))) wa_nil))))))))))

theorem ok_LawParts (T : Tx K w mg) : FnOk P w K mg base (L2N.CX P w) 2 T.aLawParts T.fdLawParts PLawParts (spW K T.cs cLawParts) := by
  unfold cLawParts
  exact ok_W T.dLawParts.F scLawParts rfl fun cdv A outer s H E hr tk => by
    unfold wdLawParts
    exact (wss_cons (ws_asg (ps_set (i := 2) scLawParts.nd rfl (Or.inr rfl) (we_add we_int (we_frz (wo_call (pe_callS (ok_LawDraw T) (hr.mono (by decide)) (by rfl) T.dLawDraw.g T.dLawDraw.F.kp T.dLawDraw.b (fun σ => L2N.passAt tk σ) (wa_cons (we_var (pv 0)) (wa_cons (we_var (pv 1)) (wa_cons we_int wa_nil)))))))))
(wss_cons (ws_new (ps_set (i := 3) scLawParts.nd rfl (Or.inl rfl) (wo_lst wa_nil)))
(wss_cut (ws_for tg_name (ps_for PassesOwn.leaving rfl (wi_rng1 (pi_range1 (by rfl) T.b_range (wa_cons (we_var (pv 2)) wa_nil))) (pg_name (i := 4) scLawParts.nd rfl (Or.inl rfl)) (wss_one (ws_for tg_name (ps_for PassesOwn.leaving rfl (wi_rng1 (pi_range1 (by rfl) T.b_range (wa_cons (we_var (pv 2)) wa_nil))) (pg_name (i := 5) scLawParts.nd rfl (Or.inl rfl)) (wss_one (ws_if (ww_andD (wt_cmp (op_neA hr.units) s_ne (we_var (pv 4)) (we_var (pv 5)) (nomark _)) (pw_and1 (wt_cmp (op_eqA hr.units) s_eq (we_frz (wo_call (pe_callS (ok_LawDraw T) (hr.mono (by decide)) (by rfl) T.dLawDraw.g T.dLawDraw.F.kp T.dLawDraw.b (fun σ => L2N.passAt tk σ) (wa_cons (we_var (pv 0)) (wa_cons (we_var (pv 1)) (wa_cons we_int wa_nil)))))) we_int (nomark _)))).pt (wss_one (ws_app (ps_expr (pe_bm PySem.F.plainAttrs_list PySem.F.slot_list_append PySem.F.type_list_append mt_append (we_var (pv 3)) (pa_cons (wo_lift (we_tup (wa_cons (we_var (pv 4)) (wa_cons (we_var (pv 5)) wa_nil)))) pa_nil))))) wss_nil)))))))
(wss_cons (ws_new (ps_set (i := 6) scLawParts.nd rfl (Or.inl rfl) (wo_lst wa_nil)))
(wss_cons (ws_new (ps_set (i := 7) scLawParts.nd rfl (Or.inl rfl) (wo_lst wa_nil)))
(wss_cut (ws_for tg_name (ps_for PassesOwn.leaving rfl (wi_rng1 (pi_range1 (by rfl) T.b_range (wa_cons (we_frz (wo_call (pe_callS (ok_LawDraw T) (hr.mono (by decide)) (by rfl) T.dLawDraw.g T.dLawDraw.F.kp T.dLawDraw.b (fun σ => L2N.passAt tk σ) (wa_cons (we_var (pv 0)) (wa_cons (we_var (pv 1)) (wa_cons we_int wa_nil)))))) wa_nil))) (pg_name (i := 8) scLawParts.nd rfl (Or.inl rfl)) (wss_one (ws_if (wt_cmp op_gt s_gt (pe_imp (pe_callB call_len (by rfl) T.b_len PySem.boot_len (wa_cons (we_var (pv 3)) wa_nil)) (e_cb sa_len)) we_int (nomark _)) (wss_cons (ws_asgT (tg_tup (js := [9, 10]) rfl) (ps_asg (we_idx (we_var (pv 3)) (we_frz (wo_call (pe_callS (ok_LawDraw T) (hr.mono (by decide)) (by rfl) T.dLawDraw.g T.dLawDraw.F.kp T.dLawDraw.b (fun σ => L2N.passAt tk σ) (wa_cons (we_var (pv 0)) (wa_cons (we_var (pv 1)) (wa_cons (pe_imp (pe_callB call_len (by rfl) T.b_len PySem.boot_len (wa_cons (we_var (pv 3)) wa_nil)) (e_cb sa_len)) wa_nil)))))) (fun _ _ => rfl)) (pg_tup rfl (pgs_cons (pg_name (i := 9) scLawParts.nd rfl (Or.inl rfl)) (pgs_cons (pg_name (i := 10) scLawParts.nd rfl (Or.inl rfl)) pgs_nil)))))
(wss_one (ws_app (ps_expr (pe_bm PySem.F.plainAttrs_list PySem.F.slot_list_append PySem.F.type_list_append mt_append (we_var (pv 6)) (pa_cons (wo_lift (we_tup (wa_cons (we_var (pv 9)) (wa_cons (we_var (pv 10)) (wa_cons (we_add we_int (we_frz (wo_call (pe_callS (ok_LawDraw T) (hr.mono (by decide)) (by rfl) T.dLawDraw.g T.dLawDraw.F.kp T.dLawDraw.b (fun σ => L2N.passAt tk σ) (wa_cons (we_var (pv 0)) (wa_cons (we_var (pv 1)) (wa_cons we_int wa_nil))))))) (wa_cons (we_andE (we_cmp (op_inL hr.units) s_inL (we_tup (wa_cons (we_var (pv 10)) (wa_cons (we_var (pv 9)) wa_nil))) (we_var (pv 3)) rfl) (pe_one (we_cmp (op_eqA hr.units) s_eq (we_frz (wo_call (pe_callS (ok_LawDraw T) (hr.mono (by decide)) (by rfl) T.dLawDraw.g T.dLawDraw.F.kp T.dLawDraw.b (fun σ => L2N.passAt tk σ) (wa_cons (we_var (pv 0)) (wa_cons (we_var (pv 1)) (wa_cons we_int wa_nil)))))) we_int (nomark _)))) wa_nil)))))) pa_nil)))))) wss_nil))))
(wss_cut (ws_for tg_name (ps_for PassesOwn.leaving rfl (wi_rng1 (pi_range1 (by rfl) T.b_range (wa_cons (we_frz (wo_call (pe_callS (ok_LawDraw T) (hr.mono (by decide)) (by rfl) T.dLawDraw.g T.dLawDraw.F.kp T.dLawDraw.b (fun σ => L2N.passAt tk σ) (wa_cons (we_var (pv 0)) (wa_cons (we_var (pv 1)) (wa_cons we_int wa_nil)))))) wa_nil))) (pg_name (i := 8) scLawParts.nd rfl (Or.inl rfl)) (wss_one (ws_if (wt_cmp op_gt s_gt (pe_imp (pe_callB call_len (by rfl) T.b_len PySem.boot_len (wa_cons (we_var (pv 3)) wa_nil)) (e_cb sa_len)) we_int (nomark _)) (wss_one (ws_app (ps_expr (pe_bm PySem.F.plainAttrs_list PySem.F.slot_list_append PySem.F.type_list_append mt_append (we_var (pv 7)) (pa_cons (wo_lift (we_idx (we_var (pv 3)) (we_frz (wo_call (pe_callS (ok_LawDraw T) (hr.mono (by decide)) (by rfl) T.dLawDraw.g T.dLawDraw.F.kp T.dLawDraw.b (fun σ => L2N.passAt tk σ) (wa_cons (we_var (pv 0)) (wa_cons (we_var (pv 1)) (wa_cons (pe_imp (pe_callB call_len (by rfl) T.b_len PySem.boot_len (wa_cons (we_var (pv 3)) wa_nil)) (e_cb sa_len)) wa_nil)))))) (fun _ _ => rfl))) pa_nil))))) wss_nil))))
(wss_cons (s_setLcF tg_name (tgw_name (by decide)) (ps_setLc (i := 11) (own := [("k", 8)]) rfl scLawParts.nd rfl rfl (sw_true rfl rfl rfl (by decide +kernel)) (wi_rng1 (pi_range1 (by rfl) T.b_range (wa_cons (we_frz (wo_call (pe_callS (ok_LawDraw T) (hr.mono (by decide)) (by rfl) T.dLawDraw.g T.dLawDraw.F.kp T.dLawDraw.b (fun σ => L2N.passAt tk σ) (wa_cons (we_var (pv 0)) (wa_cons (we_var (pv 1)) (wa_cons we_int wa_nil)))))) wa_nil))) (blkOk_by (own := [("k", 8)]) (N := NLawParts) (sc := defScope sLawParts) (by decide +kernel)) (fun _ _ _ _ _ => (pg_name (i := 8) scLawParts.nd rfl (Or.inl rfl))) (fun _ _ _ _ _ => wts_nil) (fun _ _ _ _ _ => (wo_call (pe_callS (ok_LawDraw T) (hr.mono (by decide)) (by rfl) T.dLawDraw.g T.dLawDraw.F.kp T.dLawDraw.b (fun σ => L2N.passAt takesNo σ) (wa_cons (we_var (pv 0)) (wa_cons (we_var (pv 1)) (wa_cons (we_var (pv 2)) wa_nil))))))))
(wss_cons (ws_new (ps_set (i := 12) scLawParts.nd rfl (Or.inl rfl) (wo_lst wa_nil)))
(wss_cut (ws_for tg_name (ps_for PassesOwn.leaving rfl (wi_rng1 (pi_range1 (by rfl) T.b_range (wa_cons (we_add we_int (we_frz (wo_call (pe_callS (ok_LawDraw T) (hr.mono (by decide)) (by rfl) T.dLawDraw.g T.dLawDraw.F.kp T.dLawDraw.b (fun σ => L2N.passAt tk σ) (wa_cons (we_var (pv 0)) (wa_cons (we_var (pv 1)) (wa_cons we_int wa_nil))))))) wa_nil))) (pg_name (i := 8) scLawParts.nd rfl (Or.inl rfl)) (wss_one (ws_app (ps_expr (pe_bm PySem.F.plainAttrs_list PySem.F.slot_list_append PySem.F.type_list_append mt_append (we_var (pv 12)) (pa_cons (wo_lift (we_tup (wa_cons (we_idx (we_frz (wo_lst (wa_cons we_non (wa_cons (we_frz (wo_call (pe_callS (ok_LawDraw T) (hr.mono (by decide)) (by rfl) T.dLawDraw.g T.dLawDraw.F.kp T.dLawDraw.b (fun σ => L2N.passAt tk σ) (wa_cons (we_var (pv 0)) (wa_cons (we_var (pv 1)) (wa_cons (we_var (pv 2)) wa_nil)))))) wa_nil)))) (pe_imp (pe_callTy call_int1 (by rfl) T.b_int (by decide +kernel) (wa_cons (we_cmp op_gt s_gt (we_frz (wo_call (pe_callS (ok_LawDraw T) (hr.mono (by decide)) (by rfl) T.dLawDraw.g T.dLawDraw.F.kp T.dLawDraw.b (fun σ => L2N.passAt tk σ) (wa_cons (we_var (pv 0)) (wa_cons (we_var (pv 1)) (wa_cons we_int wa_nil)))))) we_int (nomark _)) wa_nil)) (e_cb sa_int)) (fun _ _ => rfl)) (wa_cons (we_add we_int (we_frz (wo_call (pe_callS (ok_LawDraw T) (hr.mono (by decide)) (by rfl) T.dLawDraw.g T.dLawDraw.F.kp T.dLawDraw.b (fun σ => L2N.passAt tk σ) (wa_cons (we_var (pv 0)) (wa_cons (we_var (pv 1)) (wa_cons we_int wa_nil))))))) wa_nil)))) pa_nil)))))))
(wss_one (ws_retO (wo_lst (wa_cons (we_var (pv 2)) (wa_cons (we_fz (we_var (pv 3))) (wa_cons (we_fz (we_var (pv 6))) (wa_cons (we_fz (we_var (pv 7))) (wa_cons (we_var (pv 11)) (wa_cons (we_fz (we_var (pv 12))) wa_nil)))))))))))))))))))

theorem ok_LawPartition (T : Tx K w mg) : FnOk P w K mg base (L2N.CX P w) 4 T.aLawPartition T.fdLawPartition PLawPartition (spW K T.cs cLawPartition) := by
  unfold cLawPartition
  exact ok_W T.dLawPartition.F scLawPartition rfl fun cdv A outer s H E hr tk => by
    unfold wdLawPartition
    exact (wss_cons (ws_asg (ps_set (i := 4) scLawPartition.nd rfl (Or.inl rfl) (we_add we_int (we_frz (wo_call (pe_callS (ok_LawDraw T) (hr.mono (by decide)) (by rfl) T.dLawDraw.g T.dLawDraw.F.kp T.dLawDraw.b (fun σ => L2N.passAt tk σ) (wa_cons (we_var (pv 0)) (wa_cons (we_var (pv 1)) (wa_cons we_int wa_nil)))))))))
(wss_cons (ws_asg (ps_set (i := 5) scLawPartition.nd rfl (Or.inl rfl) (we_add (we_add (we_var (pv 4)) (pe_imp (pe_callB call_len (by rfl) T.b_len PySem.boot_len (wa_cons (we_frz (wo_lc tg_name (tgw_name (by decide)) (pe_lc (own := [("one", 6)]) rfl scLawPartition.nd (wi_list (we_idx (we_var (pv 2)) we_int (fun _ _ => rfl))) (blkOk_by (own := [("one", 6)]) (N := NLawPartition) (sc := defScope sLawPartition) (by decide +kernel)) (fun _ _ _ _ _ => (pg_name (i := 6) scLawPartition.nd rfl (Or.inl rfl))) (fun _ _ _ _ _ => pts_one (wt_cmp op_in_seq s_in (we_var (pv 3)) (we_var (pv 6)) rfl)) (fun _ _ _ _ _ => (wo_lift (we_var (pv 6))))))) wa_nil)) (e_cb sa_len))) (pe_imp (pe_callB call_len (by rfl) T.b_len PySem.boot_len (wa_cons (we_frz (wo_lc tg_name (tgw_name (by decide)) (pe_lc (own := [("one", 6)]) rfl scLawPartition.nd (wi_list (we_idx (we_var (pv 2)) we_int (fun _ _ => rfl))) (blkOk_by (own := [("one", 6)]) (N := NLawPartition) (sc := defScope sLawPartition) (by decide +kernel)) (fun _ _ _ _ _ => (pg_name (i := 6) scLawPartition.nd rfl (Or.inl rfl))) (fun _ _ _ _ _ => pts_one (wt_cmp (op_eqA hr.units) s_eq (we_var (pv 6)) (we_var (pv 3)) (nomark _))) (fun _ _ _ _ _ => (wo_lift (we_var (pv 6))))))) wa_nil)) (e_cb sa_len)))))
(wss_one (ws_retO (wo_make (pe_make T.mkPartition (ok_PartitionInit T) (hr.mono (by decide)) (by rfl) T.gPartition T.mPartitionInit.b .nil noPassW (wa_cons (we_frz (wo_call (pe_callS (ok_LawImage T) (hr.mono (by decide)) (by rfl) T.dLawImage.g T.dLawImage.F.kp T.dLawImage.b (fun σ => L2N.passAt tk σ) (wa_cons (we_var (pv 0)) (wa_cons (we_var (pv 1)) (wa_cons (we_var (pv 4)) (wa_cons (we_var (pv 5)) wa_nil))))))) (wa_cons (we_var (pv 4)) (wa_cons we_int wa_nil)))))))))

theorem ok_LawConfig (T : Tx K w mg) : FnOk P w K mg base (L2N.CX P w) 5 T.aLawConfig T.fdLawConfig PLawConfig (spW K T.cs cLawConfig) := by
  unfold cLawConfig
  exact ok_W T.dLawConfig.F scLawConfig rfl fun cdv A outer s H E hr tk => by
    unfold wdLawConfig
    exact (wss_cons (ws_asg (ps_set (i := 2) scLawConfig.nd rfl (Or.inr rfl) (we_frz (wo_call (pe_callS (ok_LawParts T) (hr.mono (by decide)) (by rfl) T.dLawParts.g T.dLawParts.F.kp T.dLawParts.b (fun σ => L2N.passAt tk σ) (wa_cons (we_var (pv 0)) (wa_cons (we_var (pv 1)) wa_nil)))))))
(wss_cons (s_setLcF tg_name (tgw_name (by decide)) (ps_setLc (i := 3) (own := [("p", 4)]) rfl scLawConfig.nd rfl rfl (sw_true rfl rfl rfl (by decide +kernel)) (wi_rng1 (pi_range1 (by rfl) T.b_range (wa_cons (we_idx (we_var (pv 2)) we_int (fun _ _ => rfl)) wa_nil))) (blkOk_by (own := [("p", 4)]) (N := NLawConfig) (sc := defScope sLawConfig) (by decide +kernel)) (fun _ _ _ _ _ => (pg_name (i := 4) scLawConfig.nd rfl (Or.inl rfl))) (fun _ _ _ _ _ => wts_nil) (fun _ _ _ _ _ => (wo_call (pe_callS (ok_LawPartition T) (hr.mono (by decide)) (by rfl) T.dLawPartition.g T.dLawPartition.F.kp T.dLawPartition.b (fun σ => L2N.passAt takesNo σ) (wa_cons (we_var (pv 0)) (wa_cons (we_var (pv 1)) (wa_cons (we_var (pv 2)) (wa_cons (we_var (pv 4)) wa_nil)))))))))
(wss_one (ws_retO (wo_make (pe_make T.mkConfig (ok_ConfigInit T) (hr.mono (by decide)) (by rfl) T.gConfig T.mConfigInit.b .nil noPassW (wa_cons (we_var (pv 3)) (wa_cons (we_idx (we_var (pv 2)) we_int (fun _ _ => rfl)) (wa_cons (we_idx (we_var (pv 2)) we_int (fun _ _ => rfl)) (wa_cons (we_idx (we_var (pv 2)) we_int (fun _ _ => rfl)) (wa_cons (we_idx (we_var (pv 2)) we_int (fun _ _ => rfl)) (wa_cons (we_idx (we_var (pv 2)) we_int (fun _ _ => rfl)) wa_nil))))))))))))

theorem ok_LawInt (T : Tx K w mg) : FnOk P w K mg base (L2N.CX P w) 1 T.aLawInt T.fdLawInt PLawInt (spW K T.cs cLawInt) := by
  unfold cLawInt
  exact ok_W T.dLawInt.F scLawInt rfl fun cdv A outer s H E hr tk => by
    unfold wdLawInt
    exact (wss_one (ws_ret (we_andV (we_isT (pe_callB (id := "isinstance") call_isi (by rfl) T.b_isinstance (by decide +kernel) (pa_cons (we_var (pv 0)) (pa_cons (pe_bltn (v := .ty "int") (by rfl) T.b_int (by decide +kernel) rfl) pa_nil)))) (we_andV (we_not (we_isT (pe_callB (id := "isinstance") call_isi (by rfl) T.b_isinstance (by decide +kernel) (pa_cons (we_var (pv 0)) (pa_cons (pe_bltn (v := .ty "bool") (by rfl) T.b_bool (by decide +kernel) rfl) pa_nil))))) (pe_one (we_chain op_le op_le s_le s_le (we_var (pv 1)) (we_var (pv 0)) (we_var (pv 2)) (pe_chain op_le op_le (we_var (pv 1)) (we_var (pv 0)) (we_var (pv 2)))))))))

theorem ok_LawEnds (T : Tx K w mg) : FnOk P w K mg base (L2N.CX P w) 2 T.aLawEnds T.fdLawEnds PLawEnds (spW K T.cs cLawEnds) := by
  unfold cLawEnds
  exact ok_W T.dLawEnds.F scLawEnds rfl fun cdv A outer s H E hr tk => by
    unfold wdLawEnds
    exact (wss_cons (ws_if (ww_or (wt_not (wt_val (we_isT (pe_callB (id := "isinstance") call_isi (by rfl) T.b_isinstance (by decide +kernel) (pa_cons (we_var (pv 0)) (pa_cons (pe_bltn (v := .ty "tuple") (by rfl) T.b_tuple (by decide +kernel) rfl) pa_nil)))))) (pw_or1 (wt_cmp (op_neA hr.units) s_ne (pe_imp (pe_callB call_len (by rfl) T.b_len PySem.boot_len (wa_cons (we_var (pv 0)) wa_nil)) (e_cb sa_len)) (we_var (pv 2)) (nomark _)))).pt (wss_one (ws_ret we_bl)) wss_nil)
(wss_one (ws_ret (we_andV (we_frz (wo_call (pe_callS (ok_LawInt T) (hr.mono (by decide)) (by rfl) T.dLawInt.g T.dLawInt.F.kp T.dLawInt.b (fun σ => L2N.passAt tk σ) (wa_cons (we_idx (we_var (pv 0)) we_int (fun _ _ => rfl)) (wa_cons we_int (wa_cons (we_sub (we_var (pv 1)) we_int) wa_nil)))))) (we_andV (we_frz (wo_call (pe_callS (ok_LawInt T) (hr.mono (by decide)) (by rfl) T.dLawInt.g T.dLawInt.F.kp T.dLawInt.b (fun σ => L2N.passAt tk σ) (wa_cons (we_idx (we_var (pv 0)) we_int (fun _ _ => rfl)) (wa_cons we_int (wa_cons (we_sub (we_var (pv 1)) we_int) wa_nil)))))) (pe_one (we_cmp (op_neA hr.units) s_ne (we_idx (we_var (pv 0)) we_int (fun _ _ => rfl)) (we_idx (we_var (pv 0)) we_int (fun _ _ => rfl)) (nomark _))))))))

theorem ok_LawGood (T : Tx K w mg) : FnOk P w K mg base (L2N.CX P w) 3 T.aLawGood T.fdLawGood PLawGood (spW K T.cs cLawGood) := by
  unfold cLawGood
  exact ok_W T.dLawGood.F scLawGood rfl fun cdv A outer s H E hr tk => by
    unfold wdLawGood
    exact (wss_cons (ws_if (wt_cmp (op_eqA hr.units) s_eq (we_var (pv 0)) we_str (nomark _)) (wss_cons (ws_if (ww_or (wt_not (wt_val (we_frz (wo_call (pe_callS (ok_LawInt T) (hr.mono (by decide)) (by rfl) T.dLawInt.g T.dLawInt.F.kp T.dLawInt.b (fun σ => L2N.passAt tk σ) (wa_cons (we_fld T.fk_pages (we_var (pv 1)) rfl) (wa_cons we_int (wa_cons we_int wa_nil)))))))) (pw_or1 (wt_not (wt_val (we_frz (wo_call (pe_callS (ok_LawInt T) (hr.mono (by decide)) (by rfl) T.dLawInt.g T.dLawInt.F.kp T.dLawInt.b (fun σ => L2N.passAt tk σ) (wa_cons (we_fld T.fk_start (we_var (pv 1)) rfl) (wa_cons we_int (wa_cons (we_sub (we_mul we_int (we_fld T.fk_pages (we_var (pv 1)) rfl)) we_int) wa_nil)))))))))).pt (wss_one (ws_ret we_bl)) wss_nil)
(wss_one (ws_ret (we_andV (we_cmp op_le s_le (pe_imp (pe_callB call_len (by rfl) T.b_len PySem.boot_len (wa_cons (we_fld T.fk_image (we_var (pv 1)) rfl) wa_nil)) (e_cb sa_len)) (we_mul we_int (we_fld T.fk_pages (we_var (pv 1)) rfl)) (nomark _)) (pe_one (we_cmp op_notIn_seq s_in we_bl (we_frz (wo_lc tg_name (tgw_name (by decide)) (pe_lc (own := [("word", 3)]) rfl scLawGood.nd (wi_tup (we_fld T.fk_image (we_var (pv 1)) rfl)) (blkOk_by (own := [("word", 3)]) (N := NLawGood) (sc := defScope sLawGood) (by decide +kernel)) (fun _ _ _ _ _ => (pg_name (i := 3) scLawGood.nd rfl (Or.inl rfl))) (fun _ _ _ _ _ => wts_nil) (fun _ _ _ _ _ => (wo_call (pe_callS (ok_LawInt T) (hr.mono (by decide)) (by rfl) T.dLawInt.g T.dLawInt.F.kp T.dLawInt.b (fun σ => L2N.passAt takesNo σ) (wa_cons (we_var (pv 3)) (wa_cons we_int (wa_cons we_int wa_nil))))))))) rfl)))))) wss_nil)
(wss_cons (ws_if (wt_cmp (op_eqA hr.units) s_eq (we_var (pv 0)) we_str (nomark _)) (wss_cons (ws_if (ww_or (wt_not (wt_val (we_isT (pe_callB (id := "isinstance") call_isi (by rfl) T.b_isinstance (by decide +kernel) (pa_cons (we_var (pv 1)) (pa_cons (pe_bltn (v := .ty "tuple") (by rfl) T.b_tuple (by decide +kernel) rfl) pa_nil)))))) (ww_or (wt_cmp (op_neA hr.units) s_ne (pe_imp (pe_callB call_len (by rfl) T.b_len PySem.boot_len (wa_cons (we_var (pv 1)) wa_nil)) (e_cb sa_len)) we_int (nomark _)) (pw_or1 (wt_not (wt_val (we_frz (wo_call (pe_callS (ok_LawInt T) (hr.mono (by decide)) (by rfl) T.dLawInt.g T.dLawInt.F.kp T.dLawInt.b (fun σ => L2N.passAt tk σ) (wa_cons (we_idx (we_var (pv 1)) we_int (fun _ _ => rfl)) (wa_cons we_int (wa_cons we_int wa_nil))))))))))).pt (wss_one (ws_ret we_bl)) wss_nil)
(wss_one (ws_ret (we_orV (we_cmp op_isN s_is (we_idx (we_var (pv 1)) we_int (fun _ _ => rfl)) we_non (nomark _)) (pe_one (we_frz (wo_call (pe_callS (ok_LawInt T) (hr.mono (by decide)) (by rfl) T.dLawInt.g T.dLawInt.F.kp T.dLawInt.b (fun σ => L2N.passAt tk σ) (wa_cons (we_idx (we_var (pv 1)) we_int (fun _ _ => rfl)) (wa_cons we_int (wa_cons (we_sub (we_var (pv 2)) we_int) wa_nil))))))))))) wss_nil)
(wss_cons (ws_if (wt_cmp (op_eqA hr.units) s_eq (we_var (pv 0)) we_str (nomark _)) (wss_one (ws_ret (we_andV (we_frz (wo_call (pe_callS (ok_LawEnds T) (hr.mono (by decide)) (by rfl) T.dLawEnds.g T.dLawEnds.F.kp T.dLawEnds.b (fun σ => L2N.passAt tk σ) (wa_cons (we_var (pv 1)) (wa_cons (we_var (pv 2)) (wa_cons we_int wa_nil)))))) (we_andV (we_frz (wo_call (pe_callS (ok_LawInt T) (hr.mono (by decide)) (by rfl) T.dLawInt.g T.dLawInt.F.kp T.dLawInt.b (fun σ => L2N.passAt tk σ) (wa_cons (we_idx (we_var (pv 1)) we_int (fun _ _ => rfl)) (wa_cons we_int (wa_cons we_int wa_nil)))))) (pe_one (we_isT (pe_callB (id := "isinstance") call_isi (by rfl) T.b_isinstance (by decide +kernel) (pa_cons (we_idx (we_var (pv 1)) we_int (fun _ _ => rfl)) (pa_cons (pe_bltn (v := .ty "bool") (by rfl) T.b_bool (by decide +kernel) rfl) pa_nil))))))))) wss_nil)
(wss_cons (ws_if (wt_cmp (op_eqA hr.units) s_eq (we_var (pv 0)) we_str (nomark _)) (wss_one (ws_retO (wo_call (pe_callS (ok_LawInt T) (hr.mono (by decide)) (by rfl) T.dLawInt.g T.dLawInt.F.kp T.dLawInt.b (fun σ => L2N.passAt tk σ) (wa_cons (we_var (pv 1)) (wa_cons we_int (wa_cons (we_sub (we_var (pv 2)) we_int) wa_nil))))))) wss_nil)
(wss_one (ws_retO (wo_call (pe_callS (ok_LawEnds T) (hr.mono (by decide)) (by rfl) T.dLawEnds.g T.dLawEnds.F.kp T.dLawEnds.b (fun σ => L2N.passAt tk σ) (wa_cons (we_var (pv 1)) (wa_cons (we_var (pv 2)) (wa_cons we_int wa_nil)))))))))))

theorem ok_LawShape (T : Tx K w mg) : FnOk P w K mg base (L2N.CX P w) 4 T.aLawShape T.fdLawShape PLawShape (spW K T.cs cLawShape) := by
  unfold cLawShape
  exact ok_W T.dLawShape.F scLawShape rfl fun cdv A outer s H E hr tk => by
    unfold wdLawShape
    exact (wss_cons (ws_asg (ps_set (i := 1) scLawShape.nd rfl (Or.inl rfl) (pe_imp (pe_callB call_len (by rfl) T.b_len PySem.boot_len (wa_cons (we_fld T.fk_partitions (we_var (pv 0)) rfl) wa_nil)) (e_cb sa_len))))
(wss_cons (ws_asg (ps_set (i := 2) scLawShape.nd rfl (Or.inl rfl) (we_frz (wo_lst (wa_cons we_str (wa_cons we_str (wa_cons we_str (wa_cons we_str (wa_cons we_str (wa_cons we_str wa_nil))))))))))
(wss_cut (ws_for tg_name (ps_for PassesOwn.leaving rfl (wi_rng1 (pi_range1 (by rfl) T.b_range (wa_cons we_int wa_nil))) (pg_name (i := 3) scLawShape.nd rfl (Or.inl rfl)) (wss_cons (ws_asg (ps_set (i := 4) scLawShape.nd rfl (Or.inl rfl) (we_idx (we_frz (wo_meth0 (C := T.cs) (c := 1) (show ¬ _ ∈ lys.getD 1 [] from by decide +kernel) (pe_methX0 (we_var (pv 0)) T.clConfig T.hConfigFields (ok_ConfigFields T) (hr.mono (by decide)) T.mConfigFields.b (fun σ => L2N.passAt tk σ)))) (we_var (pv 3)) (fun _ _ => rfl))))
(wss_one (ws_for tg_name (ps_for PassesOwn.leaving rfl (wi_rng1 (pi_range1 (by rfl) T.b_range (wa_cons (pe_imp (pe_callB call_len (by rfl) T.b_len PySem.boot_len (wa_cons (we_var (pv 4)) wa_nil)) (e_cb sa_len)) wa_nil))) (pg_name (i := 5) scLawShape.nd rfl (Or.inl rfl)) (wss_one (ws_if (wt_not (wt_val (we_frz (wo_call (pe_callS (ok_LawGood T) (hr.mono (by decide)) (by rfl) T.dLawGood.g T.dLawGood.F.kp T.dLawGood.b (fun σ => L2N.passAt tk σ) (wa_cons (we_idx (we_var (pv 2)) (we_var (pv 3)) (fun _ _ => rfl)) (wa_cons (we_idx (we_var (pv 4)) (we_var (pv 5)) (fun _ _ => rfl)) (wa_cons (we_var (pv 1)) wa_nil)))))))) (wss_one (ws_ret (we_tup (wa_cons (we_idx (we_var (pv 2)) (we_var (pv 3)) (fun _ _ => rfl)) (wa_cons (we_var (pv 5)) wa_nil))))) wss_nil))))))))
(wss_cut (ws_for tg_name (ps_for PassesOwn.leaving rfl (wi_rng1 (pi_range1 (by rfl) T.b_range (wa_cons (we_var (pv 1)) wa_nil))) (pg_name (i := 6) scLawShape.nd rfl (Or.inr rfl)) (wss_cons (ws_asg (ps_set (i := 7) scLawShape.nd rfl (Or.inl rfl) (we_add (we_fld T.fk_pages (we_idx (we_fld T.fk_partitions (we_var (pv 0)) rfl) (we_var (pv 6)) (fun _ _ => rfl)) rfl) (pe_imp (pe_callB call_len (by rfl) T.b_len PySem.boot_len (wa_cons (we_frz (wo_lc tg_name (tgw_name (by decide)) (pe_lc (own := [("one", 8)]) rfl scLawShape.nd (wi_tup (we_fld T.fk_shares (we_var (pv 0)) rfl)) (blkOk_by (own := [("one", 8)]) (N := NLawShape) (sc := defScope sLawShape) (by decide +kernel)) (fun _ _ _ _ _ => (pg_name (i := 8) scLawShape.nd rfl (Or.inl rfl))) (fun _ _ _ _ _ => pts_one (wt_cmp op_in_seq s_in (we_var (pv 6)) (we_var (pv 8)) rfl)) (fun _ _ _ _ _ => (wo_lift (we_var (pv 8))))))) wa_nil)) (e_cb sa_len)))))
(wss_one (ws_if (wt_cmp op_gt s_gt (we_add (we_var (pv 7)) (pe_imp (pe_callB call_len (by rfl) T.b_len PySem.boot_len (wa_cons (we_frz (wo_lc tg_name (tgw_name (by decide)) (pe_lc (own := [("one", 8)]) rfl scLawShape.nd (wi_tup (we_fld T.fk_devices (we_var (pv 0)) rfl)) (blkOk_by (own := [("one", 8)]) (N := NLawShape) (sc := defScope sLawShape) (by decide +kernel)) (fun _ _ _ _ _ => (pg_name (i := 8) scLawShape.nd rfl (Or.inl rfl))) (fun _ _ _ _ _ => pts_one (wt_cmp (op_eqA hr.units) s_eq (we_var (pv 8)) (we_var (pv 6)) (nomark _))) (fun _ _ _ _ _ => (wo_lift (we_var (pv 8))))))) wa_nil)) (e_cb sa_len))) we_int (nomark _)) (wss_one (ws_ret (we_tup (wa_cons we_str (wa_cons (we_var (pv 6)) wa_nil))))) wss_nil)))))
(wss_one (ws_ret we_non))))))

theorem ok_LawFault (T : Tx K w mg) : FnOk P w K mg base (L2N.CX P w) 5 T.aLawFault T.fdLawFault PLawFault (spW K T.cs cLawFault) := by
  unfold cLawFault
  exact ok_W T.dLawFault.F scLawFault rfl fun cdv A outer s H E hr tk => by
    unfold wdLawFault
    exact (wss_cons (ws_asg (ps_set (i := 1) scLawFault.nd rfl (Or.inl rfl) (we_frz (wo_lst (wa_cons we_str (wa_cons we_str (wa_cons we_str (wa_cons we_str (wa_cons we_str (wa_cons we_str wa_nil))))))))))
(wss_cons (ws_asg (ps_set (i := 2) scLawFault.nd rfl (Or.inl rfl) (we_frz (wo_lst (wa_cons we_int (wa_cons we_int (wa_cons we_int (wa_cons we_int (wa_cons we_int (wa_cons we_int wa_nil))))))))))
(wss_cut (ws_for tg_name (ps_for PassesOwn.leaving rfl (wi_rng1 (pi_range1 (by rfl) T.b_range (wa_cons we_int wa_nil))) (pg_name (i := 3) scLawFault.nd rfl (Or.inl rfl)) (wss_cons (ws_asg (ps_set (i := 4) scLawFault.nd rfl (Or.inl rfl) (pe_imp (pe_callB call_len (by rfl) T.b_len PySem.boot_len (wa_cons (we_idx (we_frz (wo_meth0 (C := T.cs) (c := 1) (show ¬ _ ∈ lys.getD 1 [] from by decide +kernel) (pe_methX0 (we_var (pv 0)) T.clConfig T.hConfigFields (ok_ConfigFields T) (hr.mono (by decide)) T.mConfigFields.b (fun σ => L2N.passAt tk σ)))) (we_var (pv 3)) (fun _ _ => rfl)) wa_nil)) (e_cb sa_len))))
(wss_one (ws_if (ww_or (wt_cmp op_gt s_gt (we_var (pv 4)) (we_idx (we_var (pv 2)) (we_var (pv 3)) (fun _ _ => rfl)) (nomark _)) (pw_or1 (ww_and (wt_cmp op_lt s_lt (we_var (pv 3)) we_int (nomark _)) (pw_and1 (wt_cmp (op_eqA hr.units) s_eq (we_var (pv 4)) we_int (nomark _)))).pt)).pt (wss_one (ws_retO (wo_lst (wa_cons we_int (wa_cons (we_tup (wa_cons (we_idx (we_var (pv 1)) (we_var (pv 3)) (fun _ _ => rfl)) (wa_cons (we_var (pv 4)) wa_nil))) wa_nil))))) wss_nil)))))
(wss_cons (ws_asg (ps_set (i := 5) scLawFault.nd rfl (Or.inl rfl) (we_frz (wo_call (pe_callS (ok_LawShape T) (hr.mono (by decide)) (by rfl) T.dLawShape.g T.dLawShape.F.kp T.dLawShape.b (fun σ => L2N.passAt tk σ) (wa_cons (we_var (pv 0)) wa_nil))))))
(wss_cons (ws_if (wt_cmp op_notN s_isnt (we_var (pv 5)) we_non (nomark _)) (wss_one (ws_retO (wo_lst (wa_cons we_int (wa_cons (we_var (pv 5)) wa_nil))))) wss_nil)
(wss_cut (ws_for tg_name (ps_for PassesOwn.leaving rfl (wi_rng1 (pi_range1 (by rfl) T.b_range (wa_cons (pe_imp (pe_callB call_len (by rfl) T.b_len PySem.boot_len (wa_cons (we_fld T.fk_channels (we_var (pv 0)) rfl) wa_nil)) (e_cb sa_len)) wa_nil))) (pg_name (i := 6) scLawFault.nd rfl (Or.inl rfl)) (wss_cons (ws_asgT (tg_tup (js := [7, 8, 9, 10]) rfl) (ps_asg (we_idx (we_fld T.fk_channels (we_var (pv 0)) rfl) (we_var (pv 6)) (fun _ _ => rfl)) (pg_tup rfl (pgs_cons (pg_name (i := 7) scLawFault.nd rfl (Or.inl rfl)) (pgs_cons (pg_name (i := 8) scLawFault.nd rfl (Or.inl rfl)) (pgs_cons (pg_name (i := 9) scLawFault.nd rfl (Or.inl rfl)) (pgs_cons (pg_name (i := 10) scLawFault.nd rfl (Or.inl rfl)) pgs_nil)))))))
(wss_cons (ws_if (wt_cmp (op_ninT hr.units) s_ninT (we_tup (wa_cons (we_var (pv 7)) (wa_cons (we_var (pv 8)) wa_nil))) (we_fld T.fk_flows (we_var (pv 0)) rfl) rfl) (wss_one (ws_retO (wo_lst (wa_cons we_int (wa_cons (we_tup (wa_cons we_str (wa_cons (we_var (pv 6)) wa_nil))) wa_nil))))) wss_nil)
(wss_one (ws_if (ww_and (wt_val (we_var (pv 10))) (pw_and1 (wt_cmp (op_ninT hr.units) s_ninT (we_tup (wa_cons (we_var (pv 8)) (wa_cons (we_var (pv 7)) wa_nil))) (we_fld T.fk_flows (we_var (pv 0)) rfl) rfl))).pt (wss_one (ws_retO (wo_lst (wa_cons we_int (wa_cons (we_tup (wa_cons we_str (wa_cons (we_var (pv 6)) wa_nil))) wa_nil))))) wss_nil))))))
(wss_cut (ws_for tg_name (ps_for PassesOwn.leaving rfl (wi_rng1 (pi_range1 (by rfl) T.b_range (wa_cons (pe_imp (pe_callB call_len (by rfl) T.b_len PySem.boot_len (wa_cons (we_fld T.fk_shares (we_var (pv 0)) rfl) wa_nil)) (e_cb sa_len)) wa_nil))) (pg_name (i := 6) scLawFault.nd rfl (Or.inl rfl)) (wss_one (ws_if (wt_cmp (op_ninT hr.units) s_ninT (we_idx (we_fld T.fk_shares (we_var (pv 0)) rfl) (we_var (pv 6)) (fun _ _ => rfl)) (we_fld T.fk_flows (we_var (pv 0)) rfl) rfl) (wss_one (ws_retO (wo_lst (wa_cons we_int (wa_cons (we_tup (wa_cons we_str (wa_cons (we_var (pv 6)) wa_nil))) wa_nil))))) wss_nil))))
(wss_one (ws_retO (wo_lst (wa_cons we_int (wa_cons we_non wa_nil))))))))))))

theorem ok_LawOdd (T : Tx K w mg) : FnOk P w K mg base (L2N.CX P w) 2 T.aLawOdd T.fdLawOdd PLawOdd (spW K T.cs cLawOdd) := by
  unfold cLawOdd
  exact ok_W T.dLawOdd.F scLawOdd rfl fun cdv A outer s H E hr tk => by
    unfold wdLawOdd
    exact (wss_one (ws_ret (we_idx (we_frz (wo_lst (wa_cons we_int (wa_cons we_int (wa_cons (we_sub (we_var (pv 2)) we_int) (wa_cons (we_var (pv 2)) (wa_cons (we_sub we_int we_int) (wa_cons we_non (wa_cons we_bl (wa_cons we_str (wa_cons we_int (wa_cons we_int (wa_cons we_int (wa_cons we_int (wa_cons we_int wa_nil))))))))))))))) (we_frz (wo_call (pe_callS (ok_LawDraw T) (hr.mono (by decide)) (by rfl) T.dLawDraw.g T.dLawDraw.F.kp T.dLawDraw.b (fun σ => L2N.passAt tk σ) (wa_cons (we_var (pv 0)) (wa_cons (we_var (pv 1)) (wa_cons we_int wa_nil)))))) (fun _ _ => rfl))))

theorem ok_LawChanged (T : Tx K w mg) : FnOk P w K mg base (L2N.CX P w) 3 T.aLawChanged T.fdLawChanged PLawChanged (spA K T.cs cLawChanged) := by
  unfold cLawChanged
  exact ok_WA T.dLawChanged.F scLawChanged rfl fun cdv A outer s H E hr tk => by
    unfold wdLawChanged
    exact (wss_cons (ws_asg (ps_set (i := 3) scLawChanged.nd rfl (Or.inl rfl) (we_frz (wo_call (pe_callS (ok_LawDraw T) (hr.mono (by decide)) (by rfl) T.dLawDraw.g T.dLawDraw.F.kp T.dLawDraw.b (fun σ => L2N.passAt tk σ) (wa_cons (we_var (pv 0)) (wa_cons (we_var (pv 1)) (wa_cons we_int wa_nil))))))))
(wss_cons (ws_asg (ps_set (i := 4) scLawChanged.nd rfl (Or.inr rfl) (pe_imp (pe_callB call_len (by rfl) T.b_len PySem.boot_len (wa_cons (we_res (we_idx (we_var (pv 2)) we_int (fun _ _ => rfl))) wa_nil)) (e_cb sa_len))))
(wss_cons (ws_asgT (tg_lst (js := [5, 6, 7]) rfl) (ps_asg (we_frz (wo_lc tg_name (tgw_name (by decide)) (pe_lc (own := [("k", 8)]) rfl scLawChanged.nd (wi_rng1 (pi_range1 (by rfl) T.b_range (wa_cons we_int wa_nil))) (blkOk_by (own := [("k", 8)]) (N := NLawChanged) (sc := defScope sLawChanged) (by decide +kernel)) (fun _ _ _ _ _ => (pg_name (i := 8) scLawChanged.nd rfl (Or.inl rfl))) (fun _ _ _ _ _ => wts_nil) (fun _ _ _ _ _ => (wo_call (pe_callS (ok_LawOdd T) (hr.mono (by decide)) (by rfl) T.dLawOdd.g T.dLawOdd.F.kp T.dLawOdd.b (fun σ => L2N.passAt takesNo σ) (wa_cons (we_var (pv 0)) (wa_cons (we_var (pv 1)) (wa_cons (we_var (pv 4)) wa_nil))))))))) (pg_lst rfl (pgs_cons (pg_name (i := 5) scLawChanged.nd rfl (Or.inl rfl)) (pgs_cons (pg_name (i := 6) scLawChanged.nd rfl (Or.inl rfl)) (pgs_cons (pg_name (i := 7) scLawChanged.nd rfl (Or.inl rfl)) pgs_nil))))))
(wss_cons (ws_asg (ps_set (i := 9) scLawChanged.nd rfl (Or.inl rfl) (we_frz (wo_call (pe_callS (ok_LawDraw T) (hr.mono (by decide)) (by rfl) T.dLawDraw.g T.dLawDraw.F.kp T.dLawDraw.b (fun σ => L2N.passAt tk σ) (wa_cons (we_var (pv 0)) (wa_cons (we_var (pv 1)) (wa_cons (we_var (pv 4)) wa_nil))))))))
(wss_cons (ws_asg (ps_set (i := 10) scLawChanged.nd rfl (Or.inl rfl) (we_frz (wo_call (pe_callS (ok_LawDraw T) (hr.mono (by decide)) (by rfl) T.dLawDraw.g T.dLawDraw.F.kp T.dLawDraw.b (fun σ => L2N.passAt tk σ) (wa_cons (we_var (pv 0)) (wa_cons (we_var (pv 1)) (wa_cons (we_var (pv 4)) wa_nil))))))))
(wss_cut (ws_if (wt_cmp (op_eqA hr.units) s_eq (we_var (pv 3)) we_int (nomark _)) (wss_one (ws_app (ps_expr (pe_bm PySem.F.plainAttrs_list PySem.F.slot_list_append PySem.F.type_list_append mt_append (we_res (we_idx (we_var (pv 2)) we_int (fun _ _ => rfl))) (pa_cons (wo_lift (we_frz (wo_make (pe_make T.mkPartition (ok_PartitionInit T) (hr.mono (by decide)) (by rfl) T.gPartition T.mPartitionInit.b .nil noPassW (wa_cons (we_frz (wo_repL (we_frz (wo_lst (wa_cons (we_idx (we_frz (wo_lst (wa_cons we_int (wa_cons we_int (wa_cons we_int (wa_cons (we_sub we_int we_int) (wa_cons we_bl wa_nil))))))) (we_frz (wo_call (pe_callS (ok_LawDraw T) (hr.mono (by decide)) (by rfl) T.dLawDraw.g T.dLawDraw.F.kp T.dLawDraw.b (fun σ => L2N.passAt tk σ) (wa_cons (we_var (pv 0)) (wa_cons (we_var (pv 1)) (wa_cons we_int wa_nil)))))) (fun _ _ => rfl)) wa_nil))) (we_frz (wo_call (pe_callS (ok_LawDraw T) (hr.mono (by decide)) (by rfl) T.dLawDraw.g T.dLawDraw.F.kp T.dLawDraw.b (fun σ => L2N.passAt tk σ) (wa_cons (we_var (pv 0)) (wa_cons (we_var (pv 1)) (wa_cons we_int wa_nil)))))))) (wa_cons we_int (wa_cons we_int wa_nil))))))) pa_nil))))) wss_nil)
(wss_cut (ws_if (wt_cmp (op_eqA hr.units) s_eq (we_var (pv 3)) we_int (nomark _)) (wss_one (ws_setI (ps_asg (we_frz (wo_make (pe_make T.mkPartition (ok_PartitionInit T) (hr.mono (by decide)) (by rfl) T.gPartition T.mPartitionInit.b .nil noPassW (wa_cons (we_frz (wo_lst wa_nil)) (wa_cons (we_idx (we_frz (wo_lst (wa_cons we_int (wa_cons we_int (wa_cons we_int (wa_cons we_int (wa_cons we_bl wa_nil))))))) (we_frz (wo_call (pe_callS (ok_LawDraw T) (hr.mono (by decide)) (by rfl) T.dLawDraw.g T.dLawDraw.F.kp T.dLawDraw.b (fun σ => L2N.passAt tk σ) (wa_cons (we_var (pv 0)) (wa_cons (we_var (pv 1)) (wa_cons we_int wa_nil)))))) (fun _ _ => rfl)) (wa_cons (we_idx (we_frz (wo_lst (wa_cons we_int (wa_cons we_int (wa_cons we_int (wa_cons we_int (wa_cons we_int (wa_cons (we_sub we_int we_int) (wa_cons we_bl wa_nil))))))))) (we_frz (wo_call (pe_callS (ok_LawDraw T) (hr.mono (by decide)) (by rfl) T.dLawDraw.g T.dLawDraw.F.kp T.dLawDraw.b (fun σ => L2N.passAt tk σ) (wa_cons (we_var (pv 0)) (wa_cons (we_var (pv 1)) (wa_cons we_int wa_nil)))))) (fun _ _ => rfl)) wa_nil)))))) (pg_sub (we_res (we_idx (we_var (pv 2)) we_int (fun _ _ => rfl))) (we_var (pv 9)) set_list)))) wss_nil)
(wss_cut (ws_if (wt_cmp (op_eqA hr.units) s_eq (we_var (pv 3)) we_int (nomark _)) (wss_one (ws_app (ps_expr (pe_bm PySem.F.plainAttrs_list PySem.F.slot_list_append PySem.F.type_list_append mt_append (we_res (we_idx (we_var (pv 2)) we_int (fun _ _ => rfl))) (pa_cons (wo_lift (we_idx (we_frz (wo_lst (wa_cons (we_tup (wa_cons (we_var (pv 5)) (wa_cons (we_var (pv 6)) wa_nil))) (wa_cons (we_tup (wa_cons (we_var (pv 9)) (wa_cons we_int wa_nil))) (wa_cons (we_tup (wa_cons (we_var (pv 9)) (wa_cons we_int wa_nil))) (wa_cons (we_tup (wa_cons (we_var (pv 9)) (wa_cons we_int (wa_cons we_int wa_nil)))) (wa_cons we_non wa_nil))))))) (we_frz (wo_call (pe_callS (ok_LawDraw T) (hr.mono (by decide)) (by rfl) T.dLawDraw.g T.dLawDraw.F.kp T.dLawDraw.b (fun σ => L2N.passAt tk σ) (wa_cons (we_var (pv 0)) (wa_cons (we_var (pv 1)) (wa_cons we_int wa_nil)))))) (fun _ _ => rfl))) pa_nil))))) wss_nil)
(wss_cut (ws_if (wt_cmp (op_eqA hr.units) s_eq (we_var (pv 3)) we_int (nomark _)) (wss_one (ws_app (ps_expr (pe_bm PySem.F.plainAttrs_list PySem.F.slot_list_append PySem.F.type_list_append mt_append (we_res (we_idx (we_var (pv 2)) we_int (fun _ _ => rfl))) (pa_cons (wo_lift (we_idx (we_frz (wo_lst (wa_cons (we_tup (wa_cons (we_var (pv 5)) (wa_cons (we_var (pv 6)) (wa_cons (we_var (pv 7)) (wa_cons we_bl wa_nil))))) (wa_cons (we_tup (wa_cons (we_var (pv 9)) (wa_cons (we_var (pv 10)) (wa_cons we_int (wa_cons we_bl wa_nil))))) (wa_cons (we_tup (wa_cons (we_var (pv 9)) (wa_cons (we_var (pv 10)) (wa_cons we_int (wa_cons we_bl wa_nil))))) (wa_cons (we_tup (wa_cons (we_var (pv 9)) (wa_cons (we_var (pv 10)) (wa_cons we_int (wa_cons we_int wa_nil))))) (wa_cons (we_tup (wa_cons (we_var (pv 9)) (wa_cons (we_var (pv 10)) (wa_cons we_int wa_nil)))) (wa_cons (we_tup (wa_cons (we_var (pv 9)) (wa_cons (we_var (pv 10)) (wa_cons we_int (wa_cons we_bl wa_nil))))) wa_nil)))))))) (we_frz (wo_call (pe_callS (ok_LawDraw T) (hr.mono (by decide)) (by rfl) T.dLawDraw.g T.dLawDraw.F.kp T.dLawDraw.b (fun σ => L2N.passAt tk σ) (wa_cons (we_var (pv 0)) (wa_cons (we_var (pv 1)) (wa_cons we_int wa_nil)))))) (fun _ _ => rfl))) pa_nil))))) wss_nil)
(wss_cut (ws_if (wt_cmp op_in_seq s_in (we_var (pv 3)) (we_frz (wo_lst (wa_cons we_int (wa_cons we_int wa_nil)))) rfl) (wss_one (ws_app (ps_expr (pe_bm PySem.F.plainAttrs_list PySem.F.slot_list_append PySem.F.type_list_append mt_append (we_res (we_idx (we_var (pv 2)) (we_idx (we_frz (wo_lst (wa_cons we_int (wa_cons we_int wa_nil)))) (we_sub (we_var (pv 3)) we_int) (fun _ _ => rfl)) (fun _ _ => rfl))) (pa_cons (wo_lift (we_idx (we_frz (wo_lst (wa_cons (we_tup (wa_cons (we_var (pv 5)) (wa_cons (we_var (pv 6)) wa_nil))) (wa_cons (we_tup (wa_cons (we_var (pv 9)) (wa_cons (we_var (pv 10)) wa_nil))) (wa_cons (we_tup (wa_cons (we_var (pv 9)) (wa_cons (we_var (pv 10)) (wa_cons (we_var (pv 9)) wa_nil)))) (wa_cons we_int wa_nil)))))) (we_frz (wo_call (pe_callS (ok_LawDraw T) (hr.mono (by decide)) (by rfl) T.dLawDraw.g T.dLawDraw.F.kp T.dLawDraw.b (fun σ => L2N.passAt tk σ) (wa_cons (we_var (pv 0)) (wa_cons (we_var (pv 1)) (wa_cons we_int wa_nil)))))) (fun _ _ => rfl))) pa_nil))))) wss_nil)
(wss_cut (ws_if (wt_cmp (op_eqA hr.units) s_eq (we_var (pv 3)) we_int (nomark _)) (wss_one (ws_app (ps_expr (pe_bm PySem.F.plainAttrs_list PySem.F.slot_list_append PySem.F.type_list_append mt_append (we_res (we_idx (we_var (pv 2)) we_int (fun _ _ => rfl))) (pa_cons (wo_lift (we_idx (we_frz (wo_lst (wa_cons (we_var (pv 5)) (wa_cons (we_var (pv 9)) wa_nil)))) (we_frz (wo_call (pe_callS (ok_LawDraw T) (hr.mono (by decide)) (by rfl) T.dLawDraw.g T.dLawDraw.F.kp T.dLawDraw.b (fun σ => L2N.passAt tk σ) (wa_cons (we_var (pv 0)) (wa_cons (we_var (pv 1)) (wa_cons we_int wa_nil)))))) (fun _ _ => rfl))) pa_nil))))) wss_nil)
(wss_cut (ws_if (wt_cmp (op_eqA hr.units) s_eq (we_var (pv 3)) we_int (nomark _)) (wss_cons (ws_asg (ps_set (i := 11) scLawChanged.nd rfl (Or.inl rfl) (we_frz (wo_call (pe_callS (ok_LawDraw T) (hr.mono (by decide)) (by rfl) T.dLawDraw.g T.dLawDraw.F.kp T.dLawDraw.b (fun σ => L2N.passAt tk σ) (wa_cons (we_var (pv 0)) (wa_cons (we_var (pv 1)) (wa_cons we_int wa_nil))))))))
(wss_one (ws_if (wt_cmp op_gt s_gt (pe_imp (pe_callB call_len (by rfl) T.b_len PySem.boot_len (wa_cons (we_res (we_idx (we_var (pv 2)) (we_var (pv 11)) (fun _ _ => rfl))) wa_nil)) (e_cb sa_len)) we_int (nomark _)) (wss_one (ws_setNew (ps_asg (wo_catL (we_res (we_idx (we_var (pv 2)) (we_var (pv 11)) (fun _ _ => rfl))) (we_frz (wo_repL (we_frz (wo_lst (wa_cons (we_idx (we_res (we_idx (we_var (pv 2)) (we_var (pv 11)) (fun _ _ => rfl))) we_int (fun _ _ => rfl)) wa_nil))) (we_idx (we_frz (wo_lst (wa_cons we_int (wa_cons we_int (wa_cons we_int (wa_cons we_int (wa_cons we_int (wa_cons we_int (wa_cons we_int (wa_cons we_int wa_nil)))))))))) (we_frz (wo_call (pe_callS (ok_LawDraw T) (hr.mono (by decide)) (by rfl) T.dLawDraw.g T.dLawDraw.F.kp T.dLawDraw.b (fun σ => L2N.passAt tk σ) (wa_cons (we_var (pv 0)) (wa_cons (we_var (pv 1)) (wa_cons we_int wa_nil)))))) (fun _ _ => rfl))))) (pg_sub (we_var (pv 2)) (we_var (pv 11)) set_list)))) wss_nil))) wss_nil)
(wss_cut (ws_if (ww_and (wt_cmp (op_eqA hr.units) s_eq (we_var (pv 3)) we_int (nomark _)) (pw_and1 (wt_cmp op_gt s_gt (pe_imp (pe_callB call_len (by rfl) T.b_len PySem.boot_len (wa_cons (we_res (we_idx (we_var (pv 2)) we_int (fun _ _ => rfl))) wa_nil)) (e_cb sa_len)) we_int (nomark _)))).pt (wss_one (ws_expr (we_pop (pe_bm PySem.F.plainAttrs_list PySem.F.slot_list_pop PySem.F.type_list_pop mt_popAt (we_res (we_idx (we_var (pv 2)) we_int (fun _ _ => rfl))) (wa_cons (we_frz (wo_call (pe_callS (ok_LawDraw T) (hr.mono (by decide)) (by rfl) T.dLawDraw.g T.dLawDraw.F.kp T.dLawDraw.b (fun σ => L2N.passAt tk σ) (wa_cons (we_var (pv 0)) (wa_cons (we_var (pv 1)) (wa_cons (pe_imp (pe_callB call_len (by rfl) T.b_len PySem.boot_len (wa_cons (we_res (we_idx (we_var (pv 2)) we_int (fun _ _ => rfl))) wa_nil)) (e_cb sa_len)) wa_nil)))))) wa_nil))))) wss_nil)
(wss_cut (ws_if (wt_cmp (op_eqA hr.units) s_eq (we_var (pv 3)) we_int (nomark _)) (wss_cons (ws_asg (ps_set (i := 11) scLawChanged.nd rfl (Or.inl rfl) (we_frz (wo_call (pe_callS (ok_LawDraw T) (hr.mono (by decide)) (by rfl) T.dLawDraw.g T.dLawDraw.F.kp T.dLawDraw.b (fun σ => L2N.passAt tk σ) (wa_cons (we_var (pv 0)) (wa_cons (we_var (pv 1)) (wa_cons we_int wa_nil))))))))
(wss_one (ws_setNew (ps_asg (wo_lst wa_nil) (pg_sub (we_var (pv 2)) (we_var (pv 11)) set_list))))) wss_nil)
(wss_one (ws_if (wt_cmp (op_eqA hr.units) s_eq (we_var (pv 3)) we_int (nomark _)) (wss_one (ws_setI (ps_asg (we_frz (wo_make (pe_make T.mkPartition (ok_PartitionInit T) (hr.mono (by decide)) (by rfl) T.gPartition T.mPartitionInit.b .nil noPassW (wa_cons (we_frz (wo_lst wa_nil)) (wa_cons (we_sub we_int (we_frz (wo_call (pe_callS (ok_LawDraw T) (hr.mono (by decide)) (by rfl) T.dLawDraw.g T.dLawDraw.F.kp T.dLawDraw.b (fun σ => L2N.passAt tk σ) (wa_cons (we_var (pv 0)) (wa_cons (we_var (pv 1)) (wa_cons we_int wa_nil))))))) (wa_cons we_int wa_nil)))))) (pg_sub (we_res (we_idx (we_var (pv 2)) we_int (fun _ _ => rfl))) (we_var (pv 9)) set_list)))) wss_nil))))))))))))))))

theorem ok_law (T : Tx K w mg) : FnG P w K mg base 8 T.aLaw T.fdLaw PLaw (fun vs H Q _ => spW K T.cs cLaw vs H Q fun _ _ _ => False) := by
  unfold cLaw
  exact ok_W0G T.dLaw.F scLaw rfl fun cdv A outer s H E hG hr tk => by
    unfold wdLaw
    exact (wss_cons (ws_new (ps_set (i := 1) scLaw.nd rfl (Or.inl rfl) (wo_lst (wa_cons we_int (wa_cons we_int wa_nil)))))
(wss_cons (ws_asg (ps_set (i := 2) scLaw.nd rfl (Or.inl rfl) (we_frz (wo_call (pe_callS (ok_LawConfig T) (hr.mono (by decide)) (by rfl) T.dLawConfig.g T.dLawConfig.F.kp T.dLawConfig.b (fun σ => L2N.passAt takesNo σ) (wa_cons (we_var (pv 1)) (wa_cons (we_var (pv 0)) wa_nil)))))))
(wss_cons (ws_if (wt_cmp op_notN s_isnt (we_frz (wo_call (pe_callS (ok_Judge T) (hr.mono (by decide)) (by rfl) T.dJudge.g T.dJudge.F.kp T.dJudge.b (fun σ => L2N.passAt takesNo σ) (wa_cons (we_var (pv 2)) wa_nil)))) we_non (nomark _)) (wss_one (ws_ret we_bl)) wss_nil)
(wss_cons (s_setLcSplit tg_name (tgw_name (by decide)) (ps_setLc (i := 3) (own := [("part", 4)]) rfl scLaw.nd rfl rfl (sw_true rfl rfl rfl (by decide +kernel)) (wi_tup (we_frz (wo_meth0 (C := T.cs) (c := 1) (show ¬ _ ∈ lys.getD 1 [] from by decide +kernel) (pe_methX0 (we_var (pv 2)) T.clConfig T.hConfigFields (ok_ConfigFields T) (hr.mono (by decide)) T.mConfigFields.b (fun σ => L2N.passAt takesNo σ))))) (blkOk_by (own := [("part", 4)]) (N := NLaw) (sc := defScope sLaw) (by decide +kernel)) (fun _ _ _ _ _ => (pg_name (i := 4) scLaw.nd rfl (Or.inl rfl))) (fun _ _ _ _ _ => wts_nil) (fun _ _ _ _ _ => (pe_imp (pe_callTy call_list_of (by rfl) T.b_list (by decide +kernel) (wa_cons (we_var (pv 4)) wa_nil)) o_listOf))))
(wss_cut (ws_for tg_name (ps_for PassesOwn.never rfl (wi_rng1 (pi_range1 (by rfl) T.b_range (wa_cons (we_add we_int (we_frz (wo_call (pe_callS (ok_LawDraw T) (hr.mono (by decide)) (by rfl) T.dLawDraw.g T.dLawDraw.F.kp T.dLawDraw.b (fun σ => L2N.passAt takesNo σ) (wa_cons (we_var (pv 1)) (wa_cons (we_var (pv 0)) (wa_cons we_int wa_nil))))))) wa_nil))) (pg_name (i := 5) scLaw.nd rfl (Or.inl rfl)) (wss_one (ws_if (wt_cmp op_gt s_gt (pe_imp (pe_callB call_len (by rfl) T.b_len PySem.boot_len (wa_cons (we_res (we_idx (we_var (pv 3)) we_int (fun _ _ => rfl))) wa_nil)) (e_cb sa_len)) we_int (nomark _)) (wss_one (ws_doA (pe_callS (ok_LawChanged T) (hr.mono (by decide)) (by rfl) T.dLawChanged.g T.dLawChanged.F.kp T.dLawChanged.b (fun σ => L2N.passAt takesNo σ) (wa_cons (we_var (pv 1)) (wa_cons (we_var (pv 0)) (wa_cons (we_var (pv 3)) wa_nil)))))) wss_nil))))
(wss_cons (ws_asg (ps_set (i := 6) scLaw.nd rfl (Or.inl rfl) (we_frz (wo_make (pe_make T.mkConfig (ok_ConfigInit T) (hr.mono (by decide)) (by rfl) T.gConfig T.mConfigInit.b .nil noPassW (wa_cons (we_fz (we_res (we_idx (we_var (pv 3)) we_int (fun _ _ => rfl)))) (wa_cons (we_fz (we_res (we_idx (we_var (pv 3)) we_int (fun _ _ => rfl)))) (wa_cons (we_fz (we_res (we_idx (we_var (pv 3)) we_int (fun _ _ => rfl)))) (wa_cons (we_fz (we_res (we_idx (we_var (pv 3)) we_int (fun _ _ => rfl)))) (wa_cons (we_fz (we_res (we_idx (we_var (pv 3)) we_int (fun _ _ => rfl)))) (wa_cons (we_fz (we_res (we_idx (we_var (pv 3)) we_int (fun _ _ => rfl)))) wa_nil)))))))))))
(wss_cons (ws_asg (ps_set (i := 7) scLaw.nd rfl (Or.inl rfl) (we_add (pe_imp (pe_callB (id := "repr") (cr_repr hG hr.units) (by rfl) T.b_repr (by decide +kernel) (wa_cons (we_frz (wo_lc tg_name (tgw_name (by decide)) (pe_lc (own := [("part", 4)]) rfl scLaw.nd (wi_tup (we_fld T.fk_partitions (we_var (pv 6)) rfl)) (blkOk_by (own := [("part", 4)]) (N := NLaw) (sc := defScope sLaw) (by decide +kernel)) (fun _ _ _ _ _ => (pg_name (i := 4) scLaw.nd rfl (Or.inl rfl))) (fun _ _ _ _ _ => wts_nil) (fun _ _ _ _ _ => (wo_meth0 (C := T.cs) (c := 0) (show ¬ _ ∈ lys.getD 0 [] from by decide +kernel) (pe_methX0 (we_var (pv 4)) T.clPartition T.hPartitionFields (ok_PartitionFields T) (hr.mono (by decide)) T.mPartitionFields.b (fun σ => L2N.passAt takesNo σ))))))) wa_nil)) (e_cb sa_repr)) (pe_imp (pe_callB (id := "repr") (cr_repr hG hr.units) (by rfl) T.b_repr (by decide +kernel) (wa_cons (we_slT (we_frz (wo_meth0 (C := T.cs) (c := 1) (show ¬ _ ∈ lys.getD 1 [] from by decide +kernel) (pe_methX0 (we_var (pv 6)) T.clConfig T.hConfigFields (ok_ConfigFields T) (hr.mono (by decide)) T.mConfigFields.b (fun σ => L2N.passAt takesNo σ)))) (wp_some we_int) wp_none) wa_nil)) (e_cb sa_repr)))))
(wss_cons (ws_asgT (tg_lst (js := [8, 9]) rfl) (ps_asg (we_frz (wo_call (pe_callS (ok_LawFault T) (hr.mono (by decide)) (by rfl) T.dLawFault.g T.dLawFault.F.kp T.dLawFault.b (fun σ => L2N.passAt takesNo σ) (wa_cons (we_var (pv 6)) wa_nil)))) (pg_lst rfl (pgs_cons (pg_name (i := 8) scLaw.nd rfl (Or.inl rfl)) (pgs_cons (pg_name (i := 9) scLaw.nd rfl (Or.inl rfl)) pgs_nil)))))
(wss_cons (ws_if (ww_or (wt_cmp (op_neA hr.units) s_neV (we_frz (wo_call (pe_callS (ok_Judge T) (hr.mono (by decide)) (by rfl) T.dJudge.g T.dJudge.F.kp T.dJudge.b (fun σ => L2N.passAt takesNo σ) (wa_cons (we_var (pv 6)) wa_nil)))) (we_var (pv 9)) (nomark _)) (pw_or1 (wt_cmp (op_neA hr.units) s_ne (pe_imp (pe_callB (id := "repr") (cr_repr hG hr.units) (by rfl) T.b_repr (by decide +kernel) (wa_cons (we_frz (wo_call (pe_callS (ok_Judge T) (hr.mono (by decide)) (by rfl) T.dJudge.g T.dJudge.F.kp T.dJudge.b (fun σ => L2N.passAt takesNo σ) (wa_cons (we_var (pv 6)) wa_nil)))) wa_nil)) (e_cb sa_repr)) (pe_imp (pe_callB (id := "repr") (cr_repr hG hr.units) (by rfl) T.b_repr (by decide +kernel) (wa_cons (we_var (pv 9)) wa_nil)) (e_cb sa_repr)) (nomark _)))).pt (wss_one (ws_ret we_bl)) wss_nil)
(wss_cons (ws_if (ww_or (wt_cmp (op_neA hr.units) s_ne (we_cmp op_isN s_is (we_frz (wo_call (pe_callS (ok_CountFault T) (hr.mono (by decide)) (by rfl) T.dCountFault.g T.dCountFault.F.kp T.dCountFault.b (fun σ => L2N.passAt takesNo σ) (wa_cons (we_var (pv 6)) wa_nil)))) we_non (nomark _)) (we_cmp op_gt s_gt (we_var (pv 8)) we_int (nomark _)) (nomark _)) (pw_or1 (ww_and (wt_cmp op_gt s_gt (we_var (pv 8)) we_int (nomark _)) (pw_and1 (wt_cmp (op_neA hr.units) s_ne (we_cmp op_isN s_is (we_frz (wo_call (pe_callS (ok_ShapeFault T) (hr.mono (by decide)) (by rfl) T.dShapeFault.g T.dShapeFault.F.kp T.dShapeFault.b (fun σ => L2N.passAt takesNo σ) (wa_cons (we_var (pv 6)) wa_nil)))) we_non (nomark _)) (we_cmp op_gt s_gt (we_var (pv 8)) we_int (nomark _)) (nomark _)))).pt)).pt (wss_one (ws_ret we_bl)) wss_nil)
(wss_cons (ws_if (ww_and (wt_cmp op_gt s_gt (we_var (pv 8)) we_int (nomark _)) (pw_and1 (wt_cmp (op_neA hr.units) s_neV (we_frz (wo_call (pe_callS (ok_FlowFault T) (hr.mono (by decide)) (by rfl) T.dFlowFault.g T.dFlowFault.F.kp T.dFlowFault.b (fun σ => L2N.passAt takesNo σ) (wa_cons (we_var (pv 6)) wa_nil)))) (we_var (pv 9)) (nomark _)))).pt (wss_one (ws_ret we_bl)) wss_nil)
(wss_one (ws_ret (we_cmp (op_eqA hr.units) s_eq (we_add (pe_imp (pe_callB (id := "repr") (cr_repr hG hr.units) (by rfl) T.b_repr (by decide +kernel) (wa_cons (we_frz (wo_lc tg_name (tgw_name (by decide)) (pe_lc (own := [("part", 4)]) rfl scLaw.nd (wi_tup (we_fld T.fk_partitions (we_var (pv 6)) rfl)) (blkOk_by (own := [("part", 4)]) (N := NLaw) (sc := defScope sLaw) (by decide +kernel)) (fun _ _ _ _ _ => (pg_name (i := 4) scLaw.nd rfl (Or.inl rfl))) (fun _ _ _ _ _ => wts_nil) (fun _ _ _ _ _ => (wo_meth0 (C := T.cs) (c := 0) (show ¬ _ ∈ lys.getD 0 [] from by decide +kernel) (pe_methX0 (we_var (pv 4)) T.clPartition T.hPartitionFields (ok_PartitionFields T) (hr.mono (by decide)) T.mPartitionFields.b (fun σ => L2N.passAt takesNo σ))))))) wa_nil)) (e_cb sa_repr)) (pe_imp (pe_callB (id := "repr") (cr_repr hG hr.units) (by rfl) T.b_repr (by decide +kernel) (wa_cons (we_slT (we_frz (wo_meth0 (C := T.cs) (c := 1) (show ¬ _ ∈ lys.getD 1 [] from by decide +kernel) (pe_methX0 (we_var (pv 6)) T.clConfig T.hConfigFields (ok_ConfigFields T) (hr.mono (by decide)) T.mConfigFields.b (fun σ => L2N.passAt takesNo σ)))) (wp_some we_int) wp_none) wa_nil)) (e_cb sa_repr))) (we_var (pv 7)) (nomark _)))))))))))))))
end
end K31
end

section
set_option linter.all false
set_option maxRecDepth 100000
set_option maxHeartbeats 1000000
set_option pp.deepTerms false
namespace K31
open PySem L2 Evl Wv
def W (x : Int) : Prop := 0 ≤ x ∧ x < 65536
def Ws (l : List Int) : Prop := ∀ x ∈ l, W x
def dints (l : List Int) : List D := l.map D.int
/-- the draws' state -/
abbrev dst2 (i j : Int) : T := .lst [.dat (.int i), .dat (.int j)]
theorem dints_at {cs : List Int} {n : Int} (h : 0 < (cs.length : Int)) : ∃ c, atI (dints cs) (n % ((dints cs).length : Int)) = some (D.int c) := by
  unfold atI dints
  rw [List.length_map]
  have h0 : 0 ≤ n % (cs.length : Int) := Int.emod_nonneg _ (by omega)
  have h1 : n % (cs.length : Int) < cs.length := Int.emod_lt_of_pos _ (by omega)
  have e : ixN cs.length (n % (cs.length : Int)) = some (n % (cs.length : Int)).toNat := by
    unfold ixN
    rw [if_pos h0, if_pos h1]
  rw [e]
  have hl : (n % (cs.length : Int)).toNat < cs.length := by omega
  exact ⟨cs[(n % (cs.length : Int)).toNat], by simp [List.getElem?_eq_getElem hl]⟩
theorem spec_draw (i j : Int) (cs : List Int) (n : Int) (hn : 0 < n) (hb : n < 1000000) (k : T → Roots → Prop) (kx : Exn → Roots → Prop) (hk : ∀ d i' j', 0 ≤ d → d < n → k (.dat (.int d)) [dst2 i' j']) : cLawDraw [.ref 0 [], .dat (.ro (dints cs)), .dat (.int n)] [dst2 i j] k kx := by
  unfold cLawDraw cwOf
  refine ⟨rfl, ?_⟩
  unfold wdLawDraw
  refine ⟨fun sl rt => ∃ i j x y, sl = [some (.ref 0 []), some (.dat (.ro (dints cs))), some (.dat (.int n)), x, y, none] ∧ rt = [dst2 i j], ?_, ?_⟩
  · refine ⟨1, .dat (.int j), rfl, rfl, ?_⟩
    refine ⟨fun hj => ?_, fun hj => ⟨i, j, none, none, rfl, rfl⟩⟩
    refine ⟨fun sl rt => ∃ c : Int, sl = [some (.ref 0 []), some (.dat (.ro (dints cs))), some (.dat (.int n)), some (.dat (.int c)), none, none] ∧ rt = [dst2 i j], ?_, ?_⟩
    · refine ⟨fun h => ?_, fun h => ⟨0, rfl, rfl⟩⟩
      have h : 0 < (cs.length : Int) := by
        have : (0 : Int) < ((dints cs).length : Int) := of_decide_eq_true h
        simpa [dints] using this
      refine ⟨0, .dat (.int i), rfl, rfl, ?_⟩
      have h2 : (0 : Int) < ((dints cs).length : Int) := by simpa [dints] using h
      obtain ⟨c, hc⟩ := dints_at (n := i) h
      exact ⟨h2, .int c, hc, c, rfl, rfl⟩
    · rintro _ _ ⟨c, rfl, rfl⟩
      refine ⟨fun sl rt => ∃ c : Int, sl = [some (.ref 0 []), some (.dat (.ro (dints cs))), some (.dat (.int n)), some (.dat (.int c)), none, none] ∧ rt = [dst2 i j], ?_, ?_⟩
      · refine ⟨fun h => ?_, fun h => ⟨c, rfl, rfl⟩⟩
        exact ⟨Or.inl (by decide), 1 - 2 * c, rfl, rfl⟩
      · rintro _ _ ⟨c, rfl, rfl⟩
        refine ⟨0, .dat (.int i), rfl, rfl, Or.inr (by decide), Or.inr (by decide), (by show (0 : Int) < 2147483647; decide), Or.inr (by decide), ?_⟩
        refine ⟨0, .dat (.int i), rfl, rfl, Or.inr (by decide), (by show (0 : Int) < 4294967291; decide), 1, .dat (.int j), rfl, rfl, rfl, ?_⟩
        refine ⟨fun sl rt => ∃ i j x y, sl = [some (.ref 0 []), some (.dat (.ro (dints cs))), some (.dat (.int n)), x, y, none] ∧ rt = [dst2 i j], ?_, ?_⟩
        · refine ⟨⟨by decide, by decide, by decide⟩, decide (i < ((dints cs).length : Int)), fun _ => ⟨0, .dat (.int i), rfl, rfl, rfl, rfl⟩, fun h => ?_, fun h => ?_⟩
          · exact ⟨1, _, rfl, rfl, rfl, i, c, _, _, rfl, rfl⟩
          · exact ⟨i, _, _, _, rfl, rfl⟩
        · rintro _ _ ⟨i, j, x, y, rfl, rfl⟩
          exact ⟨0, .dat (.int i), rfl, rfl, 0, .dat (.int i), rfl, rfl, rfl, i + 1, j, x, y, rfl, rfl⟩
  · rintro _ _ ⟨i, j, x, y, rfl, rfl⟩
    refine ⟨1, .dat (.int j), rfl, rfl, hn, 1, .dat (.int j), rfl, rfl, ⟨hn, by omega⟩, 1, .dat (.int j), rfl, rfl, rfl, ?_⟩
    exact hk _ _ _ (Int.emod_nonneg _ (by omega)) (Int.emod_lt_of_pos _ hn)
/-! helpers -/
theorem atI_mem {α : Type} {xs : List α} {d : Int} (h0 : 0 ≤ d) (h1 : d < xs.length) : ∃ x ∈ xs, atI xs d = some x := by
  unfold atI ixN
  rw [if_pos h0, if_pos h1]
  have hl : d.toNat < xs.length := by omega
  exact ⟨xs[d.toNat], List.getElem_mem hl, by simp [List.getElem?_eq_getElem hl]⟩
theorem first_str : ∀ {ss : List Str} {x : Str}, x ∈ ss → ∃ j, j < ss.length ∧ firstAt (ss.map D.str) (.str x) j
  | s :: ss, x, h => by
    by_cases e : s = x
    · exact ⟨0, by simp, ⟨.str s, rfl, by simp [D.sc, e]⟩, fun m z hm => absurd hm (Nat.not_lt_zero _)⟩
    · have h : x ∈ ss := by
        rcases List.mem_cons.mp h with z | z
        · exact absurd z.symm e
        · exact z
      obtain ⟨j, hj, ⟨z, z1, z2⟩, hm⟩ := first_str h
      refine ⟨j + 1, by simpa using hj, ⟨z, z1, z2⟩, fun m y hm' hy => ?_⟩
      cases m with
      | zero =>
        cases hy
        simp [D.sc, e]
      | succ m => exact hm m y (by omega) hy
abbrev opsL : List Str := ["halt", "set", "copy", "add", "sub", "mul", "and", "or", "xor", "shl", "shr", "addi", "load", "store", "jump", "jal", "beq", "bne", "blt", "call"]
theorem spec_word (op : Str) (a b c : Int) (hop : op ∈ opsL) (ha : 0 ≤ a ∧ a < 8) (hb : 0 ≤ b ∧ b < 8) (hc : 0 ≤ c ∧ c < 16) (k : T → Roots → Prop) (kx : Exn → Roots → Prop) (hk : ∀ i, W i → k (.dat (.int i)) []) : cLawWord [.dat (.str op), .dat (.int a), .dat (.int b), .dat (.int c)] [] k kx := by
  unfold cLawWord cwOf
  refine ⟨rfl, ?_⟩
  unfold wdLawWord
  obtain ⟨j, hj, hf⟩ := first_str hop
  have hj : j < 20 := hj
  have e64 : (2:Nat) ^ 64 = 18446744073709551616 := by decide
  refine ⟨by show 20 ≤ 1000; decide, rfl, rfl, j, hf, ⟨by decide, by decide, ?_⟩, ⟨by decide, by decide, ?_⟩, ⟨by decide, by decide, ?_⟩, hk ((j : Int) * 2 ^ 10 + a * 2 ^ 7 + b * 2 ^ 4 + c) ⟨?_, ?_⟩⟩
  · rw [e64]; omega
  · rw [e64]; omega
  · rw [e64]; omega
  · omega
  · omega
end K31
end

section
set_option linter.all false
set_option maxRecDepth 100000
set_option maxHeartbeats 1000000
set_option pp.deepTerms false
namespace K31
open PySem L2 Evl Wv
abbrev lints (l : List Int) : List T := l.map fun i => .dat (.int i)
theorem small0 {d n : Int} (h0 : 0 ≤ d) (h1 : d < n) (hn : n < 1000000 := by decide) : d.natAbs < 2 ^ 64 := by
  have : (2:Nat) ^ 64 = 18446744073709551616 := by decide
  rw [this]
  omega
theorem mul_b {c : Int} (c0 : 0 ≤ c) (c1 : c < 6) (b : Bool) : 0 ≤ c * (if b = true then 1 else 0) ∧ c * (if b = true then 1 else 0) < 16 := by
  cases b <;> simp <;> omega
theorem ws1 {a : Int} (h : W a) : Ws [a] := fun x hx => by rw [List.mem_singleton.mp hx]; exact h
theorem ws2 {a b : Int} (h : W a) (h2 : W b) : Ws [a, b] := fun x hx => by
  simp only [List.mem_cons, List.not_mem_nil, or_false] at hx
  rcases hx with rfl | rfl <;> assumption
theorem ws3 {a b c : Int} (h : W a) (h2 : W b) (h3 : W c) : Ws [a, b, c] := fun x hx => by
  simp only [List.mem_cons, List.not_mem_nil, or_false] at hx
  rcases hx with rfl | rfl | rfl <;> assumption
theorem spec_line (i j : Int) (cs : List Int) (seen : Int) (hs : 0 ≤ seen) (hs2 : seen < 1000) (k : T → Roots → Prop) (kx : Exn → Roots → Prop) (hk : ∀ (l : List Int) i' j', l.length ≤ 3 → Ws l → k (.lst (lints l)) [dst2 i' j']) : cLawLine [.ref 0 [], .dat (.ro (dints cs)), .dat (.int seen)] [dst2 i j] k kx := by
  unfold cLawLine cwOf
  refine ⟨rfl, ?_⟩
  unfold wdLawLine
  refine ⟨rfl, spec_draw _ _ cs 20 (by decide) (by decide) _ _ fun pick i j p0 p1 => ?_⟩
  refine ⟨rfl, spec_draw _ _ cs 6 (by decide) (by decide) _ _ fun a i j a0 a1 => ?_⟩
  refine ⟨rfl, spec_draw _ _ cs 6 (by decide) (by decide) _ _ fun b i j b0 b1 => ?_⟩
  refine ⟨rfl, spec_draw _ _ cs 6 (by decide) (by decide) _ _ fun c i j c0 c1 => ?_⟩
  have sa : 0 ≤ a ∧ a < 8 := ⟨a0, by omega⟩
  have sb : 0 ≤ b ∧ b < 8 := ⟨b0, by omega⟩
  refine ⟨fun h => ?_, fun _ => ?_⟩
  · refine ⟨by show 7 ≤ 1000; decide, ⟨rfl, spec_draw _ _ cs 7 (by decide) (by decide) _ _ fun d i j d0 d1 => ?_⟩⟩
    obtain ⟨x, hx, e⟩ := atI_mem (xs := [D.str "add", .str "sub", .str "mul", .str "xor", .str "and", .str "or", .str "copy"]) d0 d1
    have : ∃ op : Str, x = .str op ∧ op ∈ opsL := by
      simp only [List.mem_cons, List.not_mem_nil, or_false] at hx
      rcases hx with z | z | z | z | z | z | z <;> exact ⟨_, z, by decide +kernel⟩
    obtain ⟨op, rfl, hop⟩ := this
    exact ⟨.str op, e, Or.inl ⟨by omega, by omega⟩, rfl, spec_word op a b _ hop sa sb (mul_b c0 c1 _) _ _ fun w ww => ⟨by show 1 ≤ 1000; decide, hk [w] _ _ (by simp) (ws1 ww)⟩⟩
  refine ⟨fun h => ?_, fun _ => ?_⟩
  · exact ⟨rfl, spec_draw _ _ cs 16 (by decide) (by decide) _ _ fun d i j d0 d1 => ⟨rfl, spec_word "addi" a a d (by decide +kernel) sa sa ⟨d0, by omega⟩ _ _ fun w ww => ⟨by show 1 ≤ 1000; decide, hk [w] _ _ (by simp) (ws1 ww)⟩⟩⟩
  refine ⟨fun h => ?_, fun _ => ?_⟩
  · exact ⟨rfl, spec_word "set" a 0 0 (by decide +kernel) sa (by decide) (by decide) _ _ fun w ww => ⟨rfl, spec_draw _ _ cs 300 (by decide) (by decide) _ _ fun d i j d0 d1 => ⟨by show 2 ≤ 1000; decide, hk [w, d] _ _ (by simp) (ws2 ww ⟨d0, by omega⟩)⟩⟩⟩
  refine ⟨fun h => ?_, fun _ => ?_⟩
  · refine ⟨rfl, spec_draw _ _ cs (seen + 1) (by omega) (by omega) _ _ fun p i j p0 p1 => ⟨Or.inl ⟨by decide, by decide⟩, rfl, spec_draw _ _ cs 16 (by decide) (by decide) _ _ fun q i j q0 q1 => ?_⟩⟩
    refine ⟨by show 2 ≤ 1000; decide, ⟨rfl, spec_draw _ _ cs 2 (by decide) (by decide) _ _ fun d i j d0 d1 => ?_⟩⟩
    obtain ⟨x, hx, e⟩ := atI_mem (xs := [D.str "load", .str "store"]) d0 d1
    have : ∃ op : Str, x = .str op ∧ op ∈ opsL := by
      simp only [List.mem_cons, List.not_mem_nil, or_false] at hx
      rcases hx with z | z <;> exact ⟨_, z, by decide +kernel⟩
    obtain ⟨op, rfl, hop⟩ := this
    have hpl : W (16 * p + q) := ⟨by omega, by omega⟩
    exact ⟨.str op, e, rfl, spec_word "set" 6 0 0 (by decide +kernel) (by decide) (by decide) (by decide) _ _ fun w ww => ⟨rfl, spec_word op a 6 0 hop sa (by decide) (by decide) _ _ fun w2 ww2 => ⟨by show 3 ≤ 1000; decide, hk [w, _, w2] _ _ (by simp) (ws3 ww hpl ww2)⟩⟩⟩
  refine ⟨fun h => ?_, fun _ => ?_⟩
  · refine ⟨rfl, spec_draw _ _ cs 4 (by decide) (by decide) _ _ fun ch i j c0 c1 => ?_⟩
    refine ⟨by show 6 ≤ 1000; decide, ⟨rfl, spec_draw _ _ cs 6 (by decide) (by decide) _ _ fun d i j d0 d1 => ?_⟩⟩
    obtain ⟨x, hx, e⟩ := atI_mem (xs := [D.int 1, .int 1, .int 2, .int 2, .int 3, .int 0]) d0 d1
    have : ∃ v : Int, x = .int v ∧ 0 ≤ v ∧ v < 16 := by
      simp only [List.mem_cons, List.not_mem_nil, or_false] at hx
      rcases hx with z | z | z | z | z | z <;> exact ⟨_, z, by decide, by decide⟩
    obtain ⟨v, rfl, hv⟩ := this
    exact ⟨.int v, e, rfl, spec_word "set" 0 0 0 (by decide +kernel) (by decide) (by decide) (by decide) _ _ fun w ww => ⟨rfl, spec_word "call" 0 0 v (by decide +kernel) (by decide) (by decide) hv _ _ fun w2 ww2 => ⟨by show 3 ≤ 1000; decide, hk [w, ch, w2] _ _ (by simp) (ws3 ww ⟨c0, by omega⟩ ww2)⟩⟩⟩
  refine ⟨fun h => ?_, fun _ => ?_⟩
  · refine ⟨by show 3 ≤ 1000; decide, ⟨rfl, spec_draw _ _ cs 3 (by decide) (by decide) _ _ fun d i j d0 d1 => ?_⟩⟩
    obtain ⟨x, hx, e⟩ := atI_mem (xs := [D.str "beq", .str "bne", .str "blt"]) d0 d1
    have : ∃ op : Str, x = .str op ∧ op ∈ opsL := by
      simp only [List.mem_cons, List.not_mem_nil, or_false] at hx
      rcases hx with z | z | z <;> exact ⟨_, z, by decide +kernel⟩
    obtain ⟨op, rfl, hop⟩ := this
    exact ⟨.str op, e, rfl, spec_draw _ _ cs 16 (by decide) (by decide) _ _ fun d i j d0 d1 => ⟨rfl, spec_word op a b d hop sa sb ⟨d0, by omega⟩ _ _ fun w ww => ⟨by show 1 ≤ 1000; decide, hk [w] _ _ (by simp) (ws1 ww)⟩⟩⟩
  refine ⟨fun _ => ⟨rfl, spec_draw _ _ cs 4 (by decide) (by decide) _ _ fun d i j d0 d1 => ⟨fun _ => ?_, fun _ => ?_⟩⟩, fun _ => ⟨fun z => (nomatch z), fun _ => ?_⟩⟩
  · refine ⟨rfl, spec_word "halt" 0 0 0 (by decide +kernel) (by decide) (by decide) (by decide) _ _ fun w ww => ⟨rfl, spec_word "call" 0 0 9 (by decide +kernel) (by decide) (by decide) (by decide) _ _ fun w2 ww2 => ⟨rfl, spec_draw _ _ cs 65536 (by decide) (by decide) _ _ fun d i j d0 d1 => ?_⟩⟩⟩
    refine ⟨by show 4 ≤ 1000; decide, rfl, spec_draw _ _ cs 4 (by decide) (by decide) _ _ fun q i j q0 q1 => ?_⟩
    obtain ⟨x, hx, e⟩ := atI_mem (xs := [D.int w, .int 65535, .int w2, .int d]) q0 q1
    have : ∃ v : Int, x = .int v ∧ W v := by
      simp only [List.mem_cons, List.not_mem_nil, or_false] at hx
      rcases hx with z | z | z | z
      · exact ⟨_, z, ww⟩
      · exact ⟨_, z, by constructor <;> decide⟩
      · exact ⟨_, z, ww2⟩
      · exact ⟨_, z, d0, by omega⟩
    obtain ⟨v, rfl, hv⟩ := this
    exact ⟨.int v, e, by show 1 ≤ 1000; decide, hk [v] _ _ (by simp) (ws1 hv)⟩
  all_goals
    refine ⟨fun _ => ?_, fun _ => ?_⟩
    · exact ⟨rfl, spec_word "set" 7 0 0 (by decide +kernel) (by decide) (by decide) (by decide) _ _ fun w ww => ⟨rfl, spec_word "jump" 7 0 0 (by decide +kernel) (by decide) (by decide) (by decide) _ _ fun w2 ww2 => ⟨by show 3 ≤ 1000; decide, hk [w, 0, w2] _ _ (by simp) (ws3 ww (by constructor <;> decide) ww2)⟩⟩⟩
    · exact ⟨rfl, spec_word "copy" 1 a 0 (by decide +kernel) (by decide) sa (by decide) _ _ fun w ww => ⟨by show 1 ≤ 1000; decide, hk [w] _ _ (by simp) (ws1 ww)⟩⟩
end K31
end

section
set_option linter.all false
set_option maxRecDepth 100000
set_option maxHeartbeats 1000000
set_option pp.deepTerms false
namespace K31
open PySem L2 Evl Wv
theorem toDs_dat : ∀ (ds : List D), T.toDs (ds.map .dat) = ds
  | [] => rfl
  | d :: ds => by
    show d :: T.toDs (ds.map .dat) = _
    rw [toDs_dat ds]
theorem toD_dats (ds : List D) : (T.lst (ds.map .dat)).toD = .lst ds := by
  show D.lst (T.toDs _) = _
  rw [toDs_dat]
theorem lints_dints (l : List Int) : lints l = (dints l).map .dat := by simp [dints]
theorem toD_lints (l : List Int) : (T.lst (lints l)).toD = .lst (dints l) := by rw [lints_dints, toD_dats]
theorem dints_len (l : List Int) : (dints l).length = l.length := by simp [dints]
theorem spec_image (i j : Int) (cs : List Int) (pages seen : Int) (hp : 0 < pages) (hp2 : pages < 4) (hs : 0 ≤ seen) (hs2 : seen < 1000) (k : T → Roots → Prop) (kx : Exn → Roots → Prop) (hk : ∀ (l : List Int) i' j', (l.length : Int) ≤ 16 * pages → Ws l → k (.lst (lints l)) [dst2 i' j']) :
    cLawImage [.ref 0 [], .dat (.ro (dints cs)), .dat (.int pages), .dat (.int seen)] [dst2 i j] k kx := by
  unfold cLawImage cwOf
  refine ⟨rfl, ?_⟩
  unfold wdLawImage
  refine ⟨by show 0 ≤ 1000; decide, fun sl rt => ∃ (l : List Int) (i j : Int) (x y : Option Val), sl = [some (.ref 0 []), some (.dat (.ro (dints cs))), some (.dat (.int pages)), some (.dat (.int seen)), some (.dat (.lst (dints l))), x, y] ∧ (l.length : Int) ≤ 16 * pages - 3 ∧ rt = [dst2 i j] ∧ Ws l, ?_, ?_⟩
  · refine ⟨rfl, spec_draw _ _ cs 12 (by decide) (by decide) _ _ fun d i j d0 d1 => ⟨by omega, by omega, ?_⟩⟩
    refine ⟨fun _ sl rt => ∃ (l : List Int) (i j : Int) (x y : Option Val), sl = [some (.ref 0 []), some (.dat (.ro (dints cs))), some (.dat (.int pages)), some (.dat (.int seen)), some (.dat (.lst (dints l))), x, y] ∧ (l.length : Int) ≤ 16 * pages - 3 ∧ rt = [dst2 i j] ∧ Ws l, ⟨[], i, j, none, none, rfl, by simp; omega, rfl, fun _ z => (nomatch z)⟩, ?_, fun _ _ h => h⟩
    rintro m dd _ _ _ ⟨l, i, j, x, y, rfl, hl, rfl, lw⟩
    refine ⟨rfl, spec_line _ _ cs seen hs hs2 _ _ fun l2 i j hl2 lw2 => ?_⟩
    simp only [toD_lints]
    refine ⟨Or.inl ⟨by decide, by decide⟩, fun h => ?_, fun _ => .inl ⟨l, i, j, _, _, rfl, hl, rfl, lw⟩⟩
    have h : ((dints l).length : Int) + ((dints l2).length : Int) ≤ 16 * pages - 3 := of_decide_eq_true h
    rw [dints_len, dints_len] at h
    refine ⟨_, _, rfl, rfl, by rw [dints_len, dints_len]; omega, .inl ⟨l ++ l2, i, j, some (.dat dd), some (.dat (.lst (dints l2))), ?_, by simp; omega, rfl, fun x hx => (List.mem_append.mp hx).elim (lw x) (lw2 x)⟩⟩
    rw [toD_dats]
    simp [dints]
  · rintro _ _ ⟨l, i, j, x, y, rfl, hl, rfl, lw⟩
    refine ⟨rfl, spec_word "set" 7 0 0 (by decide +kernel) (by decide) (by decide) (by decide) _ _ fun w ww => ⟨rfl, spec_word "jump" 7 0 0 (by decide +kernel) (by decide) (by decide) (by decide) _ _ fun w2 ww2 => ⟨by show 3 ≤ 1000; decide, ?_⟩⟩⟩
    refine ⟨_, _, rfl, rfl, by rw [dints_len]; show l.length + 3 ≤ 40000; omega, ?_⟩
    have e : T.lst ((dints l ++ [D.int w, .int 0, .int w2]).map .dat) = .lst (lints (l ++ [w, 0, w2])) := by simp [dints]
    exact cast (congrArg (fun t => k t [dst2 i j]) e.symm) (hk (l ++ [w, 0, w2]) i j (by simp; omega) fun x hx => (List.mem_append.mp hx).elim (lw x) (ws3 ww (by constructor <;> decide) ww2 x))
end K31
end

section
set_option linter.all false
set_option maxRecDepth 100000
set_option maxHeartbeats 1000000
set_option pp.deepTerms false
namespace K31
open PySem L2 Evl Wv

/-! the configuration as data -/
abbrev Pair := Int × Int
abbrev Fr := Option Int × Int
abbrev Ch := Int × Int × Int × Bool
def prD (f : Pair) : D := .tup [.int f.1, .int f.2]
def frD (f : Fr) : D := .tup [match f.1 with | some i => .int i | none => .non, .int f.2]
def chD (c : Ch) : D := .tup [.int c.1, .int c.2.1, .int c.2.2.1, .bool c.2.2.2]
/-- a partition: its image, the number of its pages -/
def paD (p : List Int × Int) : D := .obj 0 [.tup (dints p.1), .int p.2, .int 0]
structure Cfg where
  ps : List (List Int × Int)
  fr : List Fr
  ch : List Ch
  sh : List Pair
  dv : List Int
  fl : List Pair
def Cfg.D (c : Cfg) : D := .obj 1 [.tup (c.ps.map paD), .tup (c.fr.map frD), .tup (c.ch.map chD), .tup (c.sh.map prD), .tup (dints c.dv), .tup (c.fl.map prD)]
theorem dats_dat : ∀ (ds : List D), dats (ds.map T.dat) = some ds
  | [] => rfl
  | d :: ds => by
    simp [dats, dats_dat ds]
/-! python's view of pairs -/
def prP (f : Pair) : PyData := .tuple [.int f.1, .int f.2]
theorem pys_pr : ∀ (l : List Pair), D.pys (l.map prD) = some (l.map prP)
  | [] => rfl
  | f :: l => by
    have := pys_pr l
    simp only [List.map_cons, D.pys, this]
    rfl
theorem lay_pr : ∀ (l : List Pair), PyData.canLayAll0 (l.map prP) = true
  | [] => rfl
  | f :: l => by
    simp only [List.map_cons, PyData.canLayAll0, lay_pr l, Bool.and_true]
    rfl
theorem deep_pr : ∀ (l : List Pair), PyData.depthAll (l.map prP) ≤ 3
  | [] => by show 0 ≤ 3; decide
  | f :: l => by
    have := deep_pr l
    simp only [List.map_cons, PyData.depthAll]
    refine Nat.max_le.mpr ⟨?_, this⟩
    simp [prP, PyData.depth, PyData.depthAll]
theorem shaped_pr (l : List Pair) : SeqAt.shaped (.tuple (l.map prP)) = true := by
  unfold SeqAt.shaped
  rw [Bool.and_eq_true]
  refine ⟨lay_pr l, decide_eq_true ?_⟩
  have := deep_pr l
  simp only [PyData.depth]
  omega
theorem any_pr (s t : Int) : ∀ (l : List Pair), ((l.map prP).any fun z => PyData.eqv z (.tuple [.int s, .int t])) = decide ((s, t) ∈ l)
  | [] => by simp
  | f :: l => by
    have := any_pr s t l
    simp only [List.map_cons, List.any_cons, this]
    obtain ⟨a, b⟩ := f
    simp only [prP, PyData.eqv, PyData.eqvAll, Bool.and_true]
    rw [Bool.eq_iff_iff]
    simp only [Bool.or_eq_true, Bool.and_eq_true, beq_iff_eq, decide_eq_true_eq, Prod.mk.injEq, List.mem_cons]
    constructor
    · rintro (⟨h1, h2⟩ | h)
      · exact .inl ⟨h1.symm, h2.symm⟩
      · exact .inr h
    · rintro (⟨h1, h2⟩ | h)
      · exact .inl ⟨h1.symm, h2.symm⟩
      · exact .inr h
theorem ixN_nat {n : Nat} {i : Int} (h0 : 0 ≤ i) (h1 : i < n) : ixN n i = some i.toNat := by
  unfold ixN
  rw [if_pos h0, if_pos h1]
def FlOk (n : Nat) (fl : List Pair) : Prop := ∀ f ∈ fl, (0 ≤ f.1 ∧ f.1 < n ∧ 0 ≤ f.2 ∧ f.2 < n) ∧ f.1 ≠ f.2
def ChOk (fl : List Pair) (c : Ch) : Prop := (c.1, c.2.1) ∈ fl ∧ 1 ≤ c.2.2.1 ∧ c.2.2.1 ≤ 3 ∧ (c.2.2.2 = true → (c.2.1, c.1) ∈ fl)
def FrOk (n : Nat) (f : Fr) : Prop := (∀ i, f.1 = some i → 0 ≤ i ∧ i < n) ∧ 128 ≤ f.2 ∧ f.2 < 288
end K31
end

section
set_option linter.all false
set_option maxRecDepth 100000
set_option maxHeartbeats 1000000
set_option pp.deepTerms false
namespace K31
open PySem L2 Evl Wv
abbrev dT (ds : List D) : T := .lst (ds.map .dat)
theorem shaped_prL (l : List Pair) : SeqAt.shaped (.list (l.map prP)) = true := by
  unfold SeqAt.shaped
  rw [Bool.and_eq_true]
  refine ⟨lay_pr l, decide_eq_true ?_⟩
  have := deep_pr l
  simp only [PyData.depth]
  omega
theorem flows_in {sl : Slots} {ex : Exn → Slots → Roots → Prop} {fl : List Pair} {s t : Int} {A B C : T} {kk : Val → Roots → Prop} (h9 : sl[9]? = some (some (.dat (.int s)))) (h10 : sl[10]? = some (some (.dat (.int t)))) (h3 : sl[3]? = some (some (.ref 1 []))) (h : kk (.dat (.bool (decide ((t, s) ∈ fl)))) [A, dT (fl.map prD), B, C]) :
    wBin sInL (wTup (wCons (wVar 10) (wCons (wVar 9) wNil))) (wVar 3) ⟨sl, ex⟩ [A, dT (fl.map prD), B, C] kk := by
  unfold wBin wTup wCons wNil wVar
  simp only [h9, h10, h3]
  refine ⟨by show 2 ≤ 1000; decide, ?_⟩
  show sInL (.dat (.tup [.int t, .int s])) (.ref 1 []) [A, dT (fl.map prD), B, C] _
  unfold sInL
  have e : listOf (.ref 1 []) [A, dT (fl.map prD), B, C] = some (fl.map prD) := dats_dat _
  rw [e]
  exact ⟨.tuple [.int t, .int s], fl.map prP, rfl, pys_pr fl, rfl, by show 1 ≤ 32; decide, shaped_prL fl, by rw [any_pr]; exact h⟩
theorem flows_and {sl : Slots} {ex : Exn → Slots → Roots → Prop} {fl : List Pair} {s t : Int} {A B C : T} {kk : Val → Roots → Prop} {w2 : WE} (h9 : sl[9]? = some (some (.dat (.int s)))) (h10 : sl[10]? = some (some (.dat (.int t)))) (h3 : sl[3]? = some (some (.ref 1 [])))
    (ht : (t, s) ∈ fl → w2 ⟨sl, ex⟩ [A, dT (fl.map prD), B, C] kk) (hf : kk (.dat (.bool false)) [A, dT (fl.map prD), B, C]) :
    wAndE (wBin sInL (wTup (wCons (wVar 10) (wCons (wVar 9) wNil))) (wVar 3)) w2 ⟨sl, ex⟩ [A, dT (fl.map prD), B, C] kk := by
  unfold wAndE
  exact flows_in (s := s) (t := t) h9 h10 h3 ⟨fun z => ht (of_decide_eq_true z), fun _ => hf⟩
theorem wcons_intro {w : WE} {r : WA} {sl : Cxt} {rt : Roots} {k : List Val → Roots → Prop} (h : w sl rt fun x rt1 => r sl rt1 fun xs rt2 => k (x :: xs) rt2) : wCons w r sl rt k := h
theorem pick_at {fl : List Pair} {d : Int} (h0 : 0 ≤ d) (h1 : d < ((fl.map prD).map T.dat).length) : ∃ f ∈ fl, ixN ((fl.map prD).map T.dat).length d = some d.toNat ∧ ((fl.map prD).map T.dat)[d.toNat]? = some (.dat (prD f)) := by
  simp only [List.length_map] at h1
  have hl : d.toNat < fl.length := by omega
  refine ⟨fl[d.toNat], List.getElem_mem hl, ?_, by simp [hl]⟩
  rw [List.length_map, List.length_map, ixN_nat h0 h1]
theorem spec_parts (i j : Int) (cs : List Int) (k : T → Roots → Prop) (kx : Exn → Roots → Prop)
    (hk : ∀ (n : Nat) (fl : List Pair) (ch : List Ch) (sh : List Pair) (dv : List Int) (fr : List Fr) i' j', 2 ≤ n → n ≤ 4 → FlOk n fl → fl.length ≤ 16 → (∀ d ∈ ch, ChOk fl d) → ch.length ≤ 3 → (∀ s ∈ sh, s ∈ fl) → sh.length ≤ 2 → (∀ x ∈ dv, 0 ≤ x ∧ x < n) → dv.length ≤ 2 → 1 ≤ fr.length → fr.length ≤ 4 → (∀ f ∈ fr, FrOk n f) →
      k (dT [.int (n : Nat), .lst (fl.map prD), .lst (ch.map chD), .lst (sh.map prD), .lst (dints dv), .lst (fr.map frD)]) [dst2 i' j']) : cLawParts [.ref 0 [], .dat (.ro (dints cs))] [dst2 i j] k kx := by
  unfold cLawParts cwOf
  refine ⟨rfl, ?_⟩
  unfold wdLawParts
  refine ⟨rfl, spec_draw _ _ cs 3 (by decide) (by decide) _ _ fun d i j d0 d1 => ?_⟩
  obtain ⟨n, hn⟩ : ∃ n : Nat, (n : Int) = 2 + d := ⟨(2 + d).toNat, by omega⟩
  have hn2 : 2 ≤ n := by omega
  have hn4 : n ≤ 4 := by omega
  refine ⟨by show 0 ≤ 1000; decide, fun sl rt => ∃ (fl : List Pair) (i j : Int) (x4 x5 : Option Val), sl = [some (.ref 0 []), some (.dat (.ro (dints cs))), some (.dat (.int (2 + d))), some (.ref 1 []), x4, x5, none, none, none, none, none, none, none] ∧ rt = [dst2 i j, dT (fl.map prD)] ∧ FlOk n fl ∧ fl.length ≤ 16, ?_, ?_⟩
  · refine ⟨by omega, by omega, fun m sl rt => ∃ (fl : List Pair) (i j : Int) (x4 x5 : Option Val), sl = [some (.ref 0 []), some (.dat (.ro (dints cs))), some (.dat (.int (2 + d))), some (.ref 1 []), x4, x5, none, none, none, none, none, none, none] ∧ rt = [dst2 i j, dT (fl.map prD)] ∧ FlOk n fl ∧ fl.length ≤ n * m, ⟨[], i, j, none, none, rfl, rfl, fun _ z => (nomatch z), by simp⟩, ?_, ?_⟩
    · rintro m d _ _ hd ⟨fl, i, j, x4, x5, rfl, rfl, hF, hl⟩
      rw [List.getElem?_map] at hd
      obtain ⟨_, hm, rfl⟩ := Option.map_eq_some_iff.mp hd
      obtain ⟨hi, rfl⟩ := List.getElem?_eq_some_iff.mp hm
      have hm' : m < n := by simp at hi; omega
      rw [List.getElem_range]
      refine ⟨by omega, by omega, fun q sl rt => ∃ (fl : List Pair) (i j : Int) (x5 : Option Val), sl = [some (.ref 0 []), some (.dat (.ro (dints cs))), some (.dat (.int (2 + d))), some (.ref 1 []), some (.dat (.int (m : Nat))), x5, none, none, none, none, none, none, none] ∧ rt = [dst2 i j, dT (fl.map prD)] ∧ FlOk n fl ∧ fl.length ≤ n * m + q, ⟨fl, i, j, x5, rfl, rfl, hF, by omega⟩, ?_, ?_⟩
      · rintro q d _ _ hd ⟨fl, i, j, x5, rfl, rfl, hF, hl⟩
        rw [List.getElem?_map] at hd
        obtain ⟨_, hm2, rfl⟩ := Option.map_eq_some_iff.mp hd
        obtain ⟨hi2, rfl⟩ := List.getElem?_eq_some_iff.mp hm2
        have hq' : q < n := by simp at hi2; omega
        rw [List.getElem_range]
        refine ⟨fun hne => ⟨rfl, spec_draw _ _ cs 3 (by decide) (by decide) _ _ fun e i j e0 e1 => ⟨fun h => ?_, fun h => ?_⟩⟩, fun h => ⟨fun z => (nomatch z), fun _ => ?_⟩⟩
        have hpq : (m : Int) ≠ (q : Int) := by
          have hne : (!decide ((m : Int) = (q : Int))) = true := hne
          simpa using hne
        · have hnm : n * m ≤ 12 := Nat.le_trans (Nat.mul_le_mul hn4 (show m ≤ 3 by omega)) (by decide)
          refine ⟨by show 2 ≤ 1000; decide, by simp; omega, .inl ⟨fl ++ [((m : Int), (q : Int))], i, j, _, rfl, ?_, ?_, by simp; omega⟩⟩
          · show [dst2 i j, .lst ((fl.map prD).map T.dat ++ [.dat (.tup [.int (m : Int), .int (q : Int)])])] = _
            simp [prD]
          · intro f hf
            rcases List.mem_append.mp hf with z | z
            · exact hF f z
            · rw [List.mem_singleton.mp z]
              exact ⟨⟨by show (0 : Int) ≤ (m : Int); omega, by show (m : Int) < n; omega, by show (0 : Int) ≤ (q : Int); omega, by show (q : Int) < n; omega⟩, hpq⟩
        · exact .inl ⟨fl, i, j, _, rfl, rfl, hF, by omega⟩
        · exact .inl ⟨fl, i, j, _, rfl, rfl, hF, by omega⟩
      · rintro _ _ ⟨fl, i, j, x5, rfl, rfl, hF, hl⟩
        refine .inl ⟨fl, i, j, _, x5, rfl, rfl, hF, ?_⟩
        have e : (2 + d).toNat = n := by omega
        simp only [List.length_map, List.length_range, e] at hl
        rw [Nat.mul_succ]
        exact hl
    · rintro _ _ ⟨fl, i, j, x4, x5, rfl, rfl, hF, hl⟩
      refine ⟨fl, i, j, x4, x5, rfl, rfl, hF, Nat.le_trans hl ?_⟩
      have e : (2 + d).toNat = n := by omega
      simp only [List.length_map, List.length_range, e]
      exact Nat.mul_le_mul hn4 hn4
  · rintro _ _ ⟨fl, i, j, x4, x5, rfl, rfl, hF, hl⟩
    have hfl : ((fl.map prD).map T.dat).length = fl.length := by simp
    refine ⟨by show 0 ≤ 1000; decide, by show 0 ≤ 1000; decide, fun sl rt => ∃ (ch : List Ch) (i j : Int) (x8 x9 x10 : Option Val), sl = [some (.ref 0 []), some (.dat (.ro (dints cs))), some (.dat (.int (2 + d))), some (.ref 1 []), x4, x5, some (.ref 2 []), some (.ref 3 []), x8, x9, x10, none, none] ∧ rt = [dst2 i j, dT (fl.map prD), dT (ch.map chD), dT []] ∧ (∀ d ∈ ch, ChOk fl d) ∧ ch.length ≤ 3, ?_, ?_⟩
    · refine ⟨rfl, spec_draw _ _ cs 4 (by decide) (by decide) _ _ fun u i j u0 u1 => ⟨by omega, by omega, ?_⟩⟩
      refine ⟨fun m sl rt => ∃ (ch : List Ch) (i j : Int) (x8 x9 x10 : Option Val), sl = [some (.ref 0 []), some (.dat (.ro (dints cs))), some (.dat (.int (2 + d))), some (.ref 1 []), x4, x5, some (.ref 2 []), some (.ref 3 []), x8, x9, x10, none, none] ∧ rt = [dst2 i j, dT (fl.map prD), dT (ch.map chD), dT []] ∧ (∀ d ∈ ch, ChOk fl d) ∧ ch.length ≤ m,
        ⟨[], i, j, none, none, none, rfl, rfl, fun _ z => (nomatch z), by simp⟩, ?_, ?_⟩
      · rintro m dd _ _ hd ⟨ch, i, j, x8, x9, x10, rfl, rfl, hC, hcl⟩
        have hm4 : m < 4 := by
          have := (List.getElem?_eq_some_iff.mp hd).1
          simp at this
          omega
        refine ⟨fun h => ?_, fun h => .inl ⟨ch, i, j, _, x9, x10, rfl, rfl, hC, by omega⟩⟩
        have h : (0 : Int) < (((fl.map prD).map T.dat).length : Int) := of_decide_eq_true h
        refine ⟨rfl, spec_draw _ _ cs _ h (by rw [hfl]; omega) _ _ fun q i j q0 q1 => ?_⟩
        obtain ⟨f, hf, e1, e2⟩ := pick_at q0 q1
        refine ⟨_, _, e1, e2, rfl, ?_⟩
        refine ⟨rfl, spec_draw _ _ cs 3 (by decide) (by decide) _ _ fun r i j r0 r1 => ?_⟩
        have fin : ∀ (b : Bool) (hb : b = true → (f.2, f.1) ∈ fl) (i j : Int), 4 ≤ 1000 ∧ ch.length < 40000 ∧ Fg 4 (fun sl rt => ∃ (ch : List Ch) (i j : Int) (x8 x9 x10 : Option Val), sl = [some (.ref 0 []), some (.dat (.ro (dints cs))), some (.dat (.int (2 + d))), some (.ref 1 []), x4, x5, some (.ref 2 []), some (.ref 3 []), x8, x9, x10, none, none] ∧ rt = [dst2 i j, dT (fl.map prD), dT (ch.map chD), dT []] ∧ (∀ d ∈ ch, ChOk fl d) ∧ ch.length ≤ m + 1)
            [some (.ref 0 []), some (.dat (.ro (dints cs))), some (.dat (.int (2 + d))), some (.ref 1 []), x4, x5, some (.ref 2 []), some (.ref 3 []), some (.dat dd), some (.dat (.int f.1)), some (.dat (.int f.2)), none, none] [dst2 i j, dT (fl.map prD), .lst ((ch.map chD).map .dat ++ [.dat (.tup [.int f.1, .int f.2, .int (1 + r), .bool b])]), dT []] := fun b hb i j => by
          refine ⟨by decide, by omega, .inl ⟨ch ++ [(f.1, f.2, 1 + r, b)], i, j, _, _, _, rfl, by simp [chD], fun d hd => ?_, by simp; omega⟩⟩
          rcases List.mem_append.mp hd with z | z
          · exact hC d z
          · rw [List.mem_singleton.mp z]
            exact ⟨hf, by show 1 ≤ 1 + r; omega, by show 1 + r ≤ 3; omega, hb⟩
        have hlen : ((ch.map chD).map T.dat).length = ch.length := by simp
        simp only [sAdd, T.toD]
        refine wcons_intro ?_
        refine flows_and (s := f.1) (t := f.2) (fl := fl) rfl rfl rfl ?_ ?_
        · intro hts
          refine ⟨rfl, spec_draw _ _ cs 2 (by decide) (by decide) _ _ fun g i j g0 g1 => ?_⟩
          obtain ⟨k1, k2, k3⟩ := fin (decide (g = 1)) (fun _ => hts) i j
          exact ⟨k1, by rw [hlen]; exact k2, k3⟩
        · obtain ⟨k1, k2, k3⟩ := fin false (fun z => nomatch z) i j
          exact ⟨k1, by rw [hlen]; exact k2, k3⟩
      · rintro _ _ ⟨ch, i, j, x8, x9, x10, rfl, rfl, hC, hcl⟩
        refine ⟨ch, i, j, x8, x9, x10, rfl, rfl, hC, Nat.le_trans hcl ?_⟩
        simp
        omega
    · rintro _ _ ⟨ch, i, j, x8, x9, x10, rfl, rfl, hC, hcl⟩
      refine ⟨fun sl rt => ∃ (sh : List Pair) (i j : Int) (x8 : Option Val), sl = [some (.ref 0 []), some (.dat (.ro (dints cs))), some (.dat (.int (2 + d))), some (.ref 1 []), x4, x5, some (.ref 2 []), some (.ref 3 []), x8, x9, x10, none, none] ∧ rt = [dst2 i j, dT (fl.map prD), dT (ch.map chD), dT (sh.map prD)] ∧ (∀ s ∈ sh, s ∈ fl) ∧ sh.length ≤ 2, ?_, ?_⟩
      · refine ⟨rfl, spec_draw _ _ cs 3 (by decide) (by decide) _ _ fun u i j u0 u1 => ⟨by omega, by omega, ?_⟩⟩
        refine ⟨fun m sl rt => ∃ (sh : List Pair) (i j : Int) (x8 : Option Val), sl = [some (.ref 0 []), some (.dat (.ro (dints cs))), some (.dat (.int (2 + d))), some (.ref 1 []), x4, x5, some (.ref 2 []), some (.ref 3 []), x8, x9, x10, none, none] ∧ rt = [dst2 i j, dT (fl.map prD), dT (ch.map chD), dT (sh.map prD)] ∧ (∀ s ∈ sh, s ∈ fl) ∧ sh.length ≤ m,
          ⟨[], i, j, x8, rfl, rfl, fun _ z => (nomatch z), by simp⟩, ?_, ?_⟩
        · rintro m dd _ _ hd ⟨sh, i, j, x8, rfl, rfl, hS, hsl⟩
          have hm4 : m < 4 := by
            have := (List.getElem?_eq_some_iff.mp hd).1
            simp at this
            omega
          refine ⟨fun h => ?_, fun h => .inl ⟨sh, i, j, _, rfl, rfl, hS, by omega⟩⟩
          have h : (0 : Int) < (((fl.map prD).map T.dat).length : Int) := of_decide_eq_true h
          refine ⟨rfl, spec_draw _ _ cs _ h (by rw [hfl]; omega) _ _ fun q i j q0 q1 => ?_⟩
          obtain ⟨f, hf, e1, e2⟩ := pick_at q0 q1
          refine ⟨_, _, e1, e2, by simp; omega, .inl ⟨sh ++ [f], i, j, _, rfl, ?_, ?_, by simp; omega⟩⟩
          · show [dst2 i j, dT (fl.map prD), dT (ch.map chD), .lst ((sh.map prD).map T.dat ++ [.dat (prD f)])] = _
            simp
          · intro s hs
            rcases List.mem_append.mp hs with z | z
            · exact hS s z
            · rw [List.mem_singleton.mp z]; exact hf
        · rintro _ _ ⟨sh, i, j, x8, rfl, rfl, hS, hsl⟩
          refine ⟨sh, i, j, x8, rfl, rfl, hS, Nat.le_trans hsl ?_⟩
          simp
          omega
      · rintro _ _ ⟨sh, i, j, x8, rfl, rfl, hS, hsl⟩
        have hne : ∀ y : Int, ((2 + d : Int) = n) := fun _ => hn.symm
        refine ⟨rfl, spec_draw _ _ cs 3 (by decide) (by decide) _ _ fun u i j u0 u1 => ⟨by omega, by omega, fun m acc rt => ∃ (dv : List Int) (i j : Int), acc = lints dv ∧ rt = [dst2 i j, dT (fl.map prD), dT (ch.map chD), dT (sh.map prD)] ∧ (∀ x ∈ dv, 0 ≤ x ∧ x < n) ∧ dv.length = m, ⟨[], i, j, rfl, rfl, fun _ z => (nomatch z), rfl⟩, ?_, ?_⟩⟩
        · rintro m dd _ _ hd ⟨dv, i, j, rfl, rfl, hD, hdl⟩
          have hm4 : m < 4 := by
            have := (List.getElem?_eq_some_iff.mp hd).1
            simp at this
            omega
          refine ⟨by simp; omega, fun _ => ⟨rfl, spec_draw _ _ cs (2 + d) (by omega) (by omega) _ _ fun x i j y0 y1 => ⟨dv ++ [x], i, j, by simp, rfl, fun z hz => ?_, by simp [hdl]⟩⟩, fun h => (nomatch h)⟩
          rcases List.mem_append.mp hz with y | y
          · exact hD z y
          · rw [List.mem_singleton.mp y]; omega
        · rintro _ _ ⟨dv, i, j, rfl, rfl, hD, hdl⟩
          have hdv4 : dv.length ≤ 2 := by
            rw [hdl]
            simp
            omega
          rw [toD_lints]
          refine ⟨by show 0 ≤ 1000; decide, fun sl rt => ∃ (fr : List Fr) (i j : Int) (x8 : Option Val), sl = [some (.ref 0 []), some (.dat (.ro (dints cs))), some (.dat (.int (2 + d))), some (.ref 1 []), x4, x5, some (.ref 2 []), some (.ref 3 []), x8, x9, x10, some (.dat (.lst (dints dv))), some (.ref 4 [])] ∧ rt = [dst2 i j, dT (fl.map prD), dT (ch.map chD), dT (sh.map prD), dT (fr.map frD)] ∧ 1 ≤ fr.length ∧ fr.length ≤ 4 ∧ ∀ f ∈ fr, FrOk n f, ?_, ?_⟩
          · refine ⟨rfl, spec_draw _ _ cs 4 (by decide) (by decide) _ _ fun u i j u0 u1 => ⟨by omega, by omega, ?_⟩⟩
            refine ⟨fun m sl rt => ∃ (fr : List Fr) (i j : Int) (x8 : Option Val), sl = [some (.ref 0 []), some (.dat (.ro (dints cs))), some (.dat (.int (2 + d))), some (.ref 1 []), x4, x5, some (.ref 2 []), some (.ref 3 []), x8, x9, x10, some (.dat (.lst (dints dv))), some (.ref 4 [])] ∧ rt = [dst2 i j, dT (fl.map prD), dT (ch.map chD), dT (sh.map prD), dT (fr.map frD)] ∧ fr.length = m ∧ ∀ f ∈ fr, FrOk n f,
              ⟨[], i, j, x8, rfl, rfl, rfl, fun _ z => (nomatch z)⟩, ?_, ?_⟩
            · rintro m dd _ _ hd ⟨fr, i, j, x8, rfl, rfl, hfr, hfo⟩
              have hm4 : m < 4 := by
                have := (List.getElem?_eq_some_iff.mp hd).1
                simp at this
                omega
              refine ⟨rfl, spec_draw _ _ cs (2 + d) (by omega) (by omega) _ _ fun y i j y0 y1 => ⟨by show 2 ≤ 1000; decide, rfl, spec_draw _ _ cs 6 (by decide) (by decide) _ _ fun z i j z0 z1 => ?_⟩⟩
              have e : atI [D.non, .int y] (if decide (0 < z) = true then 1 else 0) = some (match (if decide (0 < z) = true then some y else none) with | some i => D.int i | none => .non) := by
                cases decide (0 < z) <;> rfl
              refine ⟨_, e, rfl, spec_draw _ _ cs 160 (by decide) (by decide) _ _ fun w i j w0 w1 => ⟨by show 2 ≤ 1000; decide, by simp; omega, .inl ⟨fr ++ [(if decide (0 < z) = true then some y else none, 128 + w)], i, j, _, rfl, ?_, by simp [hfr], fun q hq => ?_⟩⟩⟩
              rotate_left
              · rcases List.mem_append.mp hq with z' | z'
                · exact hfo q z'
                · rw [List.mem_singleton.mp z']
                  refine ⟨fun i' hi' => ?_, by show 128 ≤ 128 + w; omega, by show 128 + w < 288; omega⟩
                  have hi' : (if decide (0 < z) = true then some y else none) = some i' := hi'
                  split at hi'
                  · cases hi'; omega
                  · cases hi'
              show [dst2 i j, dT (fl.map prD), dT (ch.map chD), dT (sh.map prD), .lst ((fr.map frD).map T.dat ++ [.dat (frD (if decide (0 < z) = true then some y else none, 128 + w))])] = _
              simp
            · rintro _ _ ⟨fr, i, j, x8, rfl, rfl, hfr, hfo⟩
              simp only [List.length_map, List.length_range] at hfr
              exact ⟨fr, i, j, x8, rfl, rfl, by omega, by omega, hfo⟩
          · rintro _ _ ⟨fr, i, j, x8, rfl, rfl, hf1, hf4, hfo⟩
            refine ⟨by show 6 ≤ 1000; decide, ?_⟩
            show k (.lst [.dat (.int (2 + d)), .dat (dT (fl.map prD)).toD, .dat (dT (ch.map chD)).toD, .dat (dT (sh.map prD)).toD, .dat (.lst (dints dv)), .dat (dT (fr.map frD)).toD]) [dst2 i j]
            rw [toD_dats, toD_dats, toD_dats, toD_dats, ← hn]
            exact hk n fl ch sh dv fr i j hn2 hn4 hF hl hC hcl hS hsl hD hdv4 hf1 hf4 hfo
end K31
end

section
set_option linter.all false
set_option maxRecDepth 100000
set_option maxHeartbeats 1000000
set_option pp.deepTerms false
namespace K31
open PySem L2 Evl Wv

theorem spec_pinit (im : D) (ds : List D) (hd : ∀ rt, seqOf (.dat im) rt = some ds) (pg st : D) (k : T → Roots → Prop) (kx : Exn → Roots → Prop) (hk : k (.dat .non) [.obj 0 [.dat (.tup ds), .dat pg, .dat st]]) :
    cPartitionInit [.ref 0 [], .dat im, .dat pg, .dat st] [.obj 0 []] k kx := by
  unfold cPartitionInit cwOf
  refine ⟨rfl, ?_⟩
  unfold wdPartitionInit
  exact ⟨ds, hd _, by show 0 < 900; decide, .inl ⟨rfl, by show 1 < 900; decide, .inl ⟨rfl, by show 2 < 900; decide, .inl ⟨rfl, hk⟩⟩⟩⟩
theorem spec_cinit {x1 x2 x3 x4 x5 x6 : D} {d1 d2 d3 d4 d5 d6 : List D} (a1 : ∀ rt, seqOf (.dat x1) rt = some d1) (a2 : ∀ rt, seqOf (.dat x2) rt = some d2) (a3 : ∀ rt, seqOf (.dat x3) rt = some d3) (a4 : ∀ rt, seqOf (.dat x4) rt = some d4) (a5 : ∀ rt, seqOf (.dat x5) rt = some d5) (a6 : ∀ rt, seqOf (.dat x6) rt = some d6) (k : T → Roots → Prop) (kx : Exn → Roots → Prop)
    (hk : k (.dat .non) [.obj 1 [.dat (.tup d1), .dat (.tup d2), .dat (.tup d3), .dat (.tup d4), .dat (.tup d5), .dat (.tup d6)]]) : cConfigInit [.ref 0 [], .dat x1, .dat x2, .dat x3, .dat x4, .dat x5, .dat x6] [.obj 1 []] k kx := by
  unfold cConfigInit cwOf
  refine ⟨rfl, ?_⟩
  unfold wdConfigInit
  exact ⟨d1, a1 _, by show 0 < 900; decide, .inl ⟨rfl, d2, a2 _, by show 1 < 900; decide, .inl ⟨rfl, d3, a3 _, by show 2 < 900; decide, .inl ⟨rfl, d4, a4 _, by show 3 < 900; decide, .inl ⟨rfl, d5, a5 _, by show 4 < 900; decide, .inl ⟨rfl, d6, a6 _, by show 5 < 900; decide, .inl ⟨rfl, hk⟩⟩⟩⟩⟩⟩⟩
theorem spec_partition (i j : Int) (cs : List Int) (n fl ch : D) (sh : List Pair) (dv : List Int) (fr : D) (p : Nat) (hs : sh.length ≤ 2) (hd : dv.length ≤ 2) (k : T → Roots → Prop) (kx : Exn → Roots → Prop)
    (hk : ∀ (im : List Int) (pg : Int) i' j', 1 ≤ pg → pg ≤ 3 → (im.length : Int) ≤ 16 * pg → Ws im → k (.obj 0 [.dat (.tup (dints im)), .dat (.int pg), .dat (.int 0)]) [dst2 i' j']) :
    cLawPartition [.ref 0 [], .dat (.ro (dints cs)), .dat (.lst [n, fl, ch, .lst (sh.map prD), .lst (dints dv), fr]), .dat (.int (p : Nat))] [dst2 i j] k kx := by
  unfold cLawPartition cwOf
  refine ⟨rfl, ?_⟩
  unfold wdLawPartition
  refine ⟨rfl, spec_draw _ _ cs 3 (by decide) (by decide) _ _ fun d i j d0 d1 => ?_⟩
  refine ⟨_, rfl, fun i' acc rt => ∃ ds : List D, acc = ds.map .dat ∧ ds.length ≤ i' ∧ rt = [dst2 i j], ⟨[], rfl, by simp, rfl⟩, ?_, ?_⟩
  · rintro m dd _ _ hdd ⟨ds, rfl, hl, rfl⟩
    have hm : m < 4 := by
      have := (List.getElem?_eq_some_iff.mp hdd).1
      simp at this
      omega
    rw [List.getElem?_map] at hdd
    obtain ⟨s, hs', rfl⟩ := Option.map_eq_some_iff.mp hdd
    refine ⟨by simp; omega, rfl, rfl, fun _ => ⟨ds ++ [prD s], by simp, by simp; omega, rfl⟩, fun _ => ⟨ds, rfl, by omega, rfl⟩⟩
  · rintro _ _ ⟨ds, rfl, hl, rfl⟩
    simp only [toD_dats]
    have hl : ds.length ≤ 4 := by
      simp at hl
      omega
    refine ⟨_, rfl, fun i' acc rt => ∃ ds : List D, acc = ds.map .dat ∧ ds.length ≤ i' ∧ rt = [dst2 i j], ⟨[], rfl, by simp, rfl⟩, ?_, ?_⟩
    · rintro m dd _ _ hdd ⟨ds, rfl, hl, rfl⟩
      have hm : m < 4 := by
        have := (List.getElem?_eq_some_iff.mp hdd).1
        simp [dints] at this
        omega
      unfold dints at hdd
      rw [List.getElem?_map] at hdd
      obtain ⟨s, hs', rfl⟩ := Option.map_eq_some_iff.mp hdd
      refine ⟨by simp; omega, fun _ => ⟨ds ++ [.int s], by simp, by simp; omega, rfl⟩, fun _ => ⟨ds, rfl, by omega, rfl⟩⟩
    · rintro _ _ ⟨ds2, rfl, hl2, rfl⟩
      simp only [toD_dats]
      have hl2 : ds2.length ≤ 4 := by
        simp [dints] at hl2
        omega
      refine ⟨rfl, spec_image _ _ cs (1 + d) (1 + d + (ds.length : Int) + (ds2.length : Int)) (by omega) (by omega) (by omega) (by omega) _ _ fun im i j him hiw => ?_⟩
      simp only [toD_lints]
      refine ⟨rfl, spec_pinit (.lst (dints im)) (dints im) (fun _ => rfl) (.int (1 + d)) (.int 0) _ _ ?_⟩
      exact ⟨rfl, hk im (1 + d) i j (by omega) (by omega) him hiw⟩
def paT (p : List Int × Int) : T := .obj 0 [.dat (.tup (dints p.1)), .dat (.int p.2), .dat (.int 0)]
theorem toDs_pa : ∀ (ps : List (List Int × Int)), T.toDs (ps.map paT) = ps.map paD
  | [] => rfl
  | p :: ps => by
    show paD p :: T.toDs (ps.map paT) = _
    rw [toDs_pa ps]
    rfl
theorem toD_pa (ps : List (List Int × Int)) : (T.lst (ps.map paT)).toD = .lst (ps.map paD) := by
  show D.lst (T.toDs _) = _
  rw [toDs_pa]
/-- what the generator promises -/
structure Cfg.Ok (c : Cfg) : Prop where
  n2 : 2 ≤ c.ps.length
  n4 : c.ps.length ≤ 4
  pg : ∀ p ∈ c.ps, 1 ≤ p.2 ∧ p.2 ≤ 3 ∧ (p.1.length : Int) ≤ 16 * p.2 ∧ Ws p.1
  fl : FlOk c.ps.length c.fl
  fl16 : c.fl.length ≤ 16
  ch : ∀ d ∈ c.ch, ChOk c.fl d
  ch3 : c.ch.length ≤ 3
  sh : ∀ s ∈ c.sh, s ∈ c.fl
  sh2 : c.sh.length ≤ 2
  dv : ∀ x ∈ c.dv, 0 ≤ x ∧ x < c.ps.length
  dv2 : c.dv.length ≤ 2
  fr1 : 1 ≤ c.fr.length
  fr4 : c.fr.length ≤ 4
  fro : ∀ f ∈ c.fr, FrOk c.ps.length f
def Cfg.T (c : Cfg) : Wv.T := .obj 1 [.dat (.tup (c.ps.map paD)), .dat (.tup (c.fr.map frD)), .dat (.tup (c.ch.map chD)), .dat (.tup (c.sh.map prD)), .dat (.tup (dints c.dv)), .dat (.tup (c.fl.map prD))]
theorem Cfg.toD (c : Cfg) : c.T.toD = c.D := rfl
theorem spec_config (i j : Int) (cs : List Int) (k : T → Roots → Prop) (kx : Exn → Roots → Prop) (hk : ∀ (c : Cfg) i' j', c.Ok → k c.T [dst2 i' j']) : cLawConfig [.ref 0 [], .dat (.ro (dints cs))] [dst2 i j] k kx := by
  unfold cLawConfig cwOf
  refine ⟨rfl, ?_⟩
  unfold wdLawConfig
  refine ⟨rfl, spec_parts _ _ cs _ _ fun n fl ch sh dv fr i j hn2 hn4 hF hfl hC hc4 hS hs4 hD hd4 hf1 hf4 hfo => ?_⟩
  simp only [toD_dats]
  refine ⟨.int (n : Nat), rfl, by omega, by omega, fun m acc rt => ∃ (ps : List (List Int × Int)) (i j : Int), acc = ps.map paT ∧ rt = [dst2 i j] ∧ ps.length = m ∧ ∀ p ∈ ps, 1 ≤ p.2 ∧ p.2 ≤ 3 ∧ (p.1.length : Int) ≤ 16 * p.2 ∧ Ws p.1, ⟨[], i, j, rfl, rfl, rfl, fun _ z => (nomatch z)⟩, ?_, ?_⟩
  · rintro m dd _ _ hdd ⟨ps, i, j, rfl, rfl, hl, hP⟩
    rw [List.getElem?_map] at hdd
    obtain ⟨q, hq, rfl⟩ := Option.map_eq_some_iff.mp hdd
    have hm : m < 5 := by
      have := (List.getElem?_eq_some_iff.mp hq).1
      simp at this
      omega
    refine ⟨by simp; omega, fun _ => ⟨rfl, spec_partition _ _ cs (.int (n : Nat)) (.lst (fl.map prD)) (.lst (ch.map chD)) sh dv (.lst (fr.map frD)) q hs4 hd4 _ _ fun im pg i j g1 g3 gl gw => ⟨ps ++ [(im, pg)], i, j, by simp [paT], rfl, by simp [hl], fun p hp => ?_⟩⟩, fun h => (nomatch h)⟩
    rcases List.mem_append.mp hp with z | z
    · exact hP p z
    · rw [List.mem_singleton.mp z]; exact ⟨g1, g3, gl, gw⟩
  · rintro _ _ ⟨ps, i, j, rfl, rfl, hl, hP⟩
    simp only [List.length_map, List.length_range, Int.toNat_natCast] at hl
    simp only [toD_pa]
    refine ⟨_, rfl, _, rfl, _, rfl, _, rfl, _, rfl, rfl, spec_cinit (fun _ => rfl) (fun _ => rfl) (fun _ => rfl) (fun _ => rfl) (fun _ => rfl) (fun _ => rfl) _ _ ?_⟩
    exact ⟨rfl, hk ⟨ps, fr, ch, sh, dv, fl⟩ i j ⟨by rw [hl]; exact hn2, by rw [hl]; exact hn4, hP, by rw [hl]; exact hF, hfl, hC, hc4, hS, hs4, by rw [hl]; exact hD, hd4, hf1, hf4, by rw [hl]; exact hfo⟩⟩
end K31
end

section
set_option linter.all false
set_option maxRecDepth 100000
set_option maxHeartbeats 1000000
set_option pp.deepTerms false
namespace K31
open PySem L2 Evl Wv

/-! ### configurations of any values -/
structure Gp where
  im : List D
  pg : D
  st : D
def gpD (p : Gp) : D := .obj 0 [.tup p.im, p.pg, p.st]
structure GC where
  ps : List Gp
  fr : List D
  ch : List D
  sh : List D
  dv : List D
  fl : List D
def GC.D (c : GC) : D := .obj 1 [.tup (c.ps.map gpD), .tup c.fr, .tup c.ch, .tup c.sh, .tup c.dv, .tup c.fl]
/-- an item, a tuple of items -/
def ShV (d : D) : Prop := D.flat d = true ∨ ∃ ds, d = .tup ds ∧ ds.all D.flat = true
def isI (d : D) (lo hi : Int) : Bool := match d with
  | .int i => decide (lo ≤ i) && decide (i ≤ hi)
  | _ => false
def neI (s t : D) : Bool := match s, t with
  | .int i, .int j => !decide (i = j)
  | _, _ => false
def diff (n : Int) (s t : D) : Bool := isI s 0 (n - 1) && (isI t 0 (n - 1) && neI s t)
def goodPart (p : Gp) : Bool := match p.pg with
  | .int g => isI p.pg 1 8 && (isI p.st 0 (16 * g - 1) && (decide ((p.im.length : Int) ≤ 16 * g) && p.im.all fun w => isI w 0 65535))
  | _ => false
def goodFrame (n : Int) (d : D) : Bool := match d with
  | .tup [p, t] => (p.isNon || isI p 0 (n - 1)) && isI t 128 4000
  | _ => false
def isB (d : D) : Bool := match d with
  | .bool _ => true
  | _ => false
def goodChan (n : Int) (d : D) : Bool := match d with
  | .tup [s, t, c, b] => diff n s t && (isI c 1 8 && isB b)
  | _ => false
def goodPair (n : Int) (d : D) : Bool := match d with
  | .tup [s, t] => diff n s t
  | _ => false
def isInt (d : D) : Bool := match d with
  | .int _ => true
  | _ => false
theorem spec_isint (d : D) (hd : D.flat d = true) (k : T → Roots → Prop) (kx : Exn → Roots → Prop) (hk : k (.dat (.bool (isInt d))) []) : cIsInteger [.dat d] [] k kx := by
  unfold cIsInteger cwOf
  refine ⟨rfl, ?_⟩
  unfold wdIsInteger
  cases d with
  | non => exact ⟨false, by decide +kernel, false, fun z => (nomatch z), hk⟩
  | bool b => exact ⟨true, by decide +kernel, false, fun _ => ⟨true, by decide +kernel, rfl, rfl⟩, hk⟩
  | int i => exact ⟨true, by decide +kernel, true, fun _ => ⟨false, by decide +kernel, rfl, rfl⟩, hk⟩
  | str s => exact ⟨false, by decide +kernel, false, fun z => (nomatch z), hk⟩
  | _ => cases hd
theorem spec_within (d : D) (hd : D.flat d = true) (lo hi : Int) (k : T → Roots → Prop) (kx : Exn → Roots → Prop) (hk : k (.dat (.bool (isI d lo hi))) []) : cIsWithin [.dat d, .dat (.int lo), .dat (.int hi)] [] k kx := by
  unfold cIsWithin cwOf
  refine ⟨rfl, ?_⟩
  unfold wdIsWithin
  refine ⟨rfl, spec_isint d hd _ _ ?_⟩
  cases d with
  | int i => exact ⟨decide (lo ≤ i) && decide (i ≤ hi), fun _ => ⟨_, _, rfl, fun _ => ⟨rfl, rfl⟩, rfl, rfl⟩, hk⟩
  | non => exact ⟨false, fun z => (nomatch z), hk⟩
  | bool b => exact ⟨false, fun z => (nomatch z), hk⟩
  | str s => exact ⟨false, fun z => (nomatch z), hk⟩
  | _ => cases hd
def tupN (d : D) (n : Nat) : Bool := match d with
  | .tup ds => decide (ds.length = n)
  | _ => false
theorem spec_tupof (d : D) (hd : ShV d) (n : Nat) (k : T → Roots → Prop) (kx : Exn → Roots → Prop) (hk : k (.dat (.bool (tupN d n))) []) : cIsTupleOf [.dat d, .dat (.int (n : Int))] [] k kx := by
  unfold cIsTupleOf cwOf
  refine ⟨rfl, ?_⟩
  unfold wdIsTupleOf
  rcases hd with hd | ⟨ds, rfl, _⟩
  · cases d with
    | non => exact ⟨false, by decide +kernel, false, fun z => (nomatch z), hk⟩
    | bool b => exact ⟨false, by decide +kernel, false, fun z => (nomatch z), hk⟩
    | int i => exact ⟨false, by decide +kernel, false, fun z => (nomatch z), hk⟩
    | str s => exact ⟨false, by decide +kernel, false, fun z => (nomatch z), hk⟩
    | _ => cases hd
  · refine ⟨true, by decide +kernel, decide (ds.length = n), fun _ => ⟨?_, rfl⟩, hk⟩
    show Val.dat (.bool (decide ((ds.length : Int) = (n : Int)))) = _
    congr 2
    rw [decide_eq_decide]
    omega
theorem spec_ispart (c : GC) (d : D) (hd : D.flat d = true) (k : T → Roots → Prop) (kx : Exn → Roots → Prop) (hk : k (.dat (.bool (isI d 0 ((c.ps.length : Int) - 1)))) []) : cIsPartition [.dat c.D, .dat d] [] k kx := by
  unfold cIsPartition cwOf
  refine ⟨rfl, ?_⟩
  unfold wdIsPartition
  refine ⟨rfl, ?_⟩
  show cIsWithin [.dat d, .dat (.int 0), .dat (.int (((c.ps.map gpD).length : Int) - 1))] [] _ _
  rw [List.length_map]
  exact spec_within d hd _ _ _ _ hk
theorem isI_int {d : D} {lo hi : Int} (h : isI d lo hi = true) : ∃ i, d = .int i ∧ lo ≤ i ∧ i ≤ hi := by
  cases d with
  | int i =>
    have h : (decide (lo ≤ i) && decide (i ≤ hi)) = true := h
    rw [Bool.and_eq_true, decide_eq_true_eq, decide_eq_true_eq] at h
    exact ⟨i, rfl, h.1, h.2⟩
  | _ => cases h
theorem spec_diff (c : GC) (s t : D) (hs : D.flat s = true) (ht : D.flat t = true) (k : T → Roots → Prop) (kx : Exn → Roots → Prop) (hk : k (.dat (.bool (diff (c.ps.length : Int) s t))) []) : cAreDifferent [.dat c.D, .dat s, .dat t] [] k kx := by
  unfold cAreDifferent cwOf
  refine ⟨rfl, ?_⟩
  unfold wdAreDifferent
  refine ⟨rfl, spec_ispart c s hs _ _ ⟨isI t 0 ((c.ps.length : Int) - 1) && neI s t, fun h1 => ⟨rfl, spec_ispart c t ht _ _ ⟨neI s t, fun h2 => ?_, rfl, rfl⟩⟩, hk⟩⟩
  obtain ⟨i, rfl, _⟩ := isI_int h1
  obtain ⟨j, rfl, _⟩ := isI_int h2
  exact ⟨rfl, rfl⟩
theorem is_none {d : D} (hd : D.flat d = true) {rt : Roots} {k : D → Prop} (h : k (.bool d.isNon)) : sIs false (.dat d) (.dat .non) rt k := by
  cases d with
  | non => exact h
  | bool _ => exact h
  | int _ => exact h
  | str _ => exact h
  | _ => cases hd
theorem spec_ffit (c : GC) (d : D) (hd : ShV d) (k : T → Roots → Prop) (kx : Exn → Roots → Prop) (hk : k (.dat (.bool (goodFrame (c.ps.length : Int) d))) []) : cFrameFits [.dat c.D, .dat d] [] k kx := by
  unfold cFrameFits cwOf
  refine ⟨rfl, ?_⟩
  unfold wdFrameFits
  refine ⟨rfl, spec_tupof d hd 2 _ _ ⟨fun z => ?_, fun z => ?_⟩⟩
  · have z : (!tupN d 2) = true := z
    have e : goodFrame (c.ps.length : Int) d = false := by
      unfold goodFrame
      split
      · simp [tupN] at z
      · rfl
    rw [e] at hk
    exact hk
  · have z : (!tupN d 2) = false := z
    have z : tupN d 2 = true := by simpa using z
    rcases hd with hf | ⟨ds, rfl, hf⟩
    · cases d <;> first | cases z | cases hf
    · match ds, z, hf with
      | [p, t], _, hf =>
        simp only [List.all_cons, List.all_nil, Bool.and_true, Bool.and_eq_true] at hf
        refine ⟨rfl, ?_⟩
        cases p with
        | non => exact ⟨isI .non 0 ((c.ps.length : Int) - 1), fun z => (nomatch z), isI t 128 4000, fun _ => ⟨rfl, spec_within t hf.2 128 4000 _ _ ⟨rfl, rfl⟩⟩, hk⟩
        | bool b => exact ⟨isI (.bool b) 0 ((c.ps.length : Int) - 1), fun _ => ⟨rfl, spec_ispart c (.bool b) rfl _ _ ⟨rfl, rfl⟩⟩, isI t 128 4000, fun _ => ⟨rfl, spec_within t hf.2 128 4000 _ _ ⟨rfl, rfl⟩⟩, hk⟩
        | int b => exact ⟨isI (.int b) 0 ((c.ps.length : Int) - 1), fun _ => ⟨rfl, spec_ispart c (.int b) rfl _ _ ⟨rfl, rfl⟩⟩, isI t 128 4000, fun _ => ⟨rfl, spec_within t hf.2 128 4000 _ _ ⟨rfl, rfl⟩⟩, hk⟩
        | str b => exact ⟨isI (.str b) 0 ((c.ps.length : Int) - 1), fun _ => ⟨rfl, spec_ispart c (.str b) rfl _ _ ⟨rfl, rfl⟩⟩, isI t 128 4000, fun _ => ⟨rfl, spec_within t hf.2 128 4000 _ _ ⟨rfl, rfl⟩⟩, hk⟩
        | _ => cases hf.1
theorem spec_cfit (c : GC) (d : D) (hd : ShV d) (k : T → Roots → Prop) (kx : Exn → Roots → Prop) (hk : k (.dat (.bool (goodChan (c.ps.length : Int) d))) []) : cChannelFits [.dat c.D, .dat d] [] k kx := by
  unfold cChannelFits cwOf
  refine ⟨rfl, ?_⟩
  unfold wdChannelFits
  refine ⟨rfl, spec_tupof d hd 4 _ _ ⟨fun z => ?_, fun z => ?_⟩⟩
  · have z : (!tupN d 4) = true := z
    have e : goodChan (c.ps.length : Int) d = false := by
      unfold goodChan
      split
      · simp [tupN] at z
      · rfl
    rw [e] at hk
    exact hk
  · have z : (!tupN d 4) = false := z
    have z : tupN d 4 = true := by simpa using z
    rcases hd with hf | ⟨ds, rfl, hf⟩
    · cases d <;> first | cases z | cases hf
    · match ds, z, hf with
      | [s, t, r, b], _, hf =>
        simp only [List.all_cons, List.all_nil, Bool.and_true, Bool.and_eq_true] at hf
        refine ⟨rfl, rfl, spec_diff c s t hf.1 hf.2.1 _ _ ⟨isI r 1 8 && isB b, fun _ => ⟨rfl, spec_within r hf.2.2.1 1 8 _ _ ⟨isB b, fun _ => ?_, rfl, rfl⟩⟩, hk⟩⟩
        cases b with
        | non => exact ⟨false, by decide +kernel, rfl, rfl⟩
        | bool b => exact ⟨true, by decide +kernel, rfl, rfl⟩
        | int i => exact ⟨false, by decide +kernel, rfl, rfl⟩
        | str s => exact ⟨false, by decide +kernel, rfl, rfl⟩
        | _ => cases hf.2.2.2
theorem spec_pfit (c : GC) (d : D) (hd : ShV d) (k : T → Roots → Prop) (kx : Exn → Roots → Prop) (hk : k (.dat (.bool (goodPair (c.ps.length : Int) d))) []) : cPairFits [.dat c.D, .dat d] [] k kx := by
  unfold cPairFits cwOf
  refine ⟨rfl, ?_⟩
  unfold wdPairFits
  refine ⟨rfl, spec_tupof d hd 2 _ _ ⟨goodPair (c.ps.length : Int) d, fun z => ?_, ?_⟩⟩
  · rcases hd with hf | ⟨ds, rfl, hf⟩
    · cases d <;> first | cases z | cases hf
    · match ds, z, hf with
      | [s, t], _, hf =>
        simp only [List.all_cons, List.all_nil, Bool.and_true, Bool.and_eq_true] at hf
        exact ⟨_, rfl, _, rfl, rfl, spec_diff c s t hf.1 hf.2 _ _ ⟨rfl, rfl⟩⟩
  · have e : (tupN d 2 && goodPair (c.ps.length : Int) d) = goodPair (c.ps.length : Int) d := by
      unfold goodPair
      split
      · simp [tupN]
      · simp
    rw [e]
    exact hk
theorem spec_dfit (c : GC) (d : D) (hd : D.flat d = true) (k : T → Roots → Prop) (kx : Exn → Roots → Prop) (hk : k (.dat (.bool (isI d 0 ((c.ps.length : Int) - 1)))) []) : cDeviceFits [.dat c.D, .dat d] [] k kx := by
  unfold cDeviceFits cwOf
  refine ⟨rfl, ?_⟩
  unfold wdDeviceFits
  exact ⟨rfl, spec_ispart c d hd _ _ hk⟩
theorem spec_isword (i : Int) (k : T → Roots → Prop) (kx : Exn → Roots → Prop) (hk : k (.dat (.bool (isI (.int i) 0 65535))) []) : cIsWord [.dat (.int i)] [] k kx := by
  unfold cIsWord cwOf
  refine ⟨rfl, ?_⟩
  unfold wdIsWord
  refine ⟨_, _, rfl, fun _ => ⟨rfl, rfl⟩, ?_⟩
  have e : (decide (0 ≤ i) && decide (i < 65536)) = isI (.int i) 0 65535 := by
    show _ = (decide (0 ≤ i) && decide (i ≤ 65535))
    congr 1
    rw [decide_eq_decide]
    omega
  exact e ▸ hk
theorem toDs_bs (f : D → Bool) : ∀ im : List D, T.toDs (im.map fun w => T.dat (.bool (f w))) = (im.map f).map D.bool
  | [] => rfl
  | a :: im => by
    show D.bool _ :: T.toDs _ = _
    rw [toDs_bs f im]
    rfl
structure PtV (p : Gp) : Prop where
  im : p.im.all D.flat = true
  pg : D.flat p.pg = true
  st : D.flat p.st = true
  len : p.im.length ≤ 1000
theorem spec_partfit (c : D) (p : Gp) (hp : PtV p) (k : T → Roots → Prop) (kx : Exn → Roots → Prop) (hk : k (.dat (.bool (goodPart p))) []) : cPartitionFits [.dat c, .dat (gpD p)] [] k kx := by
  unfold cPartitionFits cwOf
  refine ⟨rfl, ?_⟩
  unfold wdPartitionFits
  obtain ⟨im, pg, st⟩ := p
  refine ⟨rfl, spec_within pg hp.pg 1 8 _ _ ⟨fun z => ?_, fun z => ?_⟩⟩
  · have z : (!isI pg 1 8) = true := z
    have e : goodPart ⟨im, pg, st⟩ = false := by
      unfold goodPart
      cases pg <;> first | rfl | simp at z; simp [z]
    rw [e] at hk
    exact hk
  · have z : (!isI pg 1 8) = false := z
    have z : isI pg 1 8 = true := by simpa using z
    obtain ⟨g, rfl, g1, g8⟩ := isI_int z
    have eg : goodPart ⟨im, .int g, st⟩ = (isI st 0 (16 * g - 1) && (decide ((im.length : Int) ≤ 16 * g) && im.all fun w => isI w 0 65535)) := by
      show (isI (.int g) 1 8 && _) = _
      rw [z, Bool.true_and]
    rw [eg] at hk
    refine ⟨Or.inr ⟨by decide, by decide⟩, !isI st 0 (g * 16 - 1), fun _ => ⟨rfl, spec_within st hp.st 0 (g * 16 - 1) _ _ ⟨rfl, rfl⟩⟩, fun y => ?_, fun y => ?_⟩
    · have y : (decide (g * 16 < (im.length : Int)) || !isI st 0 (g * 16 - 1)) = true := y
      have e : (isI st 0 (16 * g - 1) && (decide ((im.length : Int) ≤ 16 * g) && im.all fun w => isI w 0 65535)) = false := by
        rw [show g * 16 = 16 * g from Int.mul_comm _ _] at y
        cases h : isI st 0 (16 * g - 1) with
        | false => rfl
        | true =>
          rw [h] at y
          have y : 16 * g < (im.length : Int) := by simpa using y
          rw [decide_eq_false (by omega)]
          rfl
      rw [e] at hk
      exact hk
    · have y : (decide (g * 16 < (im.length : Int)) || !isI st 0 (g * 16 - 1)) = false := y
      rw [show g * 16 = 16 * g from Int.mul_comm _ _, Bool.or_eq_false_iff] at y
      have y1 := of_decide_eq_false y.1
      have y2 : isI st 0 (16 * g - 1) = true := by simpa using y.2
      rw [y2, decide_eq_true (by omega : (im.length : Int) ≤ 16 * g), Bool.true_and, Bool.true_and] at hk
      have him := hp.im
      have hl := hp.len
      refine ⟨fun i acc rt => acc = ((im.take i).map fun w => T.dat (.bool (isI w 0 65535))) ∧ rt = [], ⟨rfl, rfl⟩, ?_, ?_⟩
      · rintro i d _ _ hd ⟨rfl, rfl⟩
        have hd : im[i]? = some d := hd
        have hfd : D.flat d = true := List.all_eq_true.mp him d (List.mem_of_getElem? hd)
        have e : im.take (i + 1) = im.take i ++ [d] := by rw [List.take_succ, hd]; rfl
        have hi := (List.getElem?_eq_some_iff.mp hd).1
        have hl : im.length ≤ 1000 := hl
        refine ⟨by rw [List.length_map, List.length_take]; omega, fun _ => ⟨rfl, spec_isint d hfd _ _ ⟨isI d 0 65535, fun h => ?_, ?_, rfl⟩⟩, fun z => (nomatch z)⟩
        · cases d with
          | int i => exact ⟨rfl, spec_isword i _ _ ⟨rfl, rfl⟩⟩
          | _ => cases h
        · rw [e, List.map_append]
          have e2 : (isInt d && isI d 0 65535) = isI d 0 65535 := by cases d <;> rfl
          show _ ++ [T.dat (.bool (isInt d && isI d 0 65535))] = _
          rw [e2]
          rfl
      · rintro _ _ ⟨rfl, rfl⟩
        refine ⟨im.map fun w => isI w 0 65535, ?_, ?_⟩
        · show some (T.toDs ((im.take im.length).map fun w => T.dat (.bool (isI w 0 65535)))) = _
          rw [List.take_length]
          rw [toDs_bs]
        · have e : ((im.map fun w => isI w 0 65535).all id) = im.all fun w => isI w 0 65535 := by rw [List.all_map]; rfl
          exact e ▸ hk
end K31
end

section
set_option linter.all false
set_option maxRecDepth 100000
set_option maxHeartbeats 1000000
set_option pp.deepTerms false
namespace K31
open PySem L2 Evl Wv

/-! ### the law's own judgment of single things -/
theorem spec_lint (d : D) (hd : D.flat d = true) (lo hi : Int) (k : T → Roots → Prop) (kx : Exn → Roots → Prop) (hk : k (.dat (.bool (isI d lo hi))) []) : cLawInt [.dat d, .dat (.int lo), .dat (.int hi)] [] k kx := by
  unfold cLawInt cwOf
  refine ⟨rfl, ?_⟩
  unfold wdLawInt
  cases d with
  | non => exact ⟨false, by decide +kernel, false, fun z => (nomatch z), hk⟩
  | bool b => exact ⟨true, by decide +kernel, false, fun _ => ⟨true, by decide +kernel, false, fun z => (nomatch z), rfl, rfl⟩, hk⟩
  | int i => exact ⟨true, by decide +kernel, isI (.int i) lo hi, fun _ => ⟨false, by decide +kernel, isI (.int i) lo hi, fun _ => ⟨_, _, rfl, fun _ => ⟨rfl, rfl⟩, rfl, rfl⟩, rfl, rfl⟩, hk⟩
  | str s => exact ⟨false, by decide +kernel, false, fun z => (nomatch z), hk⟩
  | _ => cases hd
def endsOf (n : Int) (d : D) : Bool := match d with
  | .tup (s :: t :: _) => diff n s t
  | _ => false
theorem spec_lends (d : D) (hd : ShV d) (n : Int) (l : Nat) (hl : 2 ≤ l) (k : T → Roots → Prop) (kx : Exn → Roots → Prop) (hk : k (.dat (.bool (tupN d l && endsOf n d))) []) : cLawEnds [.dat d, .dat (.int n), .dat (.int (l : Int))] [] k kx := by
  unfold cLawEnds cwOf
  refine ⟨rfl, ?_⟩
  unfold wdLawEnds
  rcases hd with hf | ⟨ds, rfl, hf⟩
  · have e : (tupN d l && endsOf n d) = false := by cases d <;> first | rfl | cases hf
    rw [e] at hk
    cases d with
    | non => exact ⟨false, by decide +kernel, true, fun z => (nomatch z), fun _ => hk, fun z => (nomatch z)⟩
    | bool b => exact ⟨false, by decide +kernel, true, fun z => (nomatch z), fun _ => hk, fun z => (nomatch z)⟩
    | int i => exact ⟨false, by decide +kernel, true, fun z => (nomatch z), fun _ => hk, fun z => (nomatch z)⟩
    | str s => exact ⟨false, by decide +kernel, true, fun z => (nomatch z), fun _ => hk, fun z => (nomatch z)⟩
    | _ => cases hf
  · refine ⟨true, by decide +kernel, !decide ((ds.length : Int) = (l : Int)), fun _ => ⟨rfl, rfl⟩, fun z => ?_, fun z => ?_⟩
    · have z : (!decide ((ds.length : Int) = (l : Int))) = true := z
      have e : (tupN (.tup ds) l && endsOf n (.tup ds)) = false := by
        have : tupN (.tup ds) l = false := by
          show decide (ds.length = l) = false
          refine decide_eq_false fun h => ?_
          rw [h] at z
          simp at z
        rw [this]
        rfl
      rw [e] at hk
      exact hk
    · have z : (!decide ((ds.length : Int) = (l : Int))) = false := z
      have z : ds.length = l := by
        have := of_decide_eq_true (by simpa using z : decide ((ds.length : Int) = (l : Int)) = true)
        omega
      obtain ⟨s, t, r, rfl⟩ : ∃ s t r, ds = s :: t :: r := by
        match ds, hl, z with
        | [], hl, z => simp at z; omega
        | [_], hl, z => simp at z; omega
        | s :: t :: r, _, _ => exact ⟨s, t, r, rfl⟩
      · simp only [List.all_cons, Bool.and_eq_true] at hf
        have e : (tupN (.tup (s :: t :: r)) l && endsOf n (.tup (s :: t :: r))) = diff n s t := by
          show (decide ((s :: t :: r).length = l) && _) = _
          rw [decide_eq_true z]
          rfl
        rw [e] at hk
        have a0 : atI (s :: t :: r) 0 = some s := by
          show ((ixN (s :: t :: r).length _).bind fun j => (s :: t :: r)[j]?) = _
          rw [ixN_nat (by decide) (by simp; omega)]
          rfl
        have a1 : atI (s :: t :: r) 1 = some t := by
          show ((ixN (s :: t :: r).length _).bind fun j => (s :: t :: r)[j]?) = _
          rw [ixN_nat (by decide) (by simp; omega)]
          rfl
        refine ⟨s, a0, rfl, spec_lint s hf.1 0 (n - 1) _ _ ⟨isI t 0 (n - 1) && neI s t, fun h1 => ⟨t, a1, rfl, spec_lint t hf.2.1 0 (n - 1) _ _ ⟨neI s t, fun h2 => ?_, rfl, rfl⟩⟩, hk⟩⟩
        obtain ⟨i, rfl, _⟩ := isI_int h1
        obtain ⟨j, rfl, _⟩ := isI_int h2
        exact ⟨.int i, a0, .int j, a1, rfl, rfl⟩
theorem goodChan_eq (n : Int) (d : D) : goodChan n d = ((tupN d 4 && endsOf n d) && match d with | .tup [_, _, c, b] => isI c 1 8 && isB b | _ => false) := by
  unfold goodChan
  split
  · rename_i s t c b
    show _ = ((decide (4 = 4) && _) && _)
    rfl
  · simp
theorem goodPair_eq (n : Int) (d : D) : goodPair n d = (tupN d 2 && endsOf n d) := by
  unfold goodPair
  split
  · rfl
  · rename_i h
    symm
    rw [Bool.and_eq_false_iff]
    cases hd : tupN d 2 with
    | false => exact Or.inl rfl
    | true =>
      exfalso
      match d, hd with
      | .tup [s, t], _ => exact h s t rfl
theorem inV_false : ∀ bs : List Bool, inV (D.v (.bool false)) ((bs.map D.bool).map D.v) = !(bs.all id)
  | [] => rfl
  | b :: bs => by
    have ih := inV_false bs
    unfold inV at ih ⊢
    rw [List.map_cons, List.map_cons, List.any_cons, ih, List.all_cons]
    cases b with
    | false => rfl
    | true =>
      show (eqV (.bl true) (.bl false) || _) = _
      rfl
theorem spec_lgood_dev (n : Int) (d : D) (hd : D.flat d = true) (k : T → Roots → Prop) (kx : Exn → Roots → Prop) (hk : k (.dat (.bool (isI d 0 (n - 1)))) []) : cLawGood [.dat (.str "device"), .dat d, .dat (.int n)] [] k kx := by
  unfold cLawGood cwOf
  refine ⟨rfl, ?_⟩
  unfold wdLawGood
  refine ⟨fun z => (nomatch z), fun _ => ⟨fun z => (nomatch z), fun _ => ⟨fun z => (nomatch z), fun _ => ⟨fun _ => ⟨rfl, spec_lint d hd 0 (n - 1) _ _ hk⟩, fun z => (nomatch z)⟩⟩⟩⟩
theorem spec_lgood_pair (kd : String) (hkd : kd = "share" ∨ kd = "flow") (n : Int) (d : D) (hd : ShV d) (k : T → Roots → Prop) (kx : Exn → Roots → Prop) (hk : k (.dat (.bool (goodPair n d))) []) : cLawGood [.dat (.str kd), .dat d, .dat (.int n)] [] k kx := by
  unfold cLawGood cwOf
  refine ⟨rfl, ?_⟩
  unfold wdLawGood
  rw [goodPair_eq] at hk
  rcases hkd with rfl | rfl
  · exact ⟨fun z => (nomatch z), fun _ => ⟨fun z => (nomatch z), fun _ => ⟨fun z => (nomatch z), fun _ => ⟨fun z => (nomatch z), fun _ => ⟨rfl, spec_lends d hd n 2 (by decide) _ _ hk⟩⟩⟩⟩⟩
  · exact ⟨fun z => (nomatch z), fun _ => ⟨fun z => (nomatch z), fun _ => ⟨fun z => (nomatch z), fun _ => ⟨fun z => (nomatch z), fun _ => ⟨rfl, spec_lends d hd n 2 (by decide) _ _ hk⟩⟩⟩⟩⟩
theorem spec_lgood_chan (n : Int) (d : D) (hd : ShV d) (k : T → Roots → Prop) (kx : Exn → Roots → Prop) (hk : k (.dat (.bool (goodChan n d))) []) : cLawGood [.dat (.str "channel"), .dat d, .dat (.int n)] [] k kx := by
  unfold cLawGood cwOf
  refine ⟨rfl, ?_⟩
  unfold wdLawGood
  rw [goodChan_eq] at hk
  refine ⟨fun z => (nomatch z), fun _ => ⟨fun z => (nomatch z), fun _ => ⟨fun _ => ⟨rfl, spec_lends d hd n 4 (by decide) _ _ ⟨_, fun h => ?_, hk⟩⟩, fun z => (nomatch z)⟩⟩⟩
  rw [Bool.and_eq_true] at h
  rcases hd with hf | ⟨ds, rfl, hf⟩
  · cases d <;> first | cases h.1 | cases hf
  · match ds, h.1, hf with
    | [s, t, r, b], _, hf =>
      simp only [List.all_cons, List.all_nil, Bool.and_true, Bool.and_eq_true] at hf
      refine ⟨r, rfl, rfl, spec_lint r hf.2.2.1 1 8 _ _ ⟨isB b, fun _ => ⟨b, rfl, ?_⟩, rfl, rfl⟩⟩
      cases b with
      | non => exact ⟨false, by decide +kernel, rfl, rfl⟩
      | bool b => exact ⟨true, by decide +kernel, rfl, rfl⟩
      | int i => exact ⟨false, by decide +kernel, rfl, rfl⟩
      | str s => exact ⟨false, by decide +kernel, rfl, rfl⟩
      | _ => cases hf.2.2.2
theorem spec_lgood_frame (n : Int) (d : D) (hd : ShV d) (k : T → Roots → Prop) (kx : Exn → Roots → Prop) (hk : k (.dat (.bool (goodFrame n d))) []) : cLawGood [.dat (.str "frame"), .dat d, .dat (.int n)] [] k kx := by
  unfold cLawGood cwOf
  refine ⟨rfl, ?_⟩
  unfold wdLawGood
  refine ⟨fun z => (nomatch z), fun _ => ⟨fun _ => ?_, fun z => (nomatch z)⟩⟩
  rcases hd with hf | ⟨ds, rfl, hf⟩
  · have e : goodFrame n d = false := by cases d <;> first | rfl | cases hf
    rw [e] at hk
    cases d with
    | non => exact ⟨false, by decide +kernel, true, fun z => (nomatch z), fun _ => hk, fun z => (nomatch z)⟩
    | bool b => exact ⟨false, by decide +kernel, true, fun z => (nomatch z), fun _ => hk, fun z => (nomatch z)⟩
    | int i => exact ⟨false, by decide +kernel, true, fun z => (nomatch z), fun _ => hk, fun z => (nomatch z)⟩
    | str s => exact ⟨false, by decide +kernel, true, fun z => (nomatch z), fun _ => hk, fun z => (nomatch z)⟩
    | _ => cases hf
  · by_cases hl : ds.length = 2
    · match ds, hl, hf with
      | [p, t], _, hf =>
        simp only [List.all_cons, List.all_nil, Bool.and_true, Bool.and_eq_true] at hf
        refine ⟨true, by decide +kernel, !isI t 128 4000, fun _ => ⟨!isI t 128 4000, fun _ => ⟨t, rfl, rfl, spec_lint t hf.2 128 4000 _ _ ⟨rfl, rfl⟩⟩, rfl, rfl⟩, fun z => ?_, fun z => ?_⟩
        · have z : (!isI t 128 4000) = true := z
          have e : goodFrame n (.tup [p, t]) = false := by
            show (_ && isI t 128 4000) = false
            rw [show isI t 128 4000 = false by simpa using z, Bool.and_false]
          rw [e] at hk
          exact hk
        · have z : (!isI t 128 4000) = false := z
          have e : goodFrame n (.tup [p, t]) = (p.isNon || isI p 0 (n - 1)) := by
            show (_ && isI t 128 4000) = _
            rw [show isI t 128 4000 = true by simpa using z, Bool.and_true]
          rw [e] at hk
          refine ⟨p, rfl, ?_⟩
          cases p with
          | non => exact ⟨isI .non 0 (n - 1), fun z => (nomatch z), hk⟩
          | bool b => exact ⟨isI (.bool b) 0 (n - 1), fun _ => ⟨.bool b, rfl, rfl, spec_lint (.bool b) rfl _ _ _ _ ⟨rfl, rfl⟩⟩, hk⟩
          | int b => exact ⟨isI (.int b) 0 (n - 1), fun _ => ⟨.int b, rfl, rfl, spec_lint (.int b) rfl _ _ _ _ ⟨rfl, rfl⟩⟩, hk⟩
          | str b => exact ⟨isI (.str b) 0 (n - 1), fun _ => ⟨.str b, rfl, rfl, spec_lint (.str b) rfl _ _ _ _ ⟨rfl, rfl⟩⟩, hk⟩
          | _ => cases hf.1
    · have e : goodFrame n (.tup ds) = false := by
        unfold goodFrame
        split
        · rename_i h
          cases h
          exact absurd rfl hl
        · rfl
      rw [e] at hk
      have hne : (!decide ((ds.length : Int) = 2)) = true := by
        rw [decide_eq_false (by omega)]
        rfl
      refine ⟨true, by decide +kernel, true, fun _ => ⟨true, fun z => ?_, ?_, rfl⟩, fun _ => hk, fun z => (nomatch z)⟩
      · have z : (!decide ((ds.length : Int) = 2)) = false := z
        rw [hne] at z
        cases z
      · show (!decide ((ds.length : Int) = 2) || true) = true
        rw [hne]
        rfl
theorem spec_lgood_part (n : Int) (p : Gp) (hp : PtV p) (k : T → Roots → Prop) (kx : Exn → Roots → Prop) (hk : k (.dat (.bool (goodPart p))) []) : cLawGood [.dat (.str "partition"), .dat (gpD p), .dat (.int n)] [] k kx := by
  unfold cLawGood cwOf
  refine ⟨rfl, ?_⟩
  unfold wdLawGood
  refine ⟨fun _ => ?_, fun z => (nomatch z)⟩
  obtain ⟨im, pg, st⟩ := p
  refine ⟨rfl, spec_lint pg hp.pg 1 8 _ _ ?_⟩
  cases hz : isI pg 1 8 with
  | false =>
    have e : goodPart ⟨im, pg, st⟩ = false := by
      unfold goodPart
      cases pg <;> first | rfl | simp [hz]
    rw [e] at hk
    exact ⟨true, fun z => (nomatch z), fun _ => hk, fun z => (nomatch z)⟩
  | true =>
    obtain ⟨g, rfl, g1, g8⟩ := isI_int hz
    have eg : goodPart ⟨im, .int g, st⟩ = (isI st 0 (16 * g - 1) && (decide ((im.length : Int) ≤ 16 * g) && im.all fun w => isI w 0 65535)) := by
      show (isI (.int g) 1 8 && _) = _
      rw [hz, Bool.true_and]
    rw [eg] at hk
    refine ⟨!isI st 0 (16 * g - 1), fun _ => ⟨Or.inl ⟨by decide, by decide⟩, rfl, spec_lint st hp.st 0 (16 * g - 1) _ _ ⟨rfl, rfl⟩⟩, fun y => ?_, fun y => ?_⟩
    · have y : (!isI st 0 (16 * g - 1)) = true := y
      rw [show isI st 0 (16 * g - 1) = false by simpa using y] at hk
      exact hk
    · have y : (!isI st 0 (16 * g - 1)) = false := y
      rw [show isI st 0 (16 * g - 1) = true by simpa using y, Bool.true_and] at hk
      have him := hp.im
      have hl : im.length ≤ 1000 := hp.len
      refine ⟨Or.inl ⟨by decide, by decide⟩, (im.all fun w => isI w 0 65535), fun _ => ?_, hk⟩
      refine ⟨fun i acc rt => acc = ((im.take i).map fun w => T.dat (.bool (isI w 0 65535))) ∧ rt = [], ⟨rfl, rfl⟩, ?_, ?_⟩
      · rintro i d _ _ hd ⟨rfl, rfl⟩
        have hd : im[i]? = some d := hd
        have hfd : D.flat d = true := List.all_eq_true.mp him d (List.mem_of_getElem? hd)
        have e : im.take (i + 1) = im.take i ++ [d] := by rw [List.take_succ, hd]; rfl
        have hi := (List.getElem?_eq_some_iff.mp hd).1
        refine ⟨by rw [List.length_map, List.length_take]; omega, fun _ => ⟨rfl, spec_lint d hfd _ _ _ _ ?_⟩, fun z => (nomatch z)⟩
        refine ⟨?_, rfl⟩
        rw [e, List.map_append]
        rfl
      · rintro _ _ ⟨rfl, rfl⟩
        rw [List.take_length]
        show sIn true (.dat (.bool false)) (.dat (.lst (T.toDs (im.map fun w => T.dat (.bool (isI w 0 65535)))))) [] _
        rw [toDs_bs]
        refine ⟨rfl, ?_, ?_, rfl⟩
        · rw [List.all_eq_true]
          intro x hx
          obtain ⟨b, _, rfl⟩ := List.mem_map.mp hx
          rfl
        · show Val.dat (.bool (!inV (D.v (.bool false)) (((im.map fun w => isI w 0 65535).map D.bool).map D.v))) = _
          rw [inV_false, Bool.not_not, List.all_map]
          rfl
end K31
end

section
set_option linter.all false
set_option maxRecDepth 100000
set_option maxHeartbeats 1000000
set_option pp.deepTerms false
namespace K31
open PySem L2 Evl Wv

/-! ### the pages that a partition has -/
theorem spec_rights (a b p : Int) (k : T → Roots → Prop) (kx : Exn → Roots → Prop) (hk : k (.dat (.int (if p = a then 3 else if p = b then 1 else 0))) []) : cShareRights [.dat (.tup [.int a, .int b]), .dat (.int p)] [] k kx := by
  unfold cShareRights cwOf
  refine ⟨rfl, ?_⟩
  unfold wdShareRights
  refine ⟨rfl, fun z => ?_, fun z => ⟨fun y => ?_, fun y => ?_⟩⟩
  · have z : decide (p = a) = true := z
    rw [if_pos (of_decide_eq_true z)] at hk
    exact hk
  · have z : decide (p = a) = false := z
    have y : decide (p = b) = true := y
    rw [if_neg (of_decide_eq_false z), if_pos (of_decide_eq_true y)] at hk
    exact hk
  · have z : decide (p = a) = false := z
    have y : decide (p = b) = false := y
    rw [if_neg (of_decide_eq_false z), if_neg (of_decide_eq_false y)] at hk
    exact hk
def inSh (p : Int) (d : D) : Bool := match d with
  | .tup [.int a, .int b] => decide (p = a) || decide (p = b)
  | _ => false
def inDv (p : Int) (d : D) : Bool := match d with
  | .int i => decide (i = p)
  | _ => false
def nSh (c : GC) (p : Int) : Nat := (c.sh.filter (inSh p)).length
def nDv (c : GC) (p : Int) : Nat := (c.dv.filter (inDv p)).length
theorem filter_take {α} (f : α → Bool) (l : List α) (i : Nat) (d : α) (h : l[i]? = some d) : ((l.take (i + 1)).filter f).length = ((l.take i).filter f).length + (if f d then 1 else 0) := by
  rw [List.take_succ, h, List.filter_append, List.length_append]
  show _ + (List.filter f [d]).length = _
  rw [List.filter_cons]
  cases f d <;> rfl
structure Goods (c : GC) : Prop where
  sh : ∀ d ∈ c.sh, ∃ a b, d = .tup [.int a, .int b]
  dv : ∀ d ∈ c.dv, ∃ i, d = .int i
  l1 : c.sh.length ≤ 1000
  l2 : c.dv.length ≤ 1000
theorem spec_pmap (c : GC) (hc : Goods c) (p : Nat) (pt : Gp) (hp : c.ps[p]? = some pt) (g : Int) (hg : pt.pg = .int g) (g1 : 1 ≤ g) (g8 : g ≤ 8) (k : T → Roots → Prop) (kx : Exn → Roots → Prop) (hk : ∀ l : List D, l.length = g.toNat + nSh c (p : Int) + nDv c (p : Int) → k (.lst (l.map .dat)) []) :
    cPageMap [.dat c.D, .dat (.int (p : Nat))] [] k kx := by
  unfold cPageMap cwOf
  refine ⟨rfl, ?_⟩
  unfold wdPageMap
  have hpl := (List.getElem?_eq_some_iff.mp hp).1
  have e0 : atI (c.ps.map gpD) (p : Int) = some (gpD pt) := by
    show ((ixN (c.ps.map gpD).length (p : Int)).bind fun j => (c.ps.map gpD)[j]?) = _
    rw [ixN_nat (by omega) (by rw [List.length_map]; omega), Int.toNat_natCast]
    show (c.ps.map gpD)[p]? = _
    rw [List.getElem?_map, hp]
    rfl
  obtain ⟨im, pg, st⟩ := pt
  have hg : pg = .int g := hg
  subst hg
  refine ⟨gpD ⟨im, .int g, st⟩, e0, ?_⟩
  refine ⟨by omega, by omega, fun i acc rt => (∃ l : List D, acc = l.map .dat ∧ l.length = i) ∧ rt = [], ⟨⟨[], rfl, rfl⟩, rfl⟩, ?_, ?_⟩
  · rintro i d _ _ hd ⟨⟨l, rfl, rfl⟩, rfl⟩
    have hi := (List.getElem?_eq_some_iff.mp hd).1
    simp at hi
    exact ⟨by simp; omega, fun _ => ⟨by show 3 ≤ 1000; decide, ⟨l ++ [_], by rw [List.map_append]; rfl, by simp⟩, rfl⟩, fun z => (nomatch z)⟩
  · rintro _ _ ⟨⟨l0, rfl, hl0⟩, rfl⟩
    simp at hl0
    have hs := hc.l1
    have hdl := hc.l2
    refine ⟨fun sl rt => ∃ (l : List D) (x3 x4 x5 x6 : Option Val), sl = [some (.dat c.D), some (.dat (.int (p : Nat))), some (.ref 0 []), x3, x4, x5, x6] ∧ rt = [.lst (l.map .dat)] ∧ l.length = g.toNat + nSh c (p : Int), ?_, ?_⟩
    · refine ⟨fun i sl rt => ∃ (l : List D) (x3 x4 x5 x6 : Option Val), sl = [some (.dat c.D), some (.dat (.int (p : Nat))), some (.ref 0 []), x3, x4, x5, x6] ∧ rt = [.lst (l.map .dat)] ∧ l.length = g.toNat + ((c.sh.take i).filter (inSh (p : Int))).length, ⟨l0, none, none, none, none, rfl, rfl, by simp [hl0]⟩, ?_, ?_⟩
      · rintro i d _ _ hd ⟨l, x3, x4, x5, x6, rfl, rfl, hl⟩
        rw [List.getElem?_map] at hd
        obtain ⟨⟨d, j⟩, hm, rfl⟩ := Option.map_eq_some_iff.mp hd
        rw [List.getElem?_zipIdx] at hm
        obtain ⟨d', hm2, e⟩ := Option.map_eq_some_iff.mp hm
        injection e with e1 e2
        subst e1 e2
        have hm2 : c.sh[i]? = some d' := hm2
        have hi := (List.getElem?_eq_some_iff.mp hm2).1
        obtain ⟨a, b, rfl⟩ := hc.sh d' (List.mem_of_getElem? hm2)
        have hf := filter_take (inSh (p : Int)) c.sh i _ hm2
        have hfl := List.length_filter_le (inSh (p : Int)) (c.sh.take i)
        rw [List.length_take] at hfl
        refine ⟨rfl, rfl, spec_rights a b (p : Int) _ _ ⟨fun z => ?_, fun z => ?_⟩⟩
        · have z := of_decide_eq_true z
          refine ⟨by show 3 ≤ 1000; decide, by rw [List.length_map]; omega, .inl ⟨l ++ [_], _, _, _, x6, rfl, by rw [List.map_append]; rfl, ?_⟩⟩
          have hin : inSh (p : Int) (.tup [.int a, .int b]) = true := by
            show (decide ((p : Int) = a) || decide ((p : Int) = b)) = true
            split at z
            · rw [decide_eq_true (by assumption)]; rfl
            · split at z
              · rename_i hb
                rw [decide_eq_true hb, Bool.or_true]
              · omega
          rw [hin] at hf
          simp only [List.length_append, List.length_singleton]
          simp only [if_true] at hf
          omega
        · have z := of_decide_eq_false z
          refine .inl ⟨l, _, _, _, x6, rfl, rfl, ?_⟩
          have hin : inSh (p : Int) (.tup [.int a, .int b]) = false := by
            show (decide ((p : Int) = a) || decide ((p : Int) = b)) = false
            split at z
            · omega
            · split at z
              · omega
              · rw [decide_eq_false (by assumption), decide_eq_false (by assumption)]; rfl
          rw [hin] at hf
          simp only [Bool.false_eq_true, if_false] at hf
          omega
      · rintro _ _ ⟨l, x3, x4, x5, x6, rfl, rfl, hl⟩
        refine ⟨l, x3, x4, x5, x6, rfl, rfl, ?_⟩
        rw [hl, List.length_map, List.length_zipIdx, List.take_length]
        rfl
    · rintro _ _ ⟨l1, x3, x4, x5, x6, rfl, rfl, hl1⟩
      have hn1 : nSh c (p : Int) ≤ 1000 := Nat.le_trans (List.length_filter_le _ _) hs
      refine ⟨fun sl rt => ∃ (l : List D) (x3 x4 x5 x6 : Option Val), sl = [some (.dat c.D), some (.dat (.int (p : Nat))), some (.ref 0 []), x3, x4, x5, x6] ∧ rt = [.lst (l.map .dat)] ∧ l.length = g.toNat + nSh c (p : Int) + nDv c (p : Int), ?_, ?_⟩
      · refine ⟨fun i sl rt => ∃ (l : List D) (x3 x4 x5 x6 : Option Val), sl = [some (.dat c.D), some (.dat (.int (p : Nat))), some (.ref 0 []), x3, x4, x5, x6] ∧ rt = [.lst (l.map .dat)] ∧ l.length = g.toNat + nSh c (p : Int) + ((c.dv.take i).filter (inDv (p : Int))).length, ⟨l1, x3, x4, x5, x6, rfl, rfl, by simp [hl1]⟩, ?_, ?_⟩
        · rintro i d _ _ hd ⟨l, x3, x4, x5, x6, rfl, rfl, hl⟩
          rw [List.getElem?_map] at hd
          obtain ⟨⟨d, j⟩, hm, rfl⟩ := Option.map_eq_some_iff.mp hd
          rw [List.getElem?_zipIdx] at hm
          obtain ⟨d', hm2, e⟩ := Option.map_eq_some_iff.mp hm
          injection e with e1 e2
          subst e1 e2
          have hm2 : c.dv[i]? = some d' := hm2
          have hi := (List.getElem?_eq_some_iff.mp hm2).1
          obtain ⟨a, rfl⟩ := hc.dv d' (List.mem_of_getElem? hm2)
          have hf := filter_take (inDv (p : Int)) c.dv i _ hm2
          have hfl := List.length_filter_le (inDv (p : Int)) (c.dv.take i)
          rw [List.length_take] at hfl
          refine ⟨rfl, fun z => ?_, fun z => ?_⟩
          · have z : decide (a = (p : Int)) = true := z
            refine ⟨by show 3 ≤ 1000; decide, by rw [List.length_map]; omega, .inl ⟨l ++ [_], _, _, _, _, rfl, by rw [List.map_append]; rfl, ?_⟩⟩
            rw [show inDv (p : Int) (.int a) = true from z] at hf
            simp only [List.length_append, List.length_singleton]
            simp only [if_true] at hf
            omega
          · have z : decide (a = (p : Int)) = false := z
            refine .inl ⟨l, _, _, _, _, rfl, rfl, ?_⟩
            rw [show inDv (p : Int) (.int a) = false from z] at hf
            simp only [Bool.false_eq_true, if_false] at hf
            omega
        · rintro _ _ ⟨l, x3, x4, x5, x6, rfl, rfl, hl⟩
          refine ⟨l, x3, x4, x5, x6, rfl, rfl, ?_⟩
          rw [hl, List.length_map, List.length_zipIdx, List.take_length]
          rfl
      · rintro _ _ ⟨l, x3, x4, x5, x6, rfl, rfl, hl⟩
        exact ⟨Nat.le_refl _, hk l hl⟩
theorem spec_pagesfit (c : GC) (hc : Goods c) (p : Nat) (pt : Gp) (hp : c.ps[p]? = some pt) (g : Int) (hg : pt.pg = .int g) (g1 : 1 ≤ g) (g8 : g ≤ 8) (k : T → Roots → Prop) (kx : Exn → Roots → Prop) (hk : k (.dat (.bool (decide (g.toNat + nSh c (p : Int) + nDv c (p : Int) ≤ 8)))) []) :
    cPagesFit [.dat c.D, .dat (.int (p : Nat))] [] k kx := by
  unfold cPagesFit cwOf
  refine ⟨rfl, ?_⟩
  unfold wdPagesFit
  refine ⟨rfl, spec_pmap c hc p pt hp g hg g1 g8 _ _ fun l hl => ?_⟩
  have e : (decide (((l.map T.dat).length : Int) ≤ 8)) = decide (g.toNat + nSh c (p : Int) + nDv c (p : Int) ≤ 8) := by
    rw [decide_eq_decide, List.length_map, ← hl]
    omega
  simp only [toD_dats]
  show k (.dat (.bool (decide ((l.length : Int) ≤ 8)))) []
  rw [List.length_map] at e
  rw [e]
  exact hk
end K31
end

section
set_option linter.all false
set_option maxRecDepth 100000
set_option maxHeartbeats 1000000
set_option pp.deepTerms false
namespace K31
open PySem L2 Evl Wv

/-! ### the first fault -/
def firstN (f : Nat → Option D) : Nat → Option D
  | 0 => none
  | n + 1 => match firstN f n with
    | some d => some d
    | none => f n
theorem firstN_none {f : Nat → Option D} : ∀ {n : Nat}, (∀ j, j < n → f j = none) → firstN f n = none
  | 0, _ => rfl
  | n + 1, h => by
    unfold firstN
    rw [firstN_none fun j hj => h j (by omega)]
    exact h n (by omega)
theorem firstN_hit {f : Nat → Option D} {i : Nat} {d : D} (h : ∀ j, j < i → f j = none) (hi : f i = some d) : ∀ {n : Nat}, i < n → firstN f n = some d
  | 0, z => by omega
  | n + 1, z => by
    unfold firstN
    by_cases e : i = n
    · subst e
      rw [firstN_none h]
      exact hi
    · rw [firstN_hit h hi (show i < n by omega)]
theorem firstN_conv {f : Nat → Option D} : ∀ {n : Nat}, firstN f n = none → ∀ j, j < n → f j = none
  | n + 1, h, j, hj => by
    unfold firstN at h
    cases e : firstN f n with
    | some d => rw [e] at h; cases h
    | none =>
      rw [e] at h
      by_cases z : j = n
      · rw [z]; exact h
      · exact firstN_conv e j (by omega)
def optD (o : Option D) : D := match o with
  | some d => d
  | none => .non
def chk (kd : String) (n lo hi : Int) : Option D := if lo ≤ n ∧ n ≤ hi then none else some (.tup [.str kd, .int n])
def cntF (c : GC) : Nat → Option D
  | 0 => chk "partitions" (c.ps.length : Int) 1 8
  | 1 => chk "frames" (c.fr.length : Int) 1 16
  | 2 => chk "channels" (c.ch.length : Int) 0 12
  | 3 => chk "shares" (c.sh.length : Int) 0 6
  | 4 => chk "devices" (c.dv.length : Int) 0 6
  | 5 => chk "flows" (c.fl.length : Int) 0 64
  | _ => none
def countF (c : GC) : Option D := firstN (cntF c) 6
theorem spec_count (c : GC) (k : T → Roots → Prop) (kx : Exn → Roots → Prop) (hk : k (.dat (optD (countF c))) []) : cCountFault [.dat c.D] [] k kx := by
  unfold cCountFault cwOf
  refine ⟨rfl, ?_⟩
  unfold wdCountFault
  have hp : ((c.ps.map gpD).length : Int) = (c.ps.length : Int) := by rw [List.length_map]
  have st : ∀ (kd : String) (n lo hi : Int) (i : Nat), i < 6 → (∀ j, j < i → cntF c j = none) → cntF c i = chk kd n lo hi → ∃ b, (decide (lo ≤ n) && decide (n ≤ hi)) = b ∧ (b = false → k (.dat (.tup [.str kd, .int n])) []) ∧ (b = true → ∀ j, j < i + 1 → cntF c j = none) := by
    intro kd n lo hi i hi6 hj hi
    unfold chk at hi
    refine ⟨_, rfl, fun z => ?_, fun z => ?_⟩
    · rw [if_neg (by rintro ⟨a, b⟩; rw [decide_eq_true a, decide_eq_true b] at z; cases z)] at hi
      have : countF c = some (.tup [.str kd, .int n]) := firstN_hit hj hi hi6
      rw [this] at hk
      exact hk
    · rw [Bool.and_eq_true, decide_eq_true_eq, decide_eq_true_eq] at z
      rw [if_pos z] at hi
      intro j hj6
      by_cases e : j = i
      · rw [e]; exact hi
      · exact hj j (by omega)
  have q : 4 ≤ 1000 := by decide
  refine ⟨q, q, q, q, q, q, by show 6 ≤ 1000; decide, fun sl rt => ∀ j, j < 6 → cntF c j = none, ⟨fun i sl rt => (∃ x2 x3 x4 x5, sl = [some (.dat c.D), some (.dat (.tup [.tup [.str "partitions", .int ((c.ps.map gpD).length : Int), .int 1, .int 8], .tup [.str "frames", .int (c.fr.length : Int), .int 1, .int 16], .tup [.str "channels", .int (c.ch.length : Int), .int 0, .int 12], .tup [.str "shares", .int (c.sh.length : Int), .int 0, .int 6], .tup [.str "devices", .int (c.dv.length : Int), .int 0, .int 6], .tup [.str "flows", .int (c.fl.length : Int), .int 0, .int 64]])), x2, x3, x4, x5]) ∧ rt = [] ∧ ∀ j, j < i → cntF c j = none, ⟨⟨none, none, none, none, rfl⟩, rfl, fun _ z => (nomatch z)⟩, ?_, ?_⟩, ?_⟩
  · rintro i d _ _ hd ⟨⟨x2, x3, x4, x5, rfl⟩, rfl, hj⟩
    have fin : ∀ (kd : String) (n lo hi : Int), i < 6 → d = .tup [.str kd, .int n, .int lo, .int hi] → cntF c i = chk kd n lo hi → _ := fun kd n lo hi hi6 e1 e2 => st kd n lo hi i hi6 hj e2
    have hi6 : i < 6 := (List.getElem?_eq_some_iff.mp hd).1
    have go : ∃ (kd : String) (n lo hi : Int), d = .tup [.str kd, .int n, .int lo, .int hi] ∧ cntF c i = chk kd n lo hi := by
      rcases (show i = 0 ∨ i = 1 ∨ i = 2 ∨ i = 3 ∨ i = 4 ∨ i = 5 by omega) with rfl | rfl | rfl | rfl | rfl | rfl <;> cases hd
      · exact ⟨_, _, _, _, rfl, by rw [hp]; rfl⟩
      · exact ⟨_, _, _, _, rfl, rfl⟩
      · exact ⟨_, _, _, _, rfl, rfl⟩
      · exact ⟨_, _, _, _, rfl, rfl⟩
      · exact ⟨_, _, _, _, rfl, rfl⟩
      · exact ⟨_, _, _, _, rfl, rfl⟩
    obtain ⟨kd, n, lo, hi, rfl, e2⟩ := go
    obtain ⟨b, hb, hf, ht⟩ := st kd n lo hi i hi6 hj e2
    refine ⟨rfl, _, _, rfl, fun _ => ⟨rfl, rfl⟩, fun z => ?_, fun z => ?_⟩
    · have z : (!(decide (lo ≤ n) && decide (n ≤ hi))) = true := z
      rw [hb] at z
      exact ⟨by show 2 ≤ 1000; decide, hf (by simpa using z)⟩
    · have z : (!(decide (lo ≤ n) && decide (n ≤ hi))) = false := z
      rw [hb] at z
      exact .inl ⟨⟨_, _, _, _, rfl⟩, rfl, ht (by simpa using z)⟩
  · rintro _ _ ⟨_, rfl, hj⟩
    exact hj
  · intro sl rt hj
    have : countF c = none := firstN_none hj
    rw [this] at hk
    exact hk
end K31
end

section
set_option linter.all false
set_option maxRecDepth 100000
set_option maxHeartbeats 1000000
set_option pp.deepTerms false
namespace K31
open PySem L2 Evl Wv

/-! ### the first thing that does not fit -/
structure GC.V (c : GC) : Prop where
  ps : ∀ p ∈ c.ps, PtV p
  fr : ∀ d ∈ c.fr, ShV d
  ch : ∀ d ∈ c.ch, ShV d
  sh : ∀ d ∈ c.sh, ShV d
  fl : ∀ d ∈ c.fl, ShV d
  dv : ∀ d ∈ c.dv, D.flat d = true
  lp : c.ps.length ≤ 1000
  ls : c.sh.length ≤ 1000
  ld : c.dv.length ≤ 1000
def badAt (kd : String) (good : D → Bool) (xs : List D) (i : Nat) : Option D := match xs[i]? with
  | some d => if good d then none else some (.tup [.str kd, .int (i : Nat)])
  | none => none
def badIn (kd : String) (good : D → Bool) (xs : List D) : Option D := firstN (badAt kd good xs) xs.length
theorem badIn_good {kd : String} {good : D → Bool} {xs : List D} (h : badIn kd good xs = none) : ∀ d ∈ xs, good d = true := by
  intro d hd
  obtain ⟨i, hi, rfl⟩ := List.mem_iff_getElem.mp hd
  have := firstN_conv h i hi
  unfold badAt at this
  rw [List.getElem?_eq_getElem hi] at this
  cases e : good xs[i] with
  | true => rfl
  | false => simp [e] at this
def partD (d : D) : Bool := match d with
  | .obj 0 [.tup im, pg, st] => goodPart ⟨im, pg, st⟩
  | _ => false
def pgOf (p : Gp) : Nat := match p.pg with
  | .int g => g.toNat
  | _ => 0
def pagesD (c : GC) (d : D) : Bool := match d with
  | .int i => match c.ps[i.toNat]? with
    | some p => decide (pgOf p + nSh c i + nDv c i ≤ 8)
    | none => false
  | _ => false
def rngD (n : Nat) : List D := (List.range n).map fun i => .int (i : Nat)
def shpF (c : GC) : Nat → Option D
  | 0 => badIn "partition" partD (c.ps.map gpD)
  | 1 => badIn "frame" (goodFrame (c.ps.length : Int)) c.fr
  | 2 => badIn "channel" (goodChan (c.ps.length : Int)) c.ch
  | 3 => badIn "share" (goodPair (c.ps.length : Int)) c.sh
  | 4 => badIn "device" (fun d => isI d 0 ((c.ps.length : Int) - 1)) c.dv
  | 5 => badIn "flow" (goodPair (c.ps.length : Int)) c.fl
  | 6 => badIn "pages" (pagesD c) (rngD c.ps.length)
  | _ => none
def shapeF (c : GC) : Option D := firstN (shpF c) 7
theorem pair_int {n : Int} {d : D} (h : goodPair n d = true) : ∃ a b, d = .tup [.int a, .int b] ∧ 0 ≤ a ∧ a ≤ n - 1 ∧ 0 ≤ b ∧ b ≤ n - 1 ∧ a ≠ b := by
  unfold goodPair at h
  split at h
  · rename_i s t
    unfold diff at h
    rw [Bool.and_eq_true, Bool.and_eq_true] at h
    obtain ⟨a, rfl, a0, a1⟩ := isI_int h.1
    obtain ⟨b, rfl, b0, b1⟩ := isI_int h.2.1
    refine ⟨a, b, rfl, a0, a1, b0, b1, fun e => ?_⟩
    have := h.2.2
    subst e
    simp [neI] at this
  · cases h
theorem goods_of {c : GC} (v : c.V) (h3 : shpF c 3 = none) (h4 : shpF c 4 = none) : Goods c :=
  ⟨fun d hd => (pair_int (badIn_good h3 d hd)).imp fun _ ⟨b, h, _⟩ => ⟨b, h⟩, fun d hd => (isI_int (badIn_good (good := fun d => isI d 0 ((c.ps.length : Int) - 1)) h4 d hd)).imp fun _ h => h.1, v.ls, v.ld⟩
theorem pg_of {c : GC} (h0 : shpF c 0 = none) {p : Nat} {pt : Gp} (hp : c.ps[p]? = some pt) : ∃ g, pt.pg = .int g ∧ 1 ≤ g ∧ g ≤ 8 ∧ pgOf pt = g.toNat := by
  have := badIn_good h0 (gpD pt) (List.mem_map_of_mem (List.mem_of_getElem? hp))
  obtain ⟨im, pg, st⟩ := pt
  have h : goodPart ⟨im, pg, st⟩ = true := this
  unfold goodPart at h
  cases pg with
  | int g =>
    have h : (isI (.int g) 1 8 && _) = true := h
    rw [Bool.and_eq_true] at h
    obtain ⟨g', e, a, b⟩ := isI_int h.1
    cases e
    exact ⟨g, rfl, a, b, rfl⟩
  | _ => cases h
theorem spec_row (c : GC) (j : Nat) (hj : j ∈ [0, 1, 2, 3, 4, 5]) (kd : String) (xs : List D) (good : D → Bool) (hspec : ∀ (i : Nat) x k kx, xs[i]? = some x → k (T.dat (.bool (good x))) [] → (ftFITTING j) [.dat c.D, .dat x] [] k kx)
    (Z : WEnds) (x1 x5 x6 : Option Val) (hf : ∀ d, badIn kd good xs = some d → Z.rt (.dat d) []) (hn : badIn kd good xs = none → ∀ x5 x6, Z.nx [some (.dat c.D), x1, some (.dat (.str kd)), some (.dat (.tup xs)), some (.dat (.fn j)), x5, x6] []) :
    wFor (wEnumT (wCons (wVar 3) wNil)) (tgTup [5, 6]) (wIf (wNotT (wB (wFrz (wCallF [0, 1, 2, 3, 4, 5] ftFITTING 4 (wCons (wVar 0) (wCons (wVar 6) wNil)))))) (wRet (wTup (wCons (wVar 2) (wCons (wVar 5) wNil)))) wNext) Z
      [some (.dat c.D), x1, some (.dat (.str kd)), some (.dat (.tup xs)), some (.dat (.fn j)), x5, x6] [] := by
  refine ⟨fun i sl rt => (∃ x5 x6, sl = [some (.dat c.D), x1, some (.dat (.str kd)), some (.dat (.tup xs)), some (.dat (.fn j)), x5, x6]) ∧ rt = [] ∧ ∀ q, q < i → badAt kd good xs q = none, ⟨⟨x5, x6, rfl⟩, rfl, fun _ z => (nomatch z)⟩, ?_, ?_⟩
  · rintro i d _ _ hd ⟨⟨x5, x6, rfl⟩, rfl, hq⟩
    rw [List.getElem?_map] at hd
    obtain ⟨⟨d, q⟩, hm, rfl⟩ := Option.map_eq_some_iff.mp hd
    rw [List.getElem?_zipIdx] at hm
    obtain ⟨d', hm2, e⟩ := Option.map_eq_some_iff.mp hm
    injection e with e1 e2
    subst e1 e2
    have hm2 : xs[i]? = some d' := hm2
    have hi := (List.getElem?_eq_some_iff.mp hm2).1
    refine ⟨rfl, hj, rfl, hspec i d' _ _ hm2 ⟨fun z => ?_, fun z => ?_⟩⟩
    · have z : (!good d') = true := z
      have e : badAt kd good xs i = some (.tup [.str kd, .int (i : Nat)]) := by
        unfold badAt
        rw [hm2]
        show (if good d' = true then none else _) = _
        rw [if_neg (by simpa using z)]
      refine ⟨by show 2 ≤ 1000; decide, ?_⟩
      have := hf _ (firstN_hit hq e hi)
      rw [show 0 + i = i from Nat.zero_add i]
      exact this
    · have z : (!good d') = false := z
      refine .inl ⟨⟨_, _, rfl⟩, rfl, fun q hq' => ?_⟩
      by_cases e : q = i
      · rw [e]
        unfold badAt
        rw [hm2]
        show (if good d' = true then none else _) = _
        rw [if_pos (by simpa using z)]
      · exact hq q (by omega)
  · rintro _ _ ⟨⟨x5, x6, rfl⟩, rfl, hq⟩
    refine hn (firstN_none fun q hq' => hq q ?_) x5 x6
    rw [List.length_map, List.length_zipIdx]
    exact hq'
theorem spec_shape (c : GC) (v : c.V) (k : T → Roots → Prop) (kx : Exn → Roots → Prop) (hk : k (.dat (optD (shapeF c))) []) : cShapeFault [.dat c.D] [] k kx := by
  unfold cShapeFault cwOf
  refine ⟨rfl, ?_⟩
  unfold wdShapeFault
  have q : 2 ≤ 1000 := by decide
  have hpl : (c.ps.map gpD).length = c.ps.length := List.length_map _
  have hit : ∀ i d, i < 7 → (∀ j, j < i → shpF c j = none) → shpF c i = some d → k (.dat d) [] := by
    intro i d hi hj e
    have : shapeF c = some d := firstN_hit hj e hi
    rw [this] at hk
    exact hk
  refine ⟨q, q, q, q, q, q, c.ps.length, by rw [hpl], v.lp, q, by show 7 ≤ 1000; decide, fun sl rt => ∀ j, j < 7 → shpF c j = none, ⟨fun i sl rt => (∃ x2 x3 x4 x5 x6, sl = [some (.dat c.D), some (.dat (.tup [.tup [.str "partition", .tup (c.ps.map gpD)], .tup [.str "frame", .tup c.fr], .tup [.str "channel", .tup c.ch], .tup [.str "share", .tup c.sh], .tup [.str "device", .tup c.dv], .tup [.str "flow", .tup c.fl], .tup [.str "pages", .tup (rngD c.ps.length)]])), x2, x3, x4, x5, x6]) ∧ rt = [] ∧ ∀ j, j < i → shpF c j = none, ⟨⟨none, none, none, none, none, rfl⟩, rfl, fun _ z => (nomatch z)⟩, ?_, ?_⟩, ?_⟩
  · rintro i d _ _ hd ⟨⟨x2, x3, x4, x5, x6, rfl⟩, rfl, hj⟩
    have hi : i < 7 := (List.getElem?_eq_some_iff.mp hd).1
    have nxt : shpF c i = none → ∀ j, j < i + 1 → shpF c j = none := fun e j hj' => by
      by_cases z : j = i
      · rw [z]; exact e
      · exact hj j (by omega)
    rcases (show i = 0 ∨ i = 1 ∨ i = 2 ∨ i = 3 ∨ i = 4 ∨ i = 5 ∨ i = 6 by omega) with rfl | rfl | rfl | rfl | rfl | rfl | rfl <;> cases hd
    · refine ⟨rfl, .fn 0, rfl, spec_row c 0 (by decide) "partition" _ partD (fun i x k kx hx h => ?_) _ _ _ _ (fun d e => hit 0 d hi hj e) (fun e x5 x6 => .inl ⟨⟨_, _, _, _, _, rfl⟩, rfl, nxt e⟩)⟩
      rw [List.getElem?_map] at hx
      obtain ⟨p, hp, rfl⟩ := Option.map_eq_some_iff.mp hx
      exact spec_partfit c.D p (v.ps p (List.mem_of_getElem? hp)) _ _ h
    · exact ⟨rfl, .fn 1, rfl, spec_row c 1 (by decide) "frame" _ (goodFrame (c.ps.length : Int)) (fun i x k kx hx h => spec_ffit c x (v.fr x (List.mem_of_getElem? hx)) _ _ h) _ _ _ _ (fun d e => hit 1 d hi hj e) (fun e x5 x6 => .inl ⟨⟨_, _, _, _, _, rfl⟩, rfl, nxt e⟩)⟩
    · exact ⟨rfl, .fn 2, rfl, spec_row c 2 (by decide) "channel" _ (goodChan (c.ps.length : Int)) (fun i x k kx hx h => spec_cfit c x (v.ch x (List.mem_of_getElem? hx)) _ _ h) _ _ _ _ (fun d e => hit 2 d hi hj e) (fun e x5 x6 => .inl ⟨⟨_, _, _, _, _, rfl⟩, rfl, nxt e⟩)⟩
    · exact ⟨rfl, .fn 3, rfl, spec_row c 3 (by decide) "share" _ (goodPair (c.ps.length : Int)) (fun i x k kx hx h => spec_pfit c x (v.sh x (List.mem_of_getElem? hx)) _ _ h) _ _ _ _ (fun d e => hit 3 d hi hj e) (fun e x5 x6 => .inl ⟨⟨_, _, _, _, _, rfl⟩, rfl, nxt e⟩)⟩
    · exact ⟨rfl, .fn 4, rfl, spec_row c 4 (by decide) "device" _ (fun d => isI d 0 ((c.ps.length : Int) - 1)) (fun i x k kx hx h => spec_dfit c x (v.dv x (List.mem_of_getElem? hx)) _ _ h) _ _ _ _ (fun d e => hit 4 d hi hj e) (fun e x5 x6 => .inl ⟨⟨_, _, _, _, _, rfl⟩, rfl, nxt e⟩)⟩
    · exact ⟨rfl, .fn 3, rfl, spec_row c 3 (by decide) "flow" _ (goodPair (c.ps.length : Int)) (fun i x k kx hx h => spec_pfit c x (v.fl x (List.mem_of_getElem? hx)) _ _ h) _ _ _ _ (fun d e => hit 5 d hi hj e) (fun e x5 x6 => .inl ⟨⟨_, _, _, _, _, rfl⟩, rfl, nxt e⟩)⟩
    · refine ⟨rfl, .fn 5, rfl, spec_row c 5 (by decide) "pages" _ (pagesD c) (fun i x k kx hx h => ?_) _ _ _ _ (fun d e => hit 6 d hi hj e) (fun e x5 x6 => .inl ⟨⟨_, _, _, _, _, rfl⟩, rfl, nxt e⟩)⟩
      have hx : ((List.range c.ps.length).map fun i => D.int (i : Nat))[i]? = some x := hx
      rw [List.getElem?_map] at hx
      obtain ⟨p, hp, rfl⟩ := Option.map_eq_some_iff.mp hx
      obtain ⟨hpi, rfl⟩ := List.getElem?_eq_some_iff.mp hp
      rw [List.getElem_range] at h ⊢
      have hpi : i < c.ps.length := by simpa using hpi
      obtain ⟨g, e1, g1, g8, e2⟩ := pg_of (hj 0 (by decide)) (List.getElem?_eq_getElem hpi)
      refine spec_pagesfit c (goods_of v (hj 3 (by decide)) (hj 4 (by decide))) i _ (List.getElem?_eq_getElem hpi) g e1 g1 g8 _ _ ?_
      unfold pagesD at h
      simp only [Int.toNat_natCast] at h
      rw [List.getElem?_eq_getElem hpi] at h
      simp only [e2] at h
      exact h
  · rintro _ _ ⟨_, rfl, hj⟩
    exact hj
  · intro sl rt hj
    have : shapeF c = none := firstN_none hj
    rw [this] at hk
    exact hk
end K31
end

section
set_option linter.all false
set_option maxRecDepth 100000
set_option maxHeartbeats 1000000
set_option pp.deepTerms false
namespace K31
open PySem L2 Evl Wv

/-! ### flows -/
theorem shaped_prT (l : List Pair) : SeqAt.shaped (.tuple (l.map prP)) = true := by
  unfold SeqAt.shaped
  rw [Bool.and_eq_true]
  refine ⟨lay_pr l, decide_eq_true ?_⟩
  have := deep_pr l
  simp only [PyData.depth]
  omega
def may (fl : List Pair) (s t : Int) : Bool := decide (s = t) || decide ((s, t) ∈ fl)
theorem in_fl (fl : List Pair) (s t : Int) (rt : Roots) (k : D → Prop) (h : k (.bool (decide ((s, t) ∈ fl)))) : sInT (.dat (.tup [.int s, .int t])) (.dat (.tup (fl.map prD))) rt k :=
  ⟨.tuple [.int s, .int t], fl.map prP, rfl, pys_pr fl, rfl, by show 1 ≤ 32; decide, shaped_prT fl, by rw [any_pr]; exact h⟩
theorem nin_fl (fl : List Pair) (s t : Int) (rt : Roots) (k : D → Prop) (h : k (.bool (!decide ((s, t) ∈ fl)))) : sNinT (.dat (.tup [.int s, .int t])) (.dat (.tup (fl.map prD))) rt k :=
  ⟨.tuple [.int s, .int t], fl.map prP, rfl, pys_pr fl, rfl, by show 1 ≤ 32; decide, shaped_prT fl, by rw [any_pr]; exact h⟩
theorem spec_may (c : GC) (fl : List Pair) (hfl : c.fl = fl.map prD) (s t : Int) (k : T → Roots → Prop) (kx : Exn → Roots → Prop) (hk : k (.dat (.bool (may fl s t))) []) : cMayFlow [.dat c.D, .dat (.int s), .dat (.int t)] [] k kx := by
  unfold cMayFlow cwOf
  refine ⟨rfl, ?_⟩
  unfold wdMayFlow
  refine ⟨decide ((s, t) ∈ fl), fun _ => ⟨by show 2 ≤ 1000; decide, ?_⟩, hk⟩
  have h := in_fl fl s t [] (fun d => Val.dat d = .dat (.bool (decide ((s, t) ∈ fl))) ∧ ([] : Roots) = []) ⟨rfl, rfl⟩
  rw [← hfl] at h
  exact h
def chF (fl : List Pair) (ch : List Ch) (i : Nat) : Option D := match ch[i]? with
  | some d => if !may fl d.1 d.2.1 then some (.tup [.str "sends", .int (i : Nat)]) else if d.2.2.2 && !may fl d.2.1 d.1 then some (.tup [.str "tells", .int (i : Nat)]) else none
  | none => none
def shF (fl : List Pair) (sh : List Pair) (i : Nat) : Option D := match sh[i]? with
  | some f => if !may fl f.1 f.2 then some (.tup [.str "shows", .int (i : Nat)]) else none
  | none => none
def flowF (ch : List Ch) (sh fl : List Pair) : Option D := match firstN (chF fl ch) ch.length with
  | some d => some d
  | none => firstN (shF fl sh) sh.length
theorem chF_tup {fl : List Pair} {ch : List Ch} {i : Nat} {d : D} (h : chF fl ch i = some d) : ∃ ds, d = .tup ds := by
  unfold chF at h
  split at h
  · split at h
    · cases h; exact ⟨_, rfl⟩
    · split at h
      · cases h; exact ⟨_, rfl⟩
      · cases h
  · cases h
theorem spec_chfault (c : GC) (ch : List Ch) (fl : List Pair) (hch : c.ch = ch.map chD) (hfl : c.fl = fl.map prD) (i : Nat) (hi : i < ch.length) (k : T → Roots → Prop) (kx : Exn → Roots → Prop) (hk : k (.dat (optD (chF fl ch i))) []) :
    cChannelFault [.dat c.D, .dat (.int (i : Nat))] [] k kx := by
  unfold cChannelFault cwOf
  refine ⟨rfl, ?_⟩
  unfold wdChannelFault
  have e0 : atI c.ch (i : Int) = some (chD ch[i]) := by
    show ((ixN c.ch.length (i : Int)).bind fun j => c.ch[j]?) = _
    rw [ixN_nat (by omega) (by rw [hch, List.length_map]; omega), Int.toNat_natCast]
    show c.ch[i]? = _
    rw [hch, List.getElem?_map, List.getElem?_eq_getElem hi]
    rfl
  unfold chF at hk
  rw [List.getElem?_eq_getElem hi] at hk
  rcases hd : ch[i] with ⟨s, t, r, b⟩
  rw [hd] at hk e0
  refine ⟨_, e0, rfl, rfl, spec_may c fl hfl s t _ _ ⟨fun z => ?_, fun z => ?_⟩⟩
  · have z : (!may fl s t) = true := z
    have hk : k (.dat (optD (if (!may fl s t) = true then some (.tup [.str "sends", .int (i : Nat)]) else _))) [] := hk
    rw [if_pos z] at hk
    exact ⟨by show 2 ≤ 1000; decide, hk⟩
  · have z : ¬ (!may fl s t) = true := by
      have z : (!may fl s t) = false := z
      simp [z]
    have hk : k (.dat (optD (if (!may fl s t) = true then some (.tup [.str "sends", .int (i : Nat)]) else if (b && !may fl t s) = true then some (.tup [.str "tells", .int (i : Nat)]) else none))) [] := hk
    rw [if_neg z] at hk
    refine ⟨!may fl t s, fun _ => ⟨rfl, spec_may c fl hfl t s _ _ ⟨rfl, rfl⟩⟩, fun y => ?_, fun y => ?_⟩
    · have y : (b && !may fl t s) = true := y
      rw [if_pos y] at hk
      exact ⟨by show 2 ≤ 1000; decide, hk⟩
    · have y : (b && !may fl t s) = false := y
      rw [y] at hk
      exact hk
theorem spec_flow (c : GC) (ch : List Ch) (sh fl : List Pair) (hch : c.ch = ch.map chD) (hsh : c.sh = sh.map prD) (hfl : c.fl = fl.map prD) (hl : ch.length ≤ 1000) (k : T → Roots → Prop) (kx : Exn → Roots → Prop) (hk : k (.dat (optD (flowF ch sh fl))) []) :
    cFlowFault [.dat c.D] [] k kx := by
  unfold cFlowFault cwOf
  refine ⟨rfl, ?_⟩
  unfold wdFlowFault
  have ecl : c.ch.length = ch.length := by rw [hch, List.length_map]
  refine ⟨fun sl rt => (∃ x1 x2 x3 x4, sl = [some (.dat c.D), x1, x2, x3, x4]) ∧ rt = [] ∧ ∀ j, j < ch.length → chF fl ch j = none, ?_, ?_⟩
  · refine ⟨by show (c.ch.length : Int) ≤ 100000; omega, by show -100000 ≤ (c.ch.length : Int); omega, fun i sl rt => (∃ x1 x2 x3 x4, sl = [some (.dat c.D), x1, x2, x3, x4]) ∧ rt = [] ∧ ∀ j, j < i → chF fl ch j = none, ⟨⟨_, _, _, _, rfl⟩, rfl, fun _ z => (nomatch z)⟩, ?_, ?_⟩
    · rintro i d _ _ hd ⟨⟨x1, x2, x3, x4, rfl⟩, rfl, hj⟩
      rw [List.getElem?_map] at hd
      obtain ⟨p, hp, rfl⟩ := Option.map_eq_some_iff.mp hd
      obtain ⟨hpi, rfl⟩ := List.getElem?_eq_some_iff.mp hp
      rw [List.getElem_range]
      have hpi : i < ch.length := by
        have : i < (c.ch.length : Int).toNat := by simpa using hpi
        omega
      refine ⟨rfl, spec_chfault c ch fl hch hfl i hpi _ _ ?_⟩
      cases e : chF fl ch i with
      | none =>
        refine ⟨fun z => (nomatch z), fun _ => .inl ⟨⟨_, _, _, _, rfl⟩, rfl, fun j hj' => ?_⟩⟩
        by_cases z : j = i
        · rw [z]; exact e
        · exact hj j (by omega)
      | some d =>
        have : flowF ch sh fl = some d := by
          unfold flowF
          rw [firstN_hit hj e hpi]
        rw [this] at hk
        obtain ⟨ds, rfl⟩ := chF_tup e
        exact ⟨fun _ => hk, fun z => (nomatch z)⟩
    · rintro _ _ ⟨⟨x1, x2, x3, x4, rfl⟩, rfl, hj⟩
      refine ⟨⟨_, _, _, _, rfl⟩, rfl, fun j hj' => hj j ?_⟩
      rw [List.length_map, List.length_range]
      show j < (c.ch.length : Int).toNat
      omega
  · rintro _ _ ⟨⟨x1, x2, x3, x4, rfl⟩, rfl, hj⟩
    have e0 : flowF ch sh fl = firstN (shF fl sh) sh.length := by
      unfold flowF
      rw [firstN_none hj]
    rw [e0] at hk
    refine ⟨fun sl rt => rt = [] ∧ ∀ j, j < sh.length → shF fl sh j = none, ?_, ?_⟩
    · refine ⟨fun i sl rt => (∃ x1 x2 x3 x4, sl = [some (.dat c.D), x1, x2, x3, x4]) ∧ rt = [] ∧ ∀ j, j < i → shF fl sh j = none, ⟨⟨_, _, _, _, rfl⟩, rfl, fun _ z => (nomatch z)⟩, ?_, ?_⟩
      · rintro i d _ _ hd ⟨⟨x1, x2, x3, x4, rfl⟩, rfl, hj⟩
        rw [List.getElem?_map] at hd
        obtain ⟨⟨d, q⟩, hm, rfl⟩ := Option.map_eq_some_iff.mp hd
        rw [List.getElem?_zipIdx] at hm
        obtain ⟨d', hm2, e⟩ := Option.map_eq_some_iff.mp hm
        injection e with e1 e2
        subst e1 e2
        have hm2 : c.sh[i]? = some d' := hm2
        rw [hsh, List.getElem?_map] at hm2
        obtain ⟨⟨a, b⟩, hab, rfl⟩ := Option.map_eq_some_iff.mp hm2
        have hi := (List.getElem?_eq_some_iff.mp hab).1
        refine ⟨rfl, rfl, spec_may c fl hfl a b _ _ ⟨fun z => ?_, fun z => ?_⟩⟩
        · have z : (!may fl a b) = true := z
          have e : shF fl sh i = some (.tup [.str "shows", .int (i : Nat)]) := by
            unfold shF
            rw [hab]
            exact if_pos z
          rw [firstN_hit hj e hi] at hk
          refine ⟨by show 2 ≤ 1000; decide, ?_⟩
          rw [show 0 + i = i from Nat.zero_add i]
          exact hk
        · have z : (!may fl a b) = false := z
          refine .inl ⟨⟨_, _, _, _, rfl⟩, rfl, fun j hj' => ?_⟩
          by_cases y : j = i
          · rw [y]
            unfold shF
            rw [hab]
            exact if_neg (by simp [z])
          · exact hj j (by omega)
      · rintro _ _ ⟨_, rfl, hj⟩
        refine ⟨rfl, fun j hj' => hj j ?_⟩
        rw [List.length_map, List.length_zipIdx]
        show j < c.sh.length
        rw [hsh, List.length_map]
        exact hj'
    · rintro _ _ ⟨rfl, hj⟩
      rw [firstN_none hj] at hk
      exact hk
end K31
end

section
set_option linter.all false
set_option maxRecDepth 100000
set_option maxHeartbeats 1000000
set_option pp.deepTerms false
namespace K31
open PySem L2 Evl Wv

/-! ### judge -/
def chOf (d : D) : Ch := match d with
  | .tup [.int a, .int b, .int r, .bool t] => (a, b, r, t)
  | _ => (0, 0, 0, false)
def prOf (d : D) : Pair := match d with
  | .tup [.int a, .int b] => (a, b)
  | _ => (0, 0)
theorem chan_of {n : Int} {d : D} (h : goodChan n d = true) : d = chD (chOf d) ∧ (chOf d).1 ≠ (chOf d).2.1 := by
  unfold goodChan at h
  split at h
  · rename_i s t r b
    unfold diff at h
    simp only [Bool.and_eq_true] at h
    obtain ⟨a, rfl, a0, a1⟩ := isI_int h.1.1
    obtain ⟨b', rfl, b0, b1⟩ := isI_int h.1.2.1
    obtain ⟨r', rfl, _⟩ := isI_int h.2.1
    have hb := h.2.2
    cases b with
    | bool b =>
      refine ⟨rfl, fun e => ?_⟩
      have e : a = b' := e
      have := h.1.2.2
      subst e
      simp [neI] at this
    | _ => cases hb
  · cases h
theorem pair_of {n : Int} {d : D} (h : goodPair n d = true) : d = prD (prOf d) ∧ (prOf d).1 ≠ (prOf d).2 := by
  obtain ⟨a, b, rfl, _, _, _, _, e⟩ := pair_int h
  exact ⟨rfl, e⟩
theorem map_of {α} (f : α → D) (g : D → α) : ∀ (l : List D), (∀ d ∈ l, d = f (g d)) → l = (l.map g).map f
  | [], _ => rfl
  | d :: l, h => by
    rw [List.map_cons, List.map_cons, ← map_of f g l fun x hx => h x (List.mem_cons_of_mem _ hx), ← h d (List.mem_cons_self ..)]
def flowG (c : GC) : Option D := flowF (c.ch.map chOf) (c.sh.map prOf) (c.fl.map prOf)
def judgeF (c : GC) : Option D := match countF c with
  | some d => some d
  | none => match shapeF c with
    | some d => some d
    | none => flowG c
theorem firstN_some {f : Nat → Option D} {d : D} : ∀ {n : Nat}, firstN f n = some d → ∃ i, i < n ∧ f i = some d
  | n + 1, h => by
    unfold firstN at h
    cases e : firstN f n with
    | some d' =>
      rw [e] at h
      cases h
      obtain ⟨i, hi, h'⟩ := firstN_some e
      exact ⟨i, by omega, h'⟩
    | none =>
      rw [e] at h
      exact ⟨n, by omega, h⟩
theorem chk_tup {kd : String} {n lo hi : Int} {d : D} (h : chk kd n lo hi = some d) : d = .tup [.str kd, .int n] := by
  unfold chk at h
  split at h
  · cases h
  · cases h; rfl
theorem countF_tup {c : GC} {d : D} (h : countF c = some d) : ∃ (s : String) (n : Int), d = .tup [.str s, .int n] := by
  obtain ⟨i, hi, h⟩ := firstN_some h
  rcases (show i = 0 ∨ i = 1 ∨ i = 2 ∨ i = 3 ∨ i = 4 ∨ i = 5 by omega) with rfl | rfl | rfl | rfl | rfl | rfl <;> exact ⟨_, _, chk_tup h⟩
theorem badIn_tup {kd : String} {good : D → Bool} {xs : List D} {d : D} (h : badIn kd good xs = some d) : ∃ n : Int, d = .tup [.str kd, .int n] := by
  obtain ⟨i, hi, h⟩ := firstN_some h
  unfold badAt at h
  split at h
  · split at h
    · cases h
    · cases h; exact ⟨_, rfl⟩
  · cases h
theorem shapeF_tup {c : GC} {d : D} (h : shapeF c = some d) : ∃ (s : String) (n : Int), d = .tup [.str s, .int n] := by
  obtain ⟨i, hi, h⟩ := firstN_some h
  rcases (show i = 0 ∨ i = 1 ∨ i = 2 ∨ i = 3 ∨ i = 4 ∨ i = 5 ∨ i = 6 by omega) with rfl | rfl | rfl | rfl | rfl | rfl | rfl <;> (obtain ⟨n, e⟩ := badIn_tup h; exact ⟨_, _, e⟩)
theorem spec_judge (c : GC) (v : c.V) (k : T → Roots → Prop) (kx : Exn → Roots → Prop) (hk : k (.dat (optD (judgeF c))) []) : cJudge [.dat c.D] [] k kx := by
  unfold cJudge cwOf
  refine ⟨rfl, ?_⟩
  unfold wdJudge
  refine ⟨rfl, spec_count c _ _ ⟨fun sl rt => sl = [some (.dat c.D), some (.dat (optD (match countF c with | some d => some d | none => shapeF c)))] ∧ rt = [], ?_, ?_⟩⟩
  · cases e : countF c with
    | some d =>
      obtain ⟨s, n, rfl⟩ := countF_tup e
      exact ⟨fun z => (nomatch z), fun _ => ⟨rfl, rfl⟩⟩
    | none => exact ⟨fun _ => ⟨rfl, spec_shape c v _ _ ⟨rfl, rfl⟩⟩, fun z => (nomatch z)⟩
  · rintro _ _ ⟨rfl, rfl⟩
    refine ⟨fun sl rt => sl = [some (.dat c.D), some (.dat (optD (judgeF c)))] ∧ rt = [], ?_, ?_⟩
    · unfold judgeF
      cases e : countF c with
      | some d =>
        obtain ⟨s, n, rfl⟩ := countF_tup e
        exact ⟨fun z => (nomatch z), fun _ => ⟨rfl, rfl⟩⟩
      | none =>
        cases e2 : shapeF c with
        | some d =>
          obtain ⟨s, n, rfl⟩ := shapeF_tup e2
          exact ⟨fun z => (nomatch z), fun _ => ⟨rfl, rfl⟩⟩
        | none =>
          have hs := firstN_conv e2
          have hc := firstN_conv e 2 (by decide)
          refine ⟨fun _ => ⟨rfl, spec_flow c (c.ch.map chOf) (c.sh.map prOf) (c.fl.map prOf) (map_of chD chOf _ fun d hd => (chan_of (badIn_good (hs 2 (by decide)) d hd)).1) (map_of prD prOf _ fun d hd => (pair_of (badIn_good (hs 3 (by decide)) d hd)).1) (map_of prD prOf _ fun d hd => (pair_of (badIn_good (hs 5 (by decide)) d hd)).1) ?_ _ _ ⟨rfl, rfl⟩⟩, fun z => (nomatch z)⟩
          rw [List.length_map]
          have hc : chk "channels" (c.ch.length : Int) 0 12 = none := hc
          unfold chk at hc
          split at hc
          · omega
          · cases hc
    · rintro _ _ ⟨rfl, rfl⟩
      exact hk
end K31
end

section
set_option linter.all false
set_option maxRecDepth 100000
set_option maxHeartbeats 1000000
set_option pp.deepTerms false
namespace K31
open PySem L2 Evl Wv

/-! ### the law's own fault -/
def fldsD (c : GC) : List D := [.tup (c.ps.map gpD), .tup c.fr, .tup c.ch, .tup c.sh, .tup c.dv, .tup c.fl]
theorem spec_cfields (c : GC) (k : T → Roots → Prop) (kx : Exn → Roots → Prop) (hk : k (.dat (.tup (fldsD c))) []) : cConfigFields [.dat c.D] [] k kx := by
  unfold cConfigFields cwOf
  refine ⟨rfl, ?_⟩
  unfold wdConfigFields
  exact ⟨by show 6 ≤ 1000; decide, hk⟩
def kindsD : List D := [.str "partition", .str "frame", .str "channel", .str "share", .str "device", .str "flow"]
theorem filter_take2 {α} (f : α → Bool) (l : List α) (i : Nat) (d : α) (h : l[i]? = some d) : (l.take (i + 1)).filter f = (l.take i).filter f ++ (if f d then [d] else []) := by
  rw [List.take_succ, h, List.filter_append]
  show _ ++ (List.filter f [d]) = _
  rw [List.filter_cons]
  cases f d <;> rfl
theorem in_pair (p a b : Int) : inV (D.v (.int p)) ([D.int a, D.int b].map D.v) = (decide (p = a) || decide (p = b)) := by
  show ((a == p) || ((b == p) || false)) = _
  rw [Bool.or_false, Bool.eq_iff_iff]
  simp only [Bool.or_eq_true, beq_iff_eq, decide_eq_true_eq]
  constructor
  · rintro (h | h)
    · exact .inl h.symm
    · exact .inr h.symm
  · rintro (h | h)
    · exact .inl h.symm
    · exact .inr h.symm
theorem atI_nat {l : List D} {i : Nat} {d : D} (h : l[i]? = some d) : atI l (i : Int) = some d := by
  show ((ixN l.length (i : Int)).bind fun j => l[j]?) = _
  have hi := (List.getElem?_eq_some_iff.mp h).1
  rw [ixN_nat (by omega) (by omega), Int.toNat_natCast]
  exact h
theorem spec_lrow (c : GC) (j : Nat) (kd : String) (xs : List D) (hkd : kindsD[j]? = some (.str kd)) (good : D → Bool) (hspec : ∀ x k kx, x ∈ xs → k (T.dat (.bool (good x))) [] → cLawGood [.dat (.str kd), .dat x, .dat (.int (c.ps.length : Int))] [] k kx) (hl : xs.length ≤ 1000)
    (Z : WEnds) (x5 x6 x7 x8 : Option Val) (hf : ∀ d, badIn kd good xs = some d → Z.rt (.dat d) []) (hn : badIn kd good xs = none → ∀ x5, Z.nx [some (.dat c.D), some (.dat (.int (c.ps.length : Int))), some (.dat (.lst kindsD)), some (.dat (.int (j : Nat))), some (.dat (.tup xs)), x5, x6, x7, x8] []) :
    wFor (wRng1 (wCons (wCB fLen (wCons (wVar 4) wNil)) wNil)) (tgName 5) (wIf (wNotT (wB (wFrz (wCall cLawGood (wCons (wIdx (wVar 2) (wVar 3)) (wCons (wIdx (wVar 4) (wVar 5)) (wCons (wVar 1) wNil))))))) (wRet (wTup (wCons (wIdx (wVar 2) (wVar 3)) (wCons (wVar 5) wNil)))) wNext) Z
      [some (.dat c.D), some (.dat (.int (c.ps.length : Int))), some (.dat (.lst kindsD)), some (.dat (.int (j : Nat))), some (.dat (.tup xs)), x5, x6, x7, x8] [] := by
  refine ⟨by omega, by omega, fun i sl rt => (∃ x5, sl = [some (.dat c.D), some (.dat (.int (c.ps.length : Int))), some (.dat (.lst kindsD)), some (.dat (.int (j : Nat))), some (.dat (.tup xs)), x5, x6, x7, x8]) ∧ rt = [] ∧ ∀ q, q < i → badAt kd good xs q = none, ⟨⟨x5, rfl⟩, rfl, fun _ z => (nomatch z)⟩, ?_, ?_⟩
  · rintro i d _ _ hd ⟨⟨x5, rfl⟩, rfl, hq⟩
    rw [List.getElem?_map] at hd
    obtain ⟨p, hp, rfl⟩ := Option.map_eq_some_iff.mp hd
    obtain ⟨hpi, rfl⟩ := List.getElem?_eq_some_iff.mp hp
    rw [List.getElem_range]
    have hi : i < xs.length := by simpa using hpi
    have hx := List.getElem?_eq_getElem hi
    refine ⟨_, atI_nat hkd, _, atI_nat hx, rfl, hspec _ _ _ (List.getElem_mem hi) ⟨fun z => ?_, fun z => ?_⟩⟩
    · have z : (!good xs[i]) = true := z
      have e : badAt kd good xs i = some (.tup [.str kd, .int (i : Nat)]) := by
        unfold badAt
        rw [hx]
        exact if_neg (by simpa using z)
      exact ⟨_, atI_nat hkd, by show 2 ≤ 1000; decide, hf _ (firstN_hit hq e hi)⟩
    · have z : (!good xs[i]) = false := z
      refine .inl ⟨⟨_, rfl⟩, rfl, fun q hq' => ?_⟩
      by_cases e : q = i
      · rw [e]
        unfold badAt
        rw [hx]
        exact if_pos (by simpa using z)
      · exact hq q (by omega)
  · rintro _ _ ⟨⟨x5, rfl⟩, rfl, hq⟩
    refine hn (firstN_none fun q hq' => hq q ?_) x5
    rw [List.length_map, List.length_range]
    show q < (xs.length : Int).toNat
    omega
structure GC.Ll (c : GC) : Prop where
  fr : c.fr.length ≤ 1000
  ch : c.ch.length ≤ 1000
  fl : c.fl.length ≤ 1000
theorem spec_lshape (c : GC) (v : c.V) (w : c.Ll) (k : T → Roots → Prop) (kx : Exn → Roots → Prop) (hk : k (.dat (optD (shapeF c))) []) : cLawShape [.dat c.D] [] k kx := by
  unfold cLawShape cwOf
  refine ⟨rfl, ?_⟩
  unfold wdLawShape
  have hpl : ((c.ps.map gpD).length : Int) = (c.ps.length : Int) := by rw [List.length_map]
  have hit : ∀ i d, i < 7 → (∀ j, j < i → shpF c j = none) → shpF c i = some d → k (.dat d) [] := by
    intro i d hi hj e
    have : shapeF c = some d := firstN_hit hj e hi
    rw [this] at hk
    exact hk
  refine ⟨by show 6 ≤ 1000; decide, fun sl rt => (∃ x3 x4 x5 x6 x7 x8, sl = [some (.dat c.D), some (.dat (.int (c.ps.length : Int))), some (.dat (.lst kindsD)), x3, x4, x5, x6, x7, x8]) ∧ rt = [] ∧ ∀ j, j < 6 → shpF c j = none, ?_, ?_⟩
  · refine ⟨by decide, by decide, fun i sl rt => (∃ x3 x4 x5 x6 x7 x8, sl = [some (.dat c.D), some (.dat (.int (c.ps.length : Int))), some (.dat (.lst kindsD)), x3, x4, x5, x6, x7, x8]) ∧ rt = [] ∧ ∀ j, j < i → shpF c j = none, ⟨⟨none, none, none, none, none, none, by rw [← hpl]; rfl⟩, rfl, fun _ z => (nomatch z)⟩, ?_, ?_⟩
    · rintro i d _ _ hd ⟨⟨x3, x4, x5, x6, x7, x8, rfl⟩, rfl, hj⟩
      rw [List.getElem?_map] at hd
      obtain ⟨p, hp, rfl⟩ := Option.map_eq_some_iff.mp hd
      obtain ⟨hpi, rfl⟩ := List.getElem?_eq_some_iff.mp hp
      rw [List.getElem_range]
      have hi : i < 6 := by simpa using hpi
      have nxt : shpF c i = none → ∀ j, j < i + 1 → shpF c j = none := fun e j hj' => by
        by_cases z : j = i
        · rw [z]; exact e
        · exact hj j (by omega)
      refine ⟨rfl, rfl, spec_cfields c _ _ ?_⟩
      rcases (show i = 0 ∨ i = 1 ∨ i = 2 ∨ i = 3 ∨ i = 4 ∨ i = 5 by omega) with rfl | rfl | rfl | rfl | rfl | rfl
      · refine ⟨_, rfl, spec_lrow c 0 "partition" _ rfl partD (fun x k kx hx h => ?_) (by rw [List.length_map]; exact v.lp) _ _ _ _ _ (fun d e => hit 0 d (by decide) hj e) (fun e x5 => .inl ⟨⟨_, _, _, _, _, _, rfl⟩, rfl, nxt e⟩)⟩
        obtain ⟨p, hp, rfl⟩ := List.mem_map.mp hx
        exact spec_lgood_part _ p (v.ps p hp) _ _ h
      · exact ⟨_, rfl, spec_lrow c 1 "frame" _ rfl (goodFrame (c.ps.length : Int)) (fun x k kx hx h => spec_lgood_frame _ x (v.fr x hx) _ _ h) w.fr _ _ _ _ _ (fun d e => hit 1 d (by decide) hj e) (fun e x5 => .inl ⟨⟨_, _, _, _, _, _, rfl⟩, rfl, nxt e⟩)⟩
      · exact ⟨_, rfl, spec_lrow c 2 "channel" _ rfl (goodChan (c.ps.length : Int)) (fun x k kx hx h => spec_lgood_chan _ x (v.ch x hx) _ _ h) w.ch _ _ _ _ _ (fun d e => hit 2 d (by decide) hj e) (fun e x5 => .inl ⟨⟨_, _, _, _, _, _, rfl⟩, rfl, nxt e⟩)⟩
      · exact ⟨_, rfl, spec_lrow c 3 "share" _ rfl (goodPair (c.ps.length : Int)) (fun x k kx hx h => spec_lgood_pair _ (.inl rfl) _ x (v.sh x hx) _ _ h) v.ls _ _ _ _ _ (fun d e => hit 3 d (by decide) hj e) (fun e x5 => .inl ⟨⟨_, _, _, _, _, _, rfl⟩, rfl, nxt e⟩)⟩
      · exact ⟨_, rfl, spec_lrow c 4 "device" _ rfl (fun d => isI d 0 ((c.ps.length : Int) - 1)) (fun x k kx hx h => spec_lgood_dev _ x (v.dv x hx) _ _ h) v.ld _ _ _ _ _ (fun d e => hit 4 d (by decide) hj e) (fun e x5 => .inl ⟨⟨_, _, _, _, _, _, rfl⟩, rfl, nxt e⟩)⟩
      · exact ⟨_, rfl, spec_lrow c 5 "flow" _ rfl (goodPair (c.ps.length : Int)) (fun x k kx hx h => spec_lgood_pair _ (.inr rfl) _ x (v.fl x hx) _ _ h) w.fl _ _ _ _ _ (fun d e => hit 5 d (by decide) hj e) (fun e x5 => .inl ⟨⟨_, _, _, _, _, _, rfl⟩, rfl, nxt e⟩)⟩
    · rintro _ _ ⟨⟨x3, x4, x5, x6, x7, x8, rfl⟩, rfl, hj⟩
      exact ⟨⟨_, _, _, _, _, _, rfl⟩, rfl, hj⟩
  · rintro _ _ ⟨⟨x3, x4, x5, x6, x7, x8, rfl⟩, rfl, hj6⟩
    have G := goods_of v (hj6 3 (by decide)) (hj6 4 (by decide))
    have e0 : shapeF c = shpF c 6 := by
      cases e : shpF c 6 with
      | some d => exact firstN_hit hj6 e (by decide)
      | none =>
        refine firstN_none fun j hj => ?_
        by_cases z : j = 6
        · rw [z]; exact e
        · exact hj6 j (by omega)
    rw [e0] at hk
    have hlp := v.lp
    refine ⟨fun sl rt => rt = [] ∧ ∀ q, q < c.ps.length → badAt "pages" (pagesD c) (rngD c.ps.length) q = none, ?_, ?_⟩
    · refine ⟨by omega, by omega, fun i sl rt => (∃ x3 x4 x5 x6 x7 x8, sl = [some (.dat c.D), some (.dat (.int (c.ps.length : Int))), some (.dat (.lst kindsD)), x3, x4, x5, x6, x7, x8]) ∧ rt = [] ∧ ∀ q, q < i → badAt "pages" (pagesD c) (rngD c.ps.length) q = none, ⟨⟨_, _, _, _, _, _, rfl⟩, rfl, fun _ z => (nomatch z)⟩, ?_, ?_⟩
      · rintro i d _ _ hd ⟨⟨x3, x4, x5, x6, x7, x8, rfl⟩, rfl, hq⟩
        rw [List.getElem?_map] at hd
        obtain ⟨p, hp, rfl⟩ := Option.map_eq_some_iff.mp hd
        obtain ⟨hpi, rfl⟩ := List.getElem?_eq_some_iff.mp hp
        rw [List.getElem_range]
        have hi : i < c.ps.length := by simpa using hpi
        have hx := List.getElem?_eq_getElem hi
        obtain ⟨g, eg, g1, g8, e2⟩ := pg_of (hj6 0 (by decide)) hx
        have hxp : (c.ps.map gpD)[i]? = some (gpD c.ps[i]) := by rw [List.getElem?_map, hx]; rfl
        obtain ⟨im, pg, st⟩ : c.ps[i] = c.ps[i] := rfl
        have hr : (rngD c.ps.length)[i]? = some (.int (i : Nat)) := by
          unfold rngD
          rw [List.getElem?_map, List.getElem?_range hi]
          rfl
        have hpg : pagesD c (.int (i : Nat)) = decide (g.toNat + nSh c (i : Int) + nDv c (i : Int) ≤ 8) := by
          unfold pagesD
          simp only [Int.toNat_natCast]
          rw [hx]
          simp only [e2]
        generalize hpt : c.ps[i] = pt at *
        obtain ⟨im, pg, st⟩ := pt
        have eg : pg = .int g := eg
        subst eg
        refine ⟨_, atI_nat hxp, ?_⟩
        refine ⟨fun m acc rt => acc = ((c.sh.take m).filter (inSh (i : Int))).map .dat ∧ rt = [], ⟨rfl, rfl⟩, ?_, ?_⟩
        · rintro m d _ _ hd ⟨rfl, rfl⟩
          have hd : c.sh[m]? = some d := hd
          obtain ⟨a, b, rfl⟩ := G.sh d (List.mem_of_getElem? hd)
          have hm := (List.getElem?_eq_some_iff.mp hd).1
          have hls := v.ls
          have hfl := List.length_filter_le (inSh (i : Int)) (c.sh.take m)
          rw [List.length_take] at hfl
          have hf := filter_take2 (inSh (i : Int)) c.sh m _ hd
          have ev : inV (D.v (.int (i : Nat))) ([D.int a, D.int b].map D.v) = inSh (i : Int) (.tup [.int a, .int b]) := in_pair _ _ _
          refine ⟨by rw [List.length_map]; omega, rfl, rfl, fun z => ?_, fun z => ?_⟩
          · have z : inV (D.v (.int (i : Nat))) ([D.int a, D.int b].map D.v) = true := z
            rw [ev] at z
            rw [z] at hf
            refine ⟨?_, rfl⟩
            rw [hf, List.map_append]
            rfl
          · have z : inV (D.v (.int (i : Nat))) ([D.int a, D.int b].map D.v) = false := z
            rw [ev] at z
            rw [z] at hf
            refine ⟨?_, rfl⟩
            rw [hf]
            simp
        · rintro _ _ ⟨rfl, rfl⟩
          rw [List.take_length]
          simp only [toD_dats]
          refine ⟨fun m acc rt => acc = ((c.dv.take m).filter (inDv (i : Int))).map .dat ∧ rt = [], ⟨rfl, rfl⟩, ?_, ?_⟩
          · rintro m d _ _ hd ⟨rfl, rfl⟩
            have hd : c.dv[m]? = some d := hd
            obtain ⟨a, rfl⟩ := G.dv d (List.mem_of_getElem? hd)
            have hm := (List.getElem?_eq_some_iff.mp hd).1
            have hls := v.ld
            have hfl := List.length_filter_le (inDv (i : Int)) (c.dv.take m)
            rw [List.length_take] at hfl
            have hf := filter_take2 (inDv (i : Int)) c.dv m _ hd
            refine ⟨by rw [List.length_map]; omega, fun z => ?_, fun z => ?_⟩
            · have z : inDv (i : Int) (.int a) = true := z
              rw [z] at hf
              refine ⟨?_, rfl⟩
              rw [hf, List.map_append]
              rfl
            · have z : inDv (i : Int) (.int a) = false := z
              rw [z] at hf
              refine ⟨?_, rfl⟩
              rw [hf]
              simp
          · rintro _ _ ⟨rfl, rfl⟩
            rw [List.take_length]
            simp only [toD_dats]
            have big : decide (8 < g + (nSh c (i : Int) : Int) + (nDv c (i : Int) : Int)) = !pagesD c (.int (i : Nat)) := by
              rw [hpg, ← decide_not, decide_eq_decide]
              omega
            refine ⟨fun z => ?_, fun z => ?_⟩
            · have z : decide (8 < g + (nSh c (i : Int) : Int) + (nDv c (i : Int) : Int)) = true := z
              rw [big] at z
              have e : badAt "pages" (pagesD c) (rngD c.ps.length) i = some (.tup [.str "pages", .int (i : Nat)]) := by
                unfold badAt
                rw [hr]
                exact if_neg (by simpa using z)
              have : shpF c 6 = some (.tup [.str "pages", .int (i : Nat)]) := firstN_hit hq e (by unfold rngD; simpa using hi)
              rw [this] at hk
              exact ⟨by show 2 ≤ 1000; decide, hk⟩
            · have z : decide (8 < g + (nSh c (i : Int) : Int) + (nDv c (i : Int) : Int)) = false := z
              rw [big] at z
              refine .inl ⟨⟨_, _, _, _, _, _, rfl⟩, rfl, fun q hq' => ?_⟩
              by_cases e : q = i
              · rw [e]
                unfold badAt
                rw [hr]
                exact if_pos (by simpa using z)
              · exact hq q (by omega)
      · rintro _ _ ⟨_, rfl, hq⟩
        refine ⟨rfl, fun q hq' => hq q ?_⟩
        rw [List.length_map, List.length_range]
        show q < (c.ps.length : Int).toNat
        omega
    · rintro _ _ ⟨rfl, hq⟩
      have : shpF c 6 = none := firstN_none fun q hq' => hq q (by unfold rngD at hq'; simpa using hq')
      rw [this] at hk
      exact hk
end K31
end

section
set_option linter.all false
set_option maxRecDepth 100000
set_option maxHeartbeats 1000000
set_option pp.deepTerms false
namespace K31
open PySem L2 Evl Wv

def wordsD : List D := [.str "partitions", .str "frames", .str "channels", .str "shares", .str "devices", .str "flows"]
def limitsD : List D := [.int 8, .int 16, .int 12, .int 6, .int 6, .int 64]
def stageF (c : GC) : Int := match countF c with
  | some _ => 0
  | none => match shapeF c with
    | some _ => 1
    | none => match flowG c with
      | some _ => 2
      | none => 3
theorem may_ne {fl : List Pair} {s t : Int} (h : s ≠ t) : may fl s t = decide ((s, t) ∈ fl) := by
  unfold may
  rw [decide_eq_false h, Bool.false_or]
theorem spec_lfault (c : GC) (v : c.V) (w : c.Ll) (k : T → Roots → Prop) (kx : Exn → Roots → Prop) (hk : k (.lst [.dat (.int (stageF c)), .dat (optD (judgeF c))]) []) : cLawFault [.dat c.D] [] k kx := by
  unfold cLawFault cwOf
  refine ⟨rfl, ?_⟩
  unfold wdLawFault
  have q2 : 2 ≤ 1000 := by decide
  have q6 : 6 ≤ 1000 := by decide
  refine ⟨q6, q6, fun sl rt => (∃ x3 x4 x5 x6 x7 x8 x9 x10, sl = [some (.dat c.D), some (.dat (.lst wordsD)), some (.dat (.lst limitsD)), x3, x4, x5, x6, x7, x8, x9, x10]) ∧ rt = [] ∧ ∀ j, j < 6 → cntF c j = none, ?_, ?_⟩
  · refine ⟨by decide, by decide, fun i sl rt => (∃ x3 x4 x5 x6 x7 x8 x9 x10, sl = [some (.dat c.D), some (.dat (.lst wordsD)), some (.dat (.lst limitsD)), x3, x4, x5, x6, x7, x8, x9, x10]) ∧ rt = [] ∧ ∀ j, j < i → cntF c j = none, ⟨⟨_, _, _, _, _, _, _, _, rfl⟩, rfl, fun _ z => (nomatch z)⟩, ?_, ?_⟩
    · rintro i d _ _ hd ⟨⟨x3, x4, x5, x6, x7, x8, x9, x10, rfl⟩, rfl, hj⟩
      rw [List.getElem?_map] at hd
      obtain ⟨p, hp, rfl⟩ := Option.map_eq_some_iff.mp hd
      obtain ⟨hpi, rfl⟩ := List.getElem?_eq_some_iff.mp hp
      rw [List.getElem_range]
      have hi : i < 6 := by simpa using hpi
      have st : ∃ (xs : List D) (kd : String) (lo hi : Int), (fldsD c)[i]? = some (.tup xs) ∧ wordsD[i]? = some (.str kd) ∧ limitsD[i]? = some (.int hi) ∧ cntF c i = chk kd (xs.length : Int) lo hi ∧ (lo = if i < 2 then 1 else 0) := by
        rcases (show i = 0 ∨ i = 1 ∨ i = 2 ∨ i = 3 ∨ i = 4 ∨ i = 5 by omega) with rfl | rfl | rfl | rfl | rfl | rfl
        · exact ⟨_, _, 1, 8, rfl, rfl, rfl, by rw [List.length_map]; rfl, rfl⟩
        · exact ⟨_, _, 1, 16, rfl, rfl, rfl, rfl, rfl⟩
        · exact ⟨_, _, 0, 12, rfl, rfl, rfl, rfl, rfl⟩
        · exact ⟨_, _, 0, 6, rfl, rfl, rfl, rfl, rfl⟩
        · exact ⟨_, _, 0, 6, rfl, rfl, rfl, rfl, rfl⟩
        · exact ⟨_, _, 0, 64, rfl, rfl, rfl, rfl, rfl⟩
      obtain ⟨xs, kd, lo, hi', e1, e2, e3, e4, e5⟩ := st
      have key : (decide (hi' < (xs.length : Int)) || (decide ((i : Int) < 2) && decide ((xs.length : Int) = 0))) = !decide (lo ≤ (xs.length : Int) ∧ (xs.length : Int) ≤ hi') := by
        rw [Bool.eq_iff_iff]
        simp only [Bool.or_eq_true, Bool.and_eq_true, decide_eq_true_eq, Bool.not_eq_true', decide_eq_false_iff_not]
        split at e5 <;> omega
      refine ⟨rfl, rfl, spec_cfields c _ _ ?_⟩
      refine ⟨_, atI_nat e1, .int hi', atI_nat e3, (decide ((i : Int) < 2) && decide ((xs.length : Int) = 0)), fun _ => ⟨decide ((xs.length : Int) = 0), fun _ => ⟨rfl, rfl⟩, rfl, rfl⟩, fun z => ?_, fun z => ?_⟩
      · have z : (decide (hi' < (xs.length : Int)) || (decide ((i : Int) < 2) && decide ((xs.length : Int) = 0))) = true := z
        rw [key] at z
        unfold chk at e4
        rw [if_neg (by intro h; rw [decide_eq_true h] at z; cases z)] at e4
        have e : countF c = some (.tup [.str kd, .int (xs.length : Int)]) := firstN_hit hj e4 hi
        unfold stageF judgeF at hk
        rw [e] at hk
        exact ⟨_, atI_nat e2, q2, q2, hk⟩
      · have z : (decide (hi' < (xs.length : Int)) || (decide ((i : Int) < 2) && decide ((xs.length : Int) = 0))) = false := z
        rw [key] at z
        unfold chk at e4
        rw [if_pos (by simpa using z)] at e4
        refine .inl ⟨⟨_, _, _, _, _, _, _, _, rfl⟩, rfl, fun j hj' => ?_⟩
        by_cases y : j = i
        · rw [y]; exact e4
        · exact hj j (by omega)
    · rintro _ _ ⟨⟨x3, x4, x5, x6, x7, x8, x9, x10, rfl⟩, rfl, hj⟩
      exact ⟨⟨_, _, _, _, _, _, _, _, rfl⟩, rfl, hj⟩
  · rintro _ _ ⟨⟨x3, x4, x5, x6, x7, x8, x9, x10, rfl⟩, rfl, hj⟩
    have e0 : countF c = none := firstN_none hj
    unfold stageF judgeF at hk
    rw [e0] at hk
    refine ⟨rfl, spec_lshape c v w _ _ ?_⟩
    cases e1 : shapeF c with
    | some d =>
      rw [e1] at hk
      obtain ⟨s, n, rfl⟩ := shapeF_tup e1
      exact ⟨fun _ => ⟨q2, hk⟩, fun z => (nomatch z)⟩
    | none =>
      rw [e1] at hk
      refine ⟨fun z => (nomatch z), fun _ => ?_⟩
      have hs := firstN_conv e1
      have hC : ∀ d ∈ c.ch, goodChan (c.ps.length : Int) d = true := badIn_good (hs 2 (by decide))
      have hS : ∀ d ∈ c.sh, goodPair (c.ps.length : Int) d = true := badIn_good (hs 3 (by decide))
      have hF : ∀ d ∈ c.fl, goodPair (c.ps.length : Int) d = true := badIn_good (hs 5 (by decide))
      have ech := map_of chD chOf _ fun d hd => (chan_of (hC d hd)).1
      have esh := map_of prD prOf _ fun d hd => (pair_of (hS d hd)).1
      have efl := map_of prD prOf _ fun d hd => (pair_of (hF d hd)).1
      have nch : ∀ d ∈ c.ch.map chOf, d.1 ≠ d.2.1 := fun d hd => by
        obtain ⟨x, hx, rfl⟩ := List.mem_map.mp hd
        exact (chan_of (hC x hx)).2
      have nsh : ∀ d ∈ c.sh.map prOf, d.1 ≠ d.2 := fun d hd => by
        obtain ⟨x, hx, rfl⟩ := List.mem_map.mp hd
        exact (pair_of (hS x hx)).2
      unfold flowG at hk
      have lch := w.ch
      have lsh := v.ls
      generalize hch : c.ch.map chOf = ch at *
      generalize hsh : c.sh.map prOf = sh at *
      generalize hfl : c.fl.map prOf = fl at *
      have hpys : D.pys c.fl = some (fl.map prP) := by rw [efl]; exact pys_pr fl
      have q32 : 1 ≤ 32 := by decide
      have ecl : c.ch.length = ch.length := by rw [ech, List.length_map]
      have esl : c.sh.length = sh.length := by rw [esh, List.length_map]
      refine ⟨fun sl rt => (∃ x3 x4 x5 x6 x7 x8 x9 x10, sl = [some (.dat c.D), some (.dat (.lst wordsD)), some (.dat (.lst limitsD)), x3, x4, x5, x6, x7, x8, x9, x10]) ∧ rt = [] ∧ ∀ j, j < ch.length → chF fl ch j = none, ?_, ?_⟩
      · refine ⟨by show (c.ch.length : Int) ≤ 100000; omega, by show -100000 ≤ (c.ch.length : Int); omega, fun i sl rt => (∃ x3 x4 x5 x6 x7 x8 x9 x10, sl = [some (.dat c.D), some (.dat (.lst wordsD)), some (.dat (.lst limitsD)), x3, x4, x5, x6, x7, x8, x9, x10]) ∧ rt = [] ∧ ∀ j, j < i → chF fl ch j = none, ⟨⟨_, _, _, _, _, _, _, _, rfl⟩, rfl, fun _ z => (nomatch z)⟩, ?_, ?_⟩
        · rintro i d _ _ hd ⟨⟨x3, x4, x5, x6, x7, x8, x9, x10, rfl⟩, rfl, hj⟩
          rw [List.getElem?_map] at hd
          obtain ⟨p, hp, rfl⟩ := Option.map_eq_some_iff.mp hd
          obtain ⟨hpi, rfl⟩ := List.getElem?_eq_some_iff.mp hp
          rw [List.getElem_range]
          have hi : i < ch.length := by
            have : i < (c.ch.length : Int).toNat := by simpa using hpi
            omega
          have hx : c.ch[i]? = some (chD ch[i]) := by
            rw [ech, List.getElem?_map, List.getElem?_eq_getElem hi]
            rfl
          have hne := nch ch[i] (List.getElem_mem hi)
          have hcf : chF fl ch i = if !may fl ch[i].1 ch[i].2.1 then some (.tup [.str "sends", .int (i : Nat)]) else if ch[i].2.2.2 && !may fl ch[i].2.1 ch[i].1 then some (.tup [.str "tells", .int (i : Nat)]) else none := by
            unfold chF
            rw [List.getElem?_eq_getElem hi]
          rcases hd : ch[i] with ⟨s, t, r, b⟩
          rw [hd] at hx hne hcf
          have hne : s ≠ t := hne
          simp only [may_ne hne, may_ne (Ne.symm hne)] at hcf
          have hit : ∀ d, chF fl ch i = some d → k (.lst [.dat (.int 2), .dat d]) [] := fun d e => by
            have : flowF ch sh fl = some d := by
              unfold flowF
              rw [firstN_hit hj e hi]
            rw [this] at hk
            exact hk
          refine ⟨_, atI_nat hx, rfl, q2, ?_⟩
          refine ⟨.tuple [.int s, .int t], fl.map prP, rfl, hpys, rfl, q32, shaped_prT fl, fun z => ?_, fun z => ?_⟩
          · have z : (!((fl.map prP).any fun z => PyData.eqv z (.tuple [.int s, .int t]))) = true := z
            rw [any_pr] at z
            rw [if_pos z] at hcf
            exact ⟨q2, q2, hit _ hcf⟩
          · have z : (!((fl.map prP).any fun z => PyData.eqv z (.tuple [.int s, .int t]))) = false := z
            rw [any_pr] at z
            rw [if_neg (by simp [z])] at hcf
            refine ⟨!decide ((t, s) ∈ fl), fun _ => ⟨q2, .tuple [.int t, .int s], fl.map prP, rfl, hpys, rfl, q32, shaped_prT fl, by rw [any_pr], rfl⟩, fun y => ?_, fun y => ?_⟩
            · have y : (b && !decide ((t, s) ∈ fl)) = true := y
              rw [if_pos y] at hcf
              exact ⟨q2, q2, hit _ hcf⟩
            · have y : (b && !decide ((t, s) ∈ fl)) = false := y
              rw [if_neg (by simp [y])] at hcf
              refine .inl ⟨⟨_, _, _, _, _, _, _, _, rfl⟩, rfl, fun j hj' => ?_⟩
              by_cases x : j = i
              · rw [x]; exact hcf
              · exact hj j (by omega)
        · rintro _ _ ⟨⟨x3, x4, x5, x6, x7, x8, x9, x10, rfl⟩, rfl, hj⟩
          refine ⟨⟨_, _, _, _, _, _, _, _, rfl⟩, rfl, fun j hj' => hj j ?_⟩
          rw [List.length_map, List.length_range]
          show j < (c.ch.length : Int).toNat
          omega
      · rintro _ _ ⟨⟨x3, x4, x5, x6, x7, x8, x9, x10, rfl⟩, rfl, hj⟩
        have e0 : flowF ch sh fl = firstN (shF fl sh) sh.length := by
          unfold flowF
          rw [firstN_none hj]
        rw [e0] at hk
        refine ⟨fun sl rt => rt = [] ∧ ∀ j, j < sh.length → shF fl sh j = none, ?_, ?_⟩
        · refine ⟨by show (c.sh.length : Int) ≤ 100000; omega, by show -100000 ≤ (c.sh.length : Int); omega, fun i sl rt => (∃ x3 x4 x5 x6 x7 x8 x9 x10, sl = [some (.dat c.D), some (.dat (.lst wordsD)), some (.dat (.lst limitsD)), x3, x4, x5, x6, x7, x8, x9, x10]) ∧ rt = [] ∧ ∀ j, j < i → shF fl sh j = none, ⟨⟨_, _, _, _, _, _, _, _, rfl⟩, rfl, fun _ z => (nomatch z)⟩, ?_, ?_⟩
          · rintro i d _ _ hd ⟨⟨x3, x4, x5, x6, x7, x8, x9, x10, rfl⟩, rfl, hj⟩
            rw [List.getElem?_map] at hd
            obtain ⟨p, hp, rfl⟩ := Option.map_eq_some_iff.mp hd
            obtain ⟨hpi, rfl⟩ := List.getElem?_eq_some_iff.mp hp
            rw [List.getElem_range]
            have hi : i < sh.length := by
              have : i < (c.sh.length : Int).toNat := by simpa using hpi
              omega
            have hx : c.sh[i]? = some (prD sh[i]) := by
              rw [esh, List.getElem?_map, List.getElem?_eq_getElem hi]
              rfl
            have hne := nsh sh[i] (List.getElem_mem hi)
            have hcf : shF fl sh i = if !may fl sh[i].1 sh[i].2 then some (.tup [.str "shows", .int (i : Nat)]) else none := by
              unfold shF
              rw [List.getElem?_eq_getElem hi]
            rcases hd : sh[i] with ⟨s, t⟩
            rw [hd] at hx hne hcf
            have hne : s ≠ t := hne
            simp only [may_ne hne] at hcf
            refine ⟨_, atI_nat hx, .tuple [.int s, .int t], fl.map prP, rfl, hpys, rfl, q32, shaped_prT fl, fun z => ?_, fun z => ?_⟩
            · have z : (!((fl.map prP).any fun z => PyData.eqv z (.tuple [.int s, .int t]))) = true := z
              rw [any_pr] at z
              rw [if_pos z] at hcf
              rw [firstN_hit hj hcf hi] at hk
              exact ⟨q2, q2, hk⟩
            · have z : (!((fl.map prP).any fun z => PyData.eqv z (.tuple [.int s, .int t]))) = false := z
              rw [any_pr] at z
              rw [if_neg (by simp [z])] at hcf
              refine .inl ⟨⟨_, _, _, _, _, _, _, _, rfl⟩, rfl, fun j hj' => ?_⟩
              by_cases x : j = i
              · rw [x]; exact hcf
              · exact hj j (by omega)
          · rintro _ _ ⟨_, rfl, hj⟩
            refine ⟨rfl, fun j hj' => hj j ?_⟩
            rw [List.length_map, List.length_range]
            show j < (c.sh.length : Int).toNat
            omega
        · rintro _ _ ⟨rfl, hj⟩
          rw [firstN_none hj] at hk
          exact ⟨q2, hk⟩
end K31
end

section
set_option linter.all false
set_option maxRecDepth 100000
set_option maxHeartbeats 1000000
set_option pp.deepTerms false
namespace K31
open PySem L2 Evl Wv

/-! ### six lists that change -/
abbrev cstT (a : Addr) : T := .dat (.cst (.ref a))
structure Ls (as : List Addr) (rs : List Nat) (rest : Roots) (L : List (List D)) : Prop where
  la : as.length = 6
  lr : rs.length = 6
  lL : L.length = 6
  nd : ∀ (i j r : Nat), rs[i]? = some r → rs[j]? = some r → i = j
  at_ : ∀ (q : Nat) a r l, as[q]? = some a → rs[q]? = some r → L[q]? = some l → rest[r]? = some (.nm a (dT l))
theorem Ls.get {as : List Addr} {rs : List Nat} {rest : Roots} {L : List (List D)} (h : Ls as rs rest L) {q : Nat} {l : List D} (hl : L[q]? = some l) : ∃ a r, as[q]? = some a ∧ rs[q]? = some r ∧ rest[r]? = some (.nm a (dT l)) := by
  have hq := (List.getElem?_eq_some_iff.mp hl).1
  have h1 : q < as.length := by rw [h.la, ← h.lL]; exact hq
  have h2 : q < rs.length := by rw [h.lr, ← h.lL]; exact hq
  exact ⟨as[q], rs[q], List.getElem?_eq_getElem h1, List.getElem?_eq_getElem h2, h.at_ q _ _ _ (List.getElem?_eq_getElem h1) (List.getElem?_eq_getElem h2) hl⟩
theorem mod_at {α} (l : List α) (i j : Nat) (f : α → α) : (l.modify i f)[j]? = if i = j then (l[j]?).map f else l[j]? := by
  rw [List.getElem?_modify]
  split <;> simp_all
theorem Ls.put {as : List Addr} {rs : List Nat} {rest : Roots} {L : List (List D)} (h : Ls as rs rest L) {q r : Nat} (hr : rs[q]? = some r) (l' : List D) : Ls as rs (rest.modify r (T.put (.lst (l'.map .dat)) [])) (L.set q l') := by
  refine ⟨h.la, h.lr, by rw [List.length_set]; exact h.lL, h.nd, fun p a r' l h1 h2 h3 => ?_⟩
  rw [mod_at]
  rw [List.getElem?_set] at h3
  by_cases e : q = p
  · subst e
    rw [hr] at h2
    cases h2
    rw [if_pos rfl] at h3 ⊢
    have hq : q < L.length := by rw [h.lL, ← h.lr]; exact (List.getElem?_eq_some_iff.mp hr).1
    rw [if_pos hq] at h3
    cases h3
    rw [h.at_ q a r _ h1 hr (List.getElem?_eq_getElem hq)]
    rfl
  · rw [if_neg e] at h3
    rw [if_neg fun z => e (h.nd q p r hr (by rw [z]; exact h2))]
    exact h.at_ p a r' l h1 h2 h3
theorem Ls.fresh {as : List Addr} {rs : List Nat} {rest : Roots} {L : List (List D)} (h : Ls as rs rest L) (q : Nat) (a' : Addr) (l' : List D) : Ls (as.set q a') (rs.set q rest.length) (rest ++ [.nm a' (dT l')]) (L.set q l') := by
  have lt : ∀ (p r : Nat), rs[p]? = some r → r < rest.length := fun p r hp => by
    have hpl := (List.getElem?_eq_some_iff.mp hp).1
    have h1 : p < as.length := by rw [h.la, ← h.lr]; exact hpl
    have h2 : p < L.length := by rw [h.lL, ← h.lr]; exact hpl
    exact (List.getElem?_eq_some_iff.mp (h.at_ p _ r _ (List.getElem?_eq_getElem h1) hp (List.getElem?_eq_getElem h2))).1
  refine ⟨by rw [List.length_set]; exact h.la, by rw [List.length_set]; exact h.lr, by rw [List.length_set]; exact h.lL, fun i j r hi hj => ?_, fun p a r l h1 h2 h3 => ?_⟩
  · rw [List.getElem?_set] at hi hj
    split at hi
    · split at hi
      · cases hi
        split at hj
        · omega
        · have := lt j _ hj
          omega
      · cases hi
    · split at hj
      · split at hj
        · cases hj
          have := lt i _ hi
          omega
        · cases hj
      · exact h.nd i j r hi hj
  · rw [List.getElem?_set] at h1 h2 h3
    by_cases e : q = p
    · subst e
      rw [if_pos rfl] at h1 h2 h3
      split at h1
      · split at h2
        · split at h3
          · cases h1; cases h2; cases h3
            rw [List.getElem?_append_right (Nat.le_refl _), Nat.sub_self]
            rfl
          · cases h3
        · cases h2
      · cases h1
    · rw [if_neg e] at h1 h2 h3
      rw [List.getElem?_append_left (lt p r h2)]
      exact h.at_ p a r l h1 h2 h3
theorem tat_rest {s x : T} {rest : Roots} {r : Nat} {a : Addr} {l : List D} (h : rest[r]? = some (.nm a (dT l))) : tat (s :: x :: rest) (r + 2) [] = some (.lst (l.map .dat)) := by
  unfold tat tatN
  show Option.map T.strip ((rest[r]?).bind (T.at [])) = _
  rw [h]
  rfl
def lstCase (o : Option T) (P : List T → Prop) : Prop := match o with
  | some (.lst ts) => P ts
  | _ => False
theorem mt {o : Option T} {ts : List T} {P : List T → Prop} (e : o = some (.lst ts)) (h : P ts) : lstCase o P := by
  subst e
  exact h
theorem ixq {as : List Addr} {q : Nat} {a : Addr} (h : as[q]? = some a) : ixN (as.map cstT).length (q : Int) = some q := by
  have := (List.getElem?_eq_some_iff.mp h).1
  rw [ixN_nat (by omega) (by rw [List.length_map]; omega), Int.toNat_natCast]
theorem atq {as : List Addr} {q : Nat} {a : Addr} (h : as[q]? = some a) : (as.map cstT)[q]? = some (cstT a) := by
  rw [List.getElem?_map, h]
  rfl
/-! ### bounds -/
def fs (d : D) : Bool := match d with
  | .non => true
  | .bool _ => true
  | .int i => decide (i.natAbs < 2 ^ 32)
  | .str s => decide (s = Str.ofString "a")
  | _ => false
def ShB (d : D) : Prop := fs d = true ∨ ∃ ds, d = .tup ds ∧ ds.all fs = true ∧ ds.length ≤ 4
structure PB (p : Gp) : Prop where
  im : p.im.all fs = true
  len : p.im.length ≤ 48
  pg : fs p.pg = true
  st : fs p.st = true
structure GOk (c : GC) (m : Nat) : Prop where
  ps : ∀ p ∈ c.ps, PB p
  fr : ∀ d ∈ c.fr, ShB d
  ch : ∀ d ∈ c.ch, ShB d
  sh : ∀ d ∈ c.sh, ShB d
  fl : ∀ d ∈ c.fl, ShB d
  dv : ∀ d ∈ c.dv, fs d = true
  lps : c.ps.length ≤ m
  lfr : c.fr.length ≤ m
  lch : c.ch.length ≤ m
  lsh : c.sh.length ≤ m
  ldv : c.dv.length ≤ m
  lfl : c.fl.length ≤ m
def fldsL (c : GC) : List (List D) := [c.ps.map gpD, c.fr, c.ch, c.sh, c.dv, c.fl]
theorem fs_flat {d : D} (h : fs d = true) : D.flat d = true := by
  cases d <;> first | rfl | cases h
theorem all_flat {ds : List D} (h : ds.all fs = true) : ds.all D.flat = true := List.all_eq_true.mpr fun d hd => fs_flat (List.all_eq_true.mp h d hd)
theorem ShB.v {d : D} (h : ShB d) : ShV d := by
  rcases h with h | ⟨ds, e, h, _⟩
  · exact .inl (fs_flat h)
  · exact .inr ⟨ds, e, all_flat h⟩
theorem PB.v {p : Gp} (h : PB p) : PtV p := ⟨all_flat h.im, fs_flat h.pg, fs_flat h.st, Nat.le_trans h.len (by decide)⟩
theorem GOk.v {c : GC} {m : Nat} (h : GOk c m) (hm : m ≤ 1000) : c.V := ⟨fun p hp => (h.ps p hp).v, fun d hd => (h.fr d hd).v, fun d hd => (h.ch d hd).v, fun d hd => (h.sh d hd).v, fun d hd => (h.fl d hd).v, fun d hd => fs_flat (h.dv d hd), Nat.le_trans h.lps hm, Nat.le_trans h.lsh hm, Nat.le_trans h.ldv hm⟩
theorem GOk.l {c : GC} {m : Nat} (h : GOk c m) (hm : m ≤ 1000) : c.Ll := ⟨Nat.le_trans h.lfr hm, Nat.le_trans h.lch hm, Nat.le_trans h.lfl hm⟩
theorem GOk.mono {c : GC} {m n : Nat} (h : GOk c m) (hm : m ≤ n) : GOk c n := ⟨h.ps, h.fr, h.ch, h.sh, h.fl, h.dv, Nat.le_trans h.lps hm, Nat.le_trans h.lfr hm, Nat.le_trans h.lch hm, Nat.le_trans h.lsh hm, Nat.le_trans h.ldv hm, Nat.le_trans h.lfl hm⟩
theorem pick_in {l : List D} {d : Int} (h0 : 0 ≤ d) (h1 : d < (l.length : Int)) : ∃ x, atI l d = some x ∧ x ∈ l := by
  have hl : d.toNat < l.length := by omega
  refine ⟨l[d.toNat], ?_, List.getElem_mem hl⟩
  show ((ixN l.length d).bind fun j => l[j]?) = _
  rw [ixN_nat h0 h1]
  exact List.getElem?_eq_getElem hl
theorem fs_int {i : Int} (h0 : -100000 ≤ i) (h1 : i ≤ 100000) : fs (.int i) = true := by
  show decide (i.natAbs < 2 ^ 32) = true
  rw [decide_eq_true_eq]
  have : i.natAbs ≤ 100000 := by omega
  exact Nat.lt_of_le_of_lt this (by decide)
theorem spec_odd (i j : Int) (cs : List Int) (n : Int) (h0 : 0 ≤ n) (h1 : n ≤ 1000) (k : T → Roots → Prop) (kx : Exn → Roots → Prop) (hk : ∀ d i' j', fs d = true → k (.dat d) [dst2 i' j']) : cLawOdd [.ref 0 [], .dat (.ro (dints cs)), .dat (.int n)] [dst2 i j] k kx := by
  unfold cLawOdd cwOf
  refine ⟨rfl, ?_⟩
  unfold wdLawOdd
  refine ⟨by show 13 ≤ 1000; decide, rfl, spec_draw _ _ cs 13 (by decide) (by decide) _ _ fun d i j d0 d1 => ?_⟩
  obtain ⟨x, hx, hm⟩ := pick_in (l := [.int 0, .int 1, .int (n - 1), .int n, .int (0 - 1), .non, .bool true, .str "a", .int 9, .int 127, .int 128, .int 4000, .int 4001]) d0 d1
  refine ⟨x, hx, hk x i j ?_⟩
  have A : [D.int 0, .int 1, .int (n - 1), .int n, .int (0 - 1), .non, .bool true, .str "a", .int 9, .int 127, .int 128, .int 4000, .int 4001].all fs = true := by
    simp only [List.all_cons, List.all_nil, Bool.and_true, Bool.and_eq_true]
    refine ⟨rfl, rfl, fs_int (by omega) (by omega), fs_int (by omega) (by omega), rfl, rfl, rfl, by decide +kernel, rfl, rfl, rfl, rfl, rfl⟩
  exact List.all_eq_true.mp A x hm
end K31
end

section
set_option linter.all false
set_option maxRecDepth 100000
set_option maxHeartbeats 1000000
set_option pp.deepTerms false
namespace K31
open PySem L2 Evl Wv

/-! ### one change -/
theorem sub_map {l' : List D} {ps : List Gp} : (∀ x ∈ l', x ∈ ps.map gpD) → ∃ ps' : List Gp, l' = ps'.map gpD ∧ ∀ p ∈ ps', p ∈ ps := by
  induction l' with
  | nil => exact fun _ => ⟨[], rfl, fun _ z => (nomatch z)⟩
  | cons x l' ih =>
    intro h
    obtain ⟨ps', e, h'⟩ := ih fun y hy => h y (List.mem_cons_of_mem _ hy)
    obtain ⟨p, hp, rfl⟩ := List.mem_map.mp (h x (List.mem_cons_self ..))
    refine ⟨p :: ps', by rw [e]; rfl, fun q hq => ?_⟩
    rcases List.mem_cons.mp hq with z | z
    · rw [z]; exact hp
    · exact h' q z
/-- one list gets some of its own items -/
theorem GOk.sub {c : GC} {M M' : Nat} (h : GOk c M) (hM : M ≤ M') {q : Nat} {l l' : List D} (hq : (fldsL c)[q]? = some l) (hs : ∀ x ∈ l', x ∈ l) (hl : l'.length ≤ M') : ∃ c', GOk c' M' ∧ fldsL c' = (fldsL c).set q l' ∧ (l.length ≤ l'.length → c.ps.length ≤ c'.ps.length) := by
  have h := h.mono hM
  have hq6 : q < 6 := (List.getElem?_eq_some_iff.mp hq).1
  rcases (show q = 0 ∨ q = 1 ∨ q = 2 ∨ q = 3 ∨ q = 4 ∨ q = 5 by omega) with rfl | rfl | rfl | rfl | rfl | rfl <;> cases hq
  · obtain ⟨ps', rfl, hp⟩ := sub_map hs
    refine ⟨{ c with ps := ps' }, ⟨fun p z => h.ps p (hp p z), h.fr, h.ch, h.sh, h.fl, h.dv, ?_, h.lfr, h.lch, h.lsh, h.ldv, h.lfl⟩, rfl, fun z => ?_⟩
    · rw [List.length_map] at hl; exact hl
    · simpa using z
  · exact ⟨{ c with fr := l' }, ⟨h.ps, fun d z => h.fr d (hs d z), h.ch, h.sh, h.fl, h.dv, h.lps, hl, h.lch, h.lsh, h.ldv, h.lfl⟩, rfl, fun _ => Nat.le_refl _⟩
  · exact ⟨{ c with ch := l' }, ⟨h.ps, h.fr, fun d z => h.ch d (hs d z), h.sh, h.fl, h.dv, h.lps, h.lfr, hl, h.lsh, h.ldv, h.lfl⟩, rfl, fun _ => Nat.le_refl _⟩
  · exact ⟨{ c with sh := l' }, ⟨h.ps, h.fr, h.ch, fun d z => h.sh d (hs d z), h.fl, h.dv, h.lps, h.lfr, h.lch, hl, h.ldv, h.lfl⟩, rfl, fun _ => Nat.le_refl _⟩
  · exact ⟨{ c with dv := l' }, ⟨h.ps, h.fr, h.ch, h.sh, h.fl, fun d z => h.dv d (hs d z), h.lps, h.lfr, h.lch, h.lsh, hl, h.lfl⟩, rfl, fun _ => Nat.le_refl _⟩
  · exact ⟨{ c with fl := l' }, ⟨h.ps, h.fr, h.ch, h.sh, fun d z => h.fl d (hs d z), h.dv, h.lps, h.lfr, h.lch, h.lsh, h.ldv, hl⟩, rfl, fun _ => Nat.le_refl _⟩
theorem mem_app {P : D → Prop} {l : List D} {x : D} (h : ∀ d ∈ l, P d) (hx : P x) : ∀ d ∈ l ++ [x], P d := fun d hd => by
  rcases List.mem_append.mp hd with z | z
  · exact h d z
  · rw [List.mem_singleton.mp z]; exact hx
/-- one list gets one item more -/
theorem GOk.add {c : GC} {M : Nat} (h : GOk c M) {q : Nat} {l : List D} (hq : (fldsL c)[q]? = some l) (h1 : q = 1 ∨ q = 2 ∨ q = 3 ∨ q = 5) {x : D} (hx : ShB x) : ∃ c', GOk c' (M + 1) ∧ fldsL c' = (fldsL c).set q (l ++ [x]) ∧ c'.ps = c.ps := by
  have g := h.mono (Nat.le_succ M)
  rcases h1 with rfl | rfl | rfl | rfl <;> cases hq
  · exact ⟨{ c with fr := c.fr ++ [x] }, ⟨g.ps, mem_app g.fr hx, g.ch, g.sh, g.fl, g.dv, g.lps, by rw [List.length_append]; exact Nat.succ_le_succ h.lfr, g.lch, g.lsh, g.ldv, g.lfl⟩, rfl, rfl⟩
  · exact ⟨{ c with ch := c.ch ++ [x] }, ⟨g.ps, g.fr, mem_app g.ch hx, g.sh, g.fl, g.dv, g.lps, g.lfr, by rw [List.length_append]; exact Nat.succ_le_succ h.lch, g.lsh, g.ldv, g.lfl⟩, rfl, rfl⟩
  · exact ⟨{ c with sh := c.sh ++ [x] }, ⟨g.ps, g.fr, g.ch, mem_app g.sh hx, g.fl, g.dv, g.lps, g.lfr, g.lch, by rw [List.length_append]; exact Nat.succ_le_succ h.lsh, g.ldv, g.lfl⟩, rfl, rfl⟩
  · exact ⟨{ c with fl := c.fl ++ [x] }, ⟨g.ps, g.fr, g.ch, g.sh, mem_app g.fl hx, g.dv, g.lps, g.lfr, g.lch, g.lsh, g.ldv, by rw [List.length_append]; exact Nat.succ_le_succ h.lfl⟩, rfl, rfl⟩
theorem GOk.addDv {c : GC} {M : Nat} (h : GOk c M) {x : D} (hx : fs x = true) : GOk { c with dv := c.dv ++ [x] } (M + 1) := by
  have g := h.mono (Nat.le_succ M)
  exact ⟨g.ps, g.fr, g.ch, g.sh, g.fl, mem_app g.dv hx, g.lps, g.lfr, g.lch, g.lsh, by show (c.dv ++ [x]).length ≤ _; rw [List.length_append]; exact Nat.succ_le_succ h.ldv, g.lfl⟩
theorem GOk.addPs {c : GC} {M : Nat} (h : GOk c M) {x : Gp} (hx : PB x) : GOk { c with ps := c.ps ++ [x] } (M + 1) := by
  have g := h.mono (Nat.le_succ M)
  refine ⟨fun p hp => ?_, g.fr, g.ch, g.sh, g.fl, g.dv, by show (c.ps ++ [x]).length ≤ _; rw [List.length_append]; exact Nat.succ_le_succ h.lps, g.lfr, g.lch, g.lsh, g.ldv, g.lfl⟩
  rcases List.mem_append.mp hp with z | z
  · exact h.ps p z
  · rw [List.mem_singleton.mp z]; exact hx
theorem GOk.setPs {c : GC} {M : Nat} (h : GOk c M) (i : Nat) {x : Gp} (hx : PB x) : GOk { c with ps := c.ps.set i x } M := by
  refine ⟨fun p hp => ?_, h.fr, h.ch, h.sh, h.fl, h.dv, by show (c.ps.set i x).length ≤ _; rw [List.length_set]; exact h.lps, h.lfr, h.lch, h.lsh, h.ldv, h.lfl⟩
  rcases List.mem_or_eq_of_mem_set hp with z | z
  · exact h.ps p z
  · rw [z]; exact hx
theorem Ls.app {as : List Addr} {rs : List Nat} {rest : Roots} {L : List (List D)} (h : Ls as rs rest L) {q r : Nat} (hr : rs[q]? = some r) (l : List D) (x : D) : Ls as rs (rest.modify r (T.put (.lst (l.map .dat ++ [.dat x])) [])) (L.set q (l ++ [x])) := by
  have := h.put hr (l ++ [x])
  rw [List.map_append] at this
  exact this
def ChSt (cs : List Int) (pick n : Int) (a b c : D) (p q : Int) (M : Nat) : Slots → Roots → Prop := fun sl rt => ∃ (c' : GC) (i j : Int) (as : List Addr) (rs : List Nat) (rest : Roots) (x8 x11 : Option Val),
  sl = [some (.ref 0 []), some (.dat (.ro (dints cs))), some (.ref 1 []), some (.dat (.int pick)), some (.dat (.int n)), some (.dat a), some (.dat b), some (.dat c), x8, some (.dat (.int p)), some (.dat (.int q)), x11] ∧
  rt = dst2 i j :: .lst (as.map cstT) :: rest ∧ Ls as rs rest (fldsL c') ∧ GOk c' M ∧ (pick ≠ 9 → n ≤ (c'.ps.length : Int))
/-- a partition is made where the roots are any -/
theorem mk_part (s x : T) (rest : Roots) (im : D) (ds : List D) (hd : ∀ rt, seqOf (.dat im) rt = some ds) (pg st : D) (k : T → Roots → Prop) (ex : Exn → Slots → Roots → Prop) (hk : k (.obj 0 [.dat (.tup ds), .dat pg, .dat st]) (s :: x :: rest)) :
    wMake 0 cPartitionInit (fun _ rt kk => kk [.dat im, .dat pg, .dat st] rt) ⟨[], ex⟩ (s :: x :: rest) k := by
  have e1 : plc [Val.ref (s :: x :: rest).length [], .dat im, .dat pg, .dat st] = [((s :: x :: rest).length, [])] := rfl
  have e2 : ren [Val.ref (s :: x :: rest).length [], .dat im, .dat pg, .dat st] = [.ref 0 [], .dat im, .dat pg, .dat st] := by
    show [Val.ref (List.idxOf (s :: x :: rest).length [(s :: x :: rest).length]) [], Val.dat im, Val.dat pg, Val.dat st] = _
    rw [show List.idxOf (s :: x :: rest).length [(s :: x :: rest).length] = 0 by simp]
  have e3 : getR ((s :: x :: rest) ++ [.obj 0 []]) [((s :: x :: rest).length, [])] = some [.obj 0 []] := by
    have : tatN ((s :: x :: rest) ++ [.obj 0 []]) (s :: x :: rest).length [] = some (.obj 0 []) := by
      unfold tatN
      rw [List.getElem?_append_right (Nat.le_refl _), Nat.sub_self]
      rfl
    simp only [getR, this]
  unfold wMake
  show dst (plc [Val.ref (s :: x :: rest).length [], .dat im, .dat pg, .dat st]) = true ∧ _
  refine ⟨by rw [e1]; rfl, ?_⟩
  simp only [e1, e2, e3]
  refine spec_pinit im ds hd pg st _ _ ⟨rfl, ?_⟩
  have e4 : putR ((s :: x :: rest) ++ [.obj 0 []]) [((s :: x :: rest).length, [])] [.obj 0 [.dat (.tup ds), .dat pg, .dat st]] = (s :: x :: rest) ++ [.obj 0 [.dat (.tup ds), .dat pg, .dat st]] := by
    show ((s :: x :: rest) ++ [T.obj 0 []]).modify (s :: x :: rest).length _ = _
    refine List.ext_getElem? fun i => ?_
    rw [mod_at]
    split
    · rename_i z
      subst z
      rw [List.getElem?_append_right (Nat.le_refl _), List.getElem?_append_right (Nat.le_refl _), Nat.sub_self]
      rfl
    · rename_i z
      by_cases y : i < (s :: x :: rest).length
      · rw [List.getElem?_append_left y, List.getElem?_append_left y]
      · rw [List.getElem?_eq_none, List.getElem?_eq_none]
        · rw [List.length_append]; show (s :: x :: rest).length + 1 ≤ i; omega
        · rw [List.length_append]; show (s :: x :: rest).length + 1 ≤ i; omega
  rw [e4, List.getElem?_append_right (Nat.le_refl _), Nat.sub_self]
  show k _ (((s :: x :: rest) ++ _).take _)
  rw [List.take_left']
  · exact hk
  · rfl
end K31
end

section
set_option linter.all false
set_option maxRecDepth 100000
set_option maxHeartbeats 1000000
set_option pp.deepTerms false
namespace K31
open PySem L2 Evl Wv

theorem rep_flat (x : D) : ∀ n : Nat, (List.replicate n [x]).flatten = List.replicate n x
  | 0 => rfl
  | n + 1 => by
    rw [List.replicate_succ, List.flatten_cons, rep_flat x n]
    rfl
theorem seq_toD (l : List D) (rt : Roots) : seqOf (.dat (T.lst (l.map .dat)).toD) rt = some l := by
  rw [toD_dats]
  rfl
theorem setT (l : List D) (i : Nat) (x : D) : (l.map T.dat).set i (.dat x) = (l.set i x).map .dat := (List.map_set ..).symm
section
variable {cs : List Int} {pick n : Int} {a b d : D} {p q : Int} {M : Nat} {Z : WEnds} {sl : Slots} {rt : Roots}
theorem br0 (hM : M ≤ 500) (hz : ∀ sl rt, ChSt cs pick n a b d p q (M + 1) sl rt → Z.nx sl rt) (st : ChSt cs pick n a b d p q M sl rt) :
(wIf (wB (wBin (sEq false) (wVar 3) (wC (.int 0))))
(wApp (wRes (wIdx (wVar 2) (wC (.int 0)))) (wLift (wFrz (wMake 0 cPartitionInit (wCons (wFrz (wRepL (wFrz (wLst (wCons (wIdx (wFrz (wLst (wCons (wC (.int 0)) (wCons (wC (.int 65535)) (wCons (wC (.int 65536)) (wCons (wSub (wC (.int 0)) (wC (.int 1))) (wCons (wC (.bool true)) wNil))))))) (wFrz (wCall cLawDraw (wCons (wVar 0) (wCons (wVar 1) (wCons (wC (.int 5)) wNil)))))) wNil))) (wFrz (wCall cLawDraw (wCons (wVar 0) (wCons (wVar 1) (wCons (wC (.int 20)) wNil))))))) (wCons (wC (.int 1)) (wCons (wC (.int 0)) wNil)))))))
wNext) Z sl rt := by
  obtain ⟨c, i, j, as, rs, rest, x8, x11, rfl, rfl, hL, h, hc⟩ := st
  refine ⟨fun z => ?_, fun _ => hz _ _ ⟨c, i, j, as, rs, rest, _, _, rfl, rfl, hL, h.mono (by omega), hc⟩⟩
  obtain ⟨a0, r0, ha0, hr0, ht0⟩ := hL.get (q := 0) rfl
  refine ⟨0, _, ixq ha0, atq ha0, r0 + 2, _, ht0, rfl, ?_⟩
  refine mt (o := tat (dst2 i j :: .lst (as.map cstT) :: rest) (r0 + 2) []) (tat_rest ht0) ?_
  refine ⟨by show 5 ≤ 1000; decide, rfl, spec_draw _ _ cs 5 (by decide) (by decide) _ _ fun u i j u0 u1 => ?_⟩
  obtain ⟨x, hx, hm⟩ := pick_in (l := [.int 0, .int 65535, .int 65536, .int (0 - 1), .bool true]) u0 u1
  refine ⟨x, hx, by show 1 ≤ 1000; decide, rfl, spec_draw _ _ cs 20 (by decide) (by decide) _ _ fun u i j u0 u1 => ?_⟩
  refine ⟨⟨by omega, by omega⟩, by show 1 * u.toNat ≤ 100000; omega, ?_⟩
  refine mk_part (dst2 i j) (.lst (as.map cstT)) rest _ ((List.replicate u.toNat [x]).flatten) (seq_toD _) (.int 1) (.int 0) _ (fun _ _ _ => False) ?_
  refine mt (o := tat (dst2 i j :: .lst (as.map cstT) :: rest) (r0 + 2) []) (tat_rest ht0) ?_
  have hlp := h.lps
  have fx : fs x = true := List.all_eq_true.mp (show [D.int 0, .int 65535, .int 65536, .int (0 - 1), .bool true].all fs = true by decide +kernel) x hm
  refine ⟨by rw [List.length_map, List.length_map]; omega, hz _ _ ?_⟩
  have P : PB ⟨(List.replicate u.toNat [x]).flatten, .int 1, .int 0⟩ := by
    rw [rep_flat]
    refine ⟨List.all_eq_true.mpr fun y hy => ?_, by show (List.replicate u.toNat x).length ≤ 48; rw [List.length_replicate]; omega, rfl, rfl⟩
    rw [List.eq_of_mem_replicate hy]
    exact fx
  have L2 := hL.app hr0 (c.ps.map gpD) (gpD ⟨(List.replicate u.toNat [x]).flatten, .int 1, .int 0⟩)
  have e : (fldsL c).set 0 (c.ps.map gpD ++ [gpD ⟨(List.replicate u.toNat [x]).flatten, .int 1, .int 0⟩]) = fldsL { c with ps := c.ps ++ [⟨(List.replicate u.toNat [x]).flatten, .int 1, .int 0⟩] } := by
    unfold fldsL
    rw [List.map_append]
    rfl
  rw [e] at L2
  exact ⟨_, i, j, as, rs, _, _, _, rfl, rfl, L2, h.addPs P, fun z => by have := hc z; simp only [List.length_append]; omega⟩
theorem ShB.tup {ds : List D} (h : ds.all fs = true) (hl : ds.length ≤ 4) : ShB (.tup ds) := .inr ⟨ds, rfl, h, hl⟩
theorem al1 {x : D} (h : fs x = true) : [x].all fs = true := by rw [List.all_cons, h]; rfl
theorem al2 {x y : D} (h : fs x = true) (h2 : fs y = true) : [x, y].all fs = true := by rw [List.all_cons, h, al1 h2]; rfl
theorem al3 {x y z : D} (h : fs x = true) (h2 : fs y = true) (h3 : fs z = true) : [x, y, z].all fs = true := by rw [List.all_cons, h, al2 h2 h3]; rfl
theorem al4 {x y z w : D} (h : fs x = true) (h2 : fs y = true) (h3 : fs z = true) (h4 : fs w = true) : [x, y, z, w].all fs = true := by rw [List.all_cons, h, al3 h2 h3 h4]; rfl
theorem ixl {l : List D} {n : Int} (h0 : 0 ≤ n) (h1 : n < (l.length : Int)) : ixN (l.map T.dat).length n = some n.toNat := ixN_nat h0 (by rw [List.length_map]; exact h1)
theorem atl {l : List D} {i : Nat} {x : D} (h : l[i]? = some x) : (l.map T.dat)[i]? = some (.dat x) := by rw [List.getElem?_map, h]; rfl
theorem Ls.setI {as : List Addr} {rs : List Nat} {rest : Roots} {L : List (List D)} (h : Ls as rs rest L) {q r : Nat} (hr : rs[q]? = some r) (l : List D) (i : Nat) (x : D) : Ls as rs (rest.modify r (T.put (.lst ((l.map .dat).set i (.dat x))) [])) (L.set q (l.set i x)) := by
  have := h.put hr (l.set i x)
  rw [← setT] at this
  exact this
theorem set_ps (c : GC) (i : Nat) (P : Gp) : (fldsL c).set 0 ((c.ps.map gpD).set i (gpD P)) = fldsL { c with ps := c.ps.set i P } := by
  unfold fldsL
  rw [← List.map_set]
  rfl
theorem br1 (hM : M ≤ 500) (hp0 : 0 ≤ p) (hp1 : p < n) (hz : ∀ sl rt, ChSt cs pick n a b d p q (M + 1) sl rt → Z.nx sl rt) (st : ChSt cs pick n a b d p q M sl rt) :
(wIf (wB (wBin (sEq false) (wVar 3) (wC (.int 1))))
(wSetI (wFrz (wMake 0 cPartitionInit (wCons (wFrz (wLst wNil)) (wCons (wIdx (wFrz (wLst (wCons (wC (.int 1)) (wCons (wC (.int 8)) (wCons (wC (.int 9)) (wCons (wC (.int 0)) (wCons (wC (.bool true)) wNil))))))) (wFrz (wCall cLawDraw (wCons (wVar 0) (wCons (wVar 1) (wCons (wC (.int 5)) wNil)))))) (wCons (wIdx (wFrz (wLst (wCons (wC (.int 0)) (wCons (wC (.int 15)) (wCons (wC (.int 16)) (wCons (wC (.int 127)) (wCons (wC (.int 128)) (wCons (wSub (wC (.int 0)) (wC (.int 1))) (wCons (wC (.bool true)) wNil))))))))) (wFrz (wCall cLawDraw (wCons (wVar 0) (wCons (wVar 1) (wCons (wC (.int 7)) wNil)))))) wNil))))) (wRes (wIdx (wVar 2) (wC (.int 0)))) (wVar 9))
wNext) Z sl rt := by
  obtain ⟨c, i, j, as, rs, rest, x8, x11, rfl, rfl, hL, h, hc⟩ := st
  refine ⟨fun z => ?_, fun _ => hz _ _ ⟨c, i, j, as, rs, rest, _, _, rfl, rfl, hL, h.mono (by omega), hc⟩⟩
  have z : pick = 1 := of_decide_eq_true z
  have hpl := hc (by omega)
  obtain ⟨a0, r0, ha0, hr0, ht0⟩ := hL.get (q := 0) rfl
  refine ⟨by show 0 ≤ 1000; decide, by show 5 ≤ 1000; decide, rfl, spec_draw _ _ cs 5 (by decide) (by decide) _ _ fun u i j u0 u1 => ?_⟩
  obtain ⟨x, hx, hm⟩ := pick_in (l := [.int 1, .int 8, .int 9, .int 0, .bool true]) u0 u1
  refine ⟨x, hx, by show 7 ≤ 1000; decide, rfl, spec_draw _ _ cs 7 (by decide) (by decide) _ _ fun u i j u0 u1 => ?_⟩
  obtain ⟨y, hy, hm2⟩ := pick_in (l := [.int 0, .int 15, .int 16, .int 127, .int 128, .int (0 - 1), .bool true]) u0 u1
  refine ⟨y, hy, ?_⟩
  refine mk_part (dst2 i j) (.lst (as.map cstT)) rest (.lst []) [] (fun _ => rfl) x y _ (fun _ _ _ => False) ?_
  refine ⟨0, _, ixq ha0, atq ha0, r0 + 2, _, ht0, rfl, ?_⟩
  refine mt (o := tat (dst2 i j :: .lst (as.map cstT) :: rest) (r0 + 2) []) (tat_rest ht0) ?_
  have hpn : p.toNat < c.ps.length := by omega
  have P : PB ⟨[], x, y⟩ := ⟨rfl, by show 0 ≤ 48; decide, List.all_eq_true.mp (show [D.int 1, .int 8, .int 9, .int 0, .bool true].all fs = true by decide +kernel) x hm, List.all_eq_true.mp (show [D.int 0, .int 15, .int 16, .int 127, .int 128, .int (0 - 1), .bool true].all fs = true by decide +kernel) y hm2⟩
  refine ⟨p.toNat, _, ixl hp0 (by rw [List.length_map]; omega), atl (by rw [List.getElem?_map, List.getElem?_eq_getElem hpn]; rfl), rfl, hz _ _ ?_⟩
  have L2 := hL.setI hr0 (c.ps.map gpD) p.toNat (gpD ⟨[], x, y⟩)
  rw [set_ps] at L2
  exact ⟨_, i, j, as, rs, _, _, _, rfl, rfl, L2, (h.setPs _ P).mono (by omega), fun z => by have := hc z; simp only [List.length_set]; omega⟩
theorem br9 (hM : M ≤ 500) (hp0 : 0 ≤ p) (hp1 : p < n) (hz : ∀ sl rt, ChSt cs pick n a b d p q (M + 1) sl rt → Z.nx sl rt) (st : ChSt cs pick n a b d p q M sl rt) :
(wIf (wB (wBin (sEq false) (wVar 3) (wC (.int 10))))
(wSetI (wFrz (wMake 0 cPartitionInit (wCons (wFrz (wLst wNil)) (wCons (wSub (wC (.int 8)) (wFrz (wCall cLawDraw (wCons (wVar 0) (wCons (wVar 1) (wCons (wC (.int 4)) wNil)))))) (wCons (wC (.int 0)) wNil))))) (wRes (wIdx (wVar 2) (wC (.int 0)))) (wVar 9))
wNext) Z sl rt := by
  obtain ⟨c, i, j, as, rs, rest, x8, x11, rfl, rfl, hL, h, hc⟩ := st
  refine ⟨fun z => ?_, fun _ => hz _ _ ⟨c, i, j, as, rs, rest, _, _, rfl, rfl, hL, h.mono (by omega), hc⟩⟩
  have z : pick = 10 := of_decide_eq_true z
  have hpl := hc (by omega)
  obtain ⟨a0, r0, ha0, hr0, ht0⟩ := hL.get (q := 0) rfl
  refine ⟨by show 0 ≤ 1000; decide, rfl, spec_draw _ _ cs 4 (by decide) (by decide) _ _ fun u i j u0 u1 => ?_⟩
  refine mk_part (dst2 i j) (.lst (as.map cstT)) rest (.lst []) [] (fun _ => rfl) (.int (8 - u)) (.int 0) _ (fun _ _ _ => False) ?_
  refine ⟨0, _, ixq ha0, atq ha0, r0 + 2, _, ht0, rfl, ?_⟩
  refine mt (o := tat (dst2 i j :: .lst (as.map cstT) :: rest) (r0 + 2) []) (tat_rest ht0) ?_
  have hpn : p.toNat < c.ps.length := by omega
  have P : PB ⟨[], .int (8 - u), .int 0⟩ := ⟨rfl, by show 0 ≤ 48; decide, fs_int (by omega) (by omega), rfl⟩
  refine ⟨p.toNat, _, ixl hp0 (by rw [List.length_map]; omega), atl (by rw [List.getElem?_map, List.getElem?_eq_getElem hpn]; rfl), rfl, hz _ _ ?_⟩
  have L2 := hL.setI hr0 (c.ps.map gpD) p.toNat (gpD ⟨[], .int (8 - u), .int 0⟩)
  rw [set_ps] at L2
  exact ⟨_, i, j, as, rs, _, _, _, rfl, rfl, L2, (h.setPs _ P).mono (by omega), fun z => by have := hc z; simp only [List.length_set]; omega⟩
theorem br2 (hM : M ≤ 500) (fa : fs a = true) (fb : fs b = true) (fp : fs (.int p) = true) (hz : ∀ sl rt, ChSt cs pick n a b d p q (M + 1) sl rt → Z.nx sl rt) (st : ChSt cs pick n a b d p q M sl rt) :
(wIf (wB (wBin (sEq false) (wVar 3) (wC (.int 2))))
(wApp (wRes (wIdx (wVar 2) (wC (.int 1)))) (wLift (wIdx (wFrz (wLst (wCons (wTup (wCons (wVar 5) (wCons (wVar 6) wNil))) (wCons (wTup (wCons (wVar 9) (wCons (wC (.int 128)) wNil))) (wCons (wTup (wCons (wVar 9) (wCons (wC (.int 127)) wNil))) (wCons (wTup (wCons (wVar 9) (wCons (wC (.int 128)) (wCons (wC (.int 1)) wNil)))) (wCons (wC .non) wNil))))))) (wFrz (wCall cLawDraw (wCons (wVar 0) (wCons (wVar 1) (wCons (wC (.int 5)) wNil))))))))
wNext) Z sl rt := by
  obtain ⟨c, i, j, as, rs, rest, x8, x11, rfl, rfl, hL, h, hc⟩ := st
  refine ⟨fun z => ?_, fun _ => hz _ _ ⟨c, i, j, as, rs, rest, _, _, rfl, rfl, hL, h.mono (by omega), hc⟩⟩
  obtain ⟨a0, r0, ha0, hr0, ht0⟩ := hL.get (q := 1) rfl
  refine ⟨1, _, ixq ha0, atq ha0, r0 + 2, _, ht0, rfl, ?_⟩
  refine mt (o := tat (dst2 i j :: .lst (as.map cstT) :: rest) (r0 + 2) []) (tat_rest ht0) ?_
  have w2 : 2 ≤ 1000 := by decide
  have w3 : 3 ≤ 1000 := by decide
  refine ⟨w2, w2, w2, w3, by show 5 ≤ 1000; decide, rfl, spec_draw _ _ cs 5 (by decide) (by decide) _ _ fun u i j u0 u1 => ?_⟩
  obtain ⟨x, hx, hm⟩ := pick_in (l := [.tup [a, b], .tup [.int p, .int 128], .tup [.int p, .int 127], .tup [.int p, .int 128, .int 1], .non]) u0 u1
  refine ⟨x, hx, ?_⟩
  have sx : ShB x := by
    simp only [List.mem_cons, List.not_mem_nil, or_false] at hm
    rcases hm with rfl | rfl | rfl | rfl | rfl
    · exact .tup (al2 fa fb) (by show 2 ≤ 4; decide)
    · exact .tup (al2 fp rfl) (by show 2 ≤ 4; decide)
    · exact .tup (al2 fp rfl) (by show 2 ≤ 4; decide)
    · exact .tup (al3 fp rfl rfl) (by show 3 ≤ 4; decide)
    · exact .inl rfl
  obtain ⟨c', g', e', ep⟩ := h.add (q := 1) rfl (.inl rfl) sx
  have hl := h.lfr
  refine mt (o := tat (dst2 i j :: .lst (as.map cstT) :: rest) (r0 + 2) []) (tat_rest ht0) ?_
  refine ⟨by rw [List.length_map]; omega, hz _ _ ?_⟩
  have L2 := hL.app hr0 c.fr x
  rw [← e'] at L2
  exact ⟨c', i, j, as, rs, _, _, _, rfl, rfl, L2, g', fun z => by rw [ep]; exact hc z⟩
theorem br3 (hM : M ≤ 500) (fa : fs a = true) (fb : fs b = true) (fd : fs d = true) (fp : fs (.int p) = true) (fq : fs (.int q) = true) (hz : ∀ sl rt, ChSt cs pick n a b d p q (M + 1) sl rt → Z.nx sl rt) (st : ChSt cs pick n a b d p q M sl rt) :
(wIf (wB (wBin (sEq false) (wVar 3) (wC (.int 3))))
(wApp (wRes (wIdx (wVar 2) (wC (.int 2)))) (wLift (wIdx (wFrz (wLst (wCons (wTup (wCons (wVar 5) (wCons (wVar 6) (wCons (wVar 7) (wCons (wC (.bool true)) wNil))))) (wCons (wTup (wCons (wVar 9) (wCons (wVar 10) (wCons (wC (.int 1)) (wCons (wC (.bool false)) wNil))))) (wCons (wTup (wCons (wVar 9) (wCons (wVar 10) (wCons (wC (.int 9)) (wCons (wC (.bool false)) wNil))))) (wCons (wTup (wCons (wVar 9) (wCons (wVar 10) (wCons (wC (.int 1)) (wCons (wC (.int 1)) wNil))))) (wCons (wTup (wCons (wVar 9) (wCons (wVar 10) (wCons (wC (.int 1)) wNil)))) (wCons (wTup (wCons (wVar 9) (wCons (wVar 10) (wCons (wC (.int 1)) (wCons (wC (.bool true)) wNil))))) wNil)))))))) (wFrz (wCall cLawDraw (wCons (wVar 0) (wCons (wVar 1) (wCons (wC (.int 6)) wNil))))))))
wNext) Z sl rt := by
  obtain ⟨c, i, j, as, rs, rest, x8, x11, rfl, rfl, hL, h, hc⟩ := st
  refine ⟨fun z => ?_, fun _ => hz _ _ ⟨c, i, j, as, rs, rest, _, _, rfl, rfl, hL, h.mono (by omega), hc⟩⟩
  obtain ⟨a0, r0, ha0, hr0, ht0⟩ := hL.get (q := 2) rfl
  refine ⟨2, _, ixq ha0, atq ha0, r0 + 2, _, ht0, rfl, ?_⟩
  refine mt (o := tat (dst2 i j :: .lst (as.map cstT) :: rest) (r0 + 2) []) (tat_rest ht0) ?_
  have w4 : 4 ≤ 1000 := by decide
  have w3 : 3 ≤ 1000 := by decide
  refine ⟨w4, w4, w4, w4, w3, w4, by show 6 ≤ 1000; decide, rfl, spec_draw _ _ cs 6 (by decide) (by decide) _ _ fun u i j u0 u1 => ?_⟩
  obtain ⟨x, hx, hm⟩ := pick_in (l := [.tup [a, b, d, .bool true], .tup [.int p, .int q, .int 1, .bool false], .tup [.int p, .int q, .int 9, .bool false], .tup [.int p, .int q, .int 1, .int 1], .tup [.int p, .int q, .int 1], .tup [.int p, .int q, .int 1, .bool true]]) u0 u1
  refine ⟨x, hx, ?_⟩
  have sx : ShB x := by
    simp only [List.mem_cons, List.not_mem_nil, or_false] at hm
    rcases hm with rfl | rfl | rfl | rfl | rfl | rfl
    · exact .tup (al4 fa fb fd rfl) (by show 4 ≤ 4; decide)
    · exact .tup (al4 fp fq rfl rfl) (by show 4 ≤ 4; decide)
    · exact .tup (al4 fp fq rfl rfl) (by show 4 ≤ 4; decide)
    · exact .tup (al4 fp fq rfl rfl) (by show 4 ≤ 4; decide)
    · exact .tup (al3 fp fq rfl) (by show 3 ≤ 4; decide)
    · exact .tup (al4 fp fq rfl rfl) (by show 4 ≤ 4; decide)
  obtain ⟨c', g', e', ep⟩ := h.add (q := 2) rfl (.inr (.inl rfl)) sx
  have hl := h.lch
  refine mt (o := tat (dst2 i j :: .lst (as.map cstT) :: rest) (r0 + 2) []) (tat_rest ht0) ?_
  refine ⟨by rw [List.length_map]; omega, hz _ _ ?_⟩
  have L2 := hL.app hr0 c.ch x
  rw [← e'] at L2
  exact ⟨c', i, j, as, rs, _, _, _, rfl, rfl, L2, g', fun z => by rw [ep]; exact hc z⟩
theorem br4 (hM : M ≤ 500) (fa : fs a = true) (fb : fs b = true) (fp : fs (.int p) = true) (fq : fs (.int q) = true) (hz : ∀ sl rt, ChSt cs pick n a b d p q (M + 1) sl rt → Z.nx sl rt) (st : ChSt cs pick n a b d p q M sl rt) :
(wIf (wB (wBin (sIn false) (wVar 3) (wFrz (wLst (wCons (wC (.int 4)) (wCons (wC (.int 5)) wNil))))))
(wApp (wRes (wIdx (wVar 2) (wIdx (wFrz (wLst (wCons (wC (.int 3)) (wCons (wC (.int 5)) wNil)))) (wSub (wVar 3) (wC (.int 4)))))) (wLift (wIdx (wFrz (wLst (wCons (wTup (wCons (wVar 5) (wCons (wVar 6) wNil))) (wCons (wTup (wCons (wVar 9) (wCons (wVar 10) wNil))) (wCons (wTup (wCons (wVar 9) (wCons (wVar 10) (wCons (wVar 9) wNil)))) (wCons (wC (.int 5)) wNil)))))) (wFrz (wCall cLawDraw (wCons (wVar 0) (wCons (wVar 1) (wCons (wC (.int 4)) wNil))))))))
wNext) Z sl rt := by
  obtain ⟨c, i, j, as, rs, rest, x8, x11, rfl, rfl, hL, h, hc⟩ := st
  have w3 : 3 ≤ 1000 := by decide
  have w2 : 2 ≤ 1000 := by decide
  refine ⟨w2, rfl, rfl, fun z => ?_, fun _ => hz _ _ ⟨c, i, j, as, rs, rest, _, _, rfl, rfl, hL, h.mono (by omega), hc⟩⟩
  have z : inV (D.v (.int pick)) ([D.int 4, D.int 5].map D.v) = true := z
  rw [in_pair, Bool.or_eq_true, decide_eq_true_eq, decide_eq_true_eq] at z
  obtain ⟨qq, hqq, hq5, l, hl⟩ : ∃ qq : Nat, atI [D.int 3, .int 5] (pick - 4) = some (.int (qq : Nat)) ∧ (qq = 3 ∨ qq = 5) ∧ ∃ l, (fldsL c)[qq]? = some l := by
    rcases z with rfl | rfl
    · exact ⟨3, rfl, .inl rfl, _, rfl⟩
    · exact ⟨5, rfl, .inr rfl, _, rfl⟩
  obtain ⟨a0, r0, ha0, hr0, ht0⟩ := hL.get hl
  refine ⟨w2, _, hqq, qq, _, ixq ha0, atq ha0, r0 + 2, _, ht0, rfl, ?_⟩
  refine mt (o := tat (dst2 i j :: .lst (as.map cstT) :: rest) (r0 + 2) []) (tat_rest ht0) ?_
  refine ⟨w2, w2, w3, by show 4 ≤ 1000; decide, rfl, spec_draw _ _ cs 4 (by decide) (by decide) _ _ fun u i j u0 u1 => ?_⟩
  obtain ⟨x, hx, hm⟩ := pick_in (l := [.tup [a, b], .tup [.int p, .int q], .tup [.int p, .int q, .int p], .int 5]) u0 u1
  refine ⟨x, hx, ?_⟩
  have sx : ShB x := by
    simp only [List.mem_cons, List.not_mem_nil, or_false] at hm
    rcases hm with rfl | rfl | rfl | rfl
    · exact .tup (al2 fa fb) (by show 2 ≤ 4; decide)
    · exact .tup (al2 fp fq) (by show 2 ≤ 4; decide)
    · exact .tup (al3 fp fq fp) (by show 3 ≤ 4; decide)
    · exact .inl rfl
  obtain ⟨c', g', e', ep⟩ := h.add hl (hq5.elim (fun z => .inr (.inr (.inl z))) fun z => .inr (.inr (.inr z))) sx
  have hll : l.length ≤ M := by
    rcases hq5 with rfl | rfl <;> cases hl
    · exact h.lsh
    · exact h.lfl
  refine mt (o := tat (dst2 i j :: .lst (as.map cstT) :: rest) (r0 + 2) []) (tat_rest ht0) ?_
  refine ⟨by rw [List.length_map]; omega, hz _ _ ?_⟩
  have L2 := hL.app hr0 l x
  rw [← e'] at L2
  exact ⟨c', i, j, as, rs, _, _, _, rfl, rfl, L2, g', fun z => by rw [ep]; exact hc z⟩
theorem br5 (hM : M ≤ 500) (fa : fs a = true) (fp : fs (.int p) = true) (hz : ∀ sl rt, ChSt cs pick n a b d p q (M + 1) sl rt → Z.nx sl rt) (st : ChSt cs pick n a b d p q M sl rt) :
(wIf (wB (wBin (sEq false) (wVar 3) (wC (.int 6))))
(wApp (wRes (wIdx (wVar 2) (wC (.int 4)))) (wLift (wIdx (wFrz (wLst (wCons (wVar 5) (wCons (wVar 9) wNil)))) (wFrz (wCall cLawDraw (wCons (wVar 0) (wCons (wVar 1) (wCons (wC (.int 2)) wNil))))))))
wNext) Z sl rt := by
  obtain ⟨c, i, j, as, rs, rest, x8, x11, rfl, rfl, hL, h, hc⟩ := st
  refine ⟨fun z => ?_, fun _ => hz _ _ ⟨c, i, j, as, rs, rest, _, _, rfl, rfl, hL, h.mono (by omega), hc⟩⟩
  obtain ⟨a0, r0, ha0, hr0, ht0⟩ := hL.get (q := 4) rfl
  refine ⟨4, _, ixq ha0, atq ha0, r0 + 2, _, ht0, rfl, ?_⟩
  refine mt (o := tat (dst2 i j :: .lst (as.map cstT) :: rest) (r0 + 2) []) (tat_rest ht0) ?_
  refine ⟨by show 2 ≤ 1000; decide, rfl, spec_draw _ _ cs 2 (by decide) (by decide) _ _ fun u i j u0 u1 => ?_⟩
  obtain ⟨x, hx, hm⟩ := pick_in (l := [a, .int p]) u0 u1
  refine ⟨x, hx, ?_⟩
  have sx : fs x = true := List.all_eq_true.mp (al2 fa fp) x hm
  have hl := h.ldv
  refine mt (o := tat (dst2 i j :: .lst (as.map cstT) :: rest) (r0 + 2) []) (tat_rest ht0) ?_
  refine ⟨by rw [List.length_map]; omega, hz _ _ ?_⟩
  have L2 := hL.app hr0 c.dv x
  exact ⟨{ c with dv := c.dv ++ [x] }, i, j, as, rs, _, _, _, rfl, rfl, L2, h.addDv sx, hc⟩
theorem lst_rest {s x : T} {rest : Roots} {r : Nat} {a : Addr} {l : List D} (h : rest[r]? = some (.nm a (dT l))) : lstOf (.ref (r + 2) []) (s :: x :: rest) = some l := by
  unfold lstOf
  simp only [tat_rest h]
  exact dats_dat _
theorem fresh_rt {s : T} {as : List Addr} {rest : Roots} (q : Nat) (a : Addr) (t : T) : ((s :: .lst (as.map cstT) :: rest) ++ [t]).modify 1 (T.put (.lst ((as.map cstT).set q (.dat (.cst (.ref a))))) []) = s :: .lst ((as.set q a).map cstT) :: (rest ++ [t]) := by
  rw [List.map_set]
  rfl
theorem GOk.len {c : GC} {M : Nat} (h : GOk c M) {q : Nat} {l : List D} (hq : (fldsL c)[q]? = some l) : l.length ≤ M := by
  have hq6 : q < 6 := (List.getElem?_eq_some_iff.mp hq).1
  rcases (show q = 0 ∨ q = 1 ∨ q = 2 ∨ q = 3 ∨ q = 4 ∨ q = 5 by omega) with rfl | rfl | rfl | rfl | rfl | rfl <;> cases hq
  · rw [List.length_map]; exact h.lps
  · exact h.lfr
  · exact h.lch
  · exact h.lsh
  · exact h.ldv
  · exact h.lfl
theorem br8 (hM : M ≤ 500) (hz : ∀ sl rt, ChSt cs pick n a b d p q (M + 1) sl rt → Z.nx sl rt) (st : ChSt cs pick n a b d p q M sl rt) :
(wIf (wB (wBin (sEq false) (wVar 3) (wC (.int 9))))
(wSeq (wAsg 11 (wFrz (wCall cLawDraw (wCons (wVar 0) (wCons (wVar 1) (wCons (wC (.int 6)) wNil))))))
(wSetNew (wLst wNil) (wVar 2) (wVar 11)))
wNext) Z sl rt := by
  obtain ⟨c, i, j, as, rs, rest, x8, x11, rfl, rfl, hL, h, hc⟩ := st
  refine ⟨fun z => ?_, fun _ => hz _ _ ⟨c, i, j, as, rs, rest, _, _, rfl, rfl, hL, h.mono (by omega), hc⟩⟩
  have z : pick = 9 := of_decide_eq_true z
  refine ⟨rfl, spec_draw _ _ cs 6 (by decide) (by decide) _ _ fun u i j u0 u1 => ?_⟩
  obtain ⟨qq, rfl⟩ : ∃ qq : Nat, u = (qq : Nat) := ⟨u.toNat, by omega⟩
  have hqq : qq < (fldsL c).length := by show qq < 6; omega
  obtain ⟨a0, r0, ha0, hr0, ht0⟩ := hL.get (List.getElem?_eq_getElem hqq)
  refine ⟨by show 0 ≤ 1000; decide, fun d hd => (nomatch hd), fun a' => ⟨qq, _, ixq ha0, atq ha0, rfl, hz _ _ ?_⟩⟩
  obtain ⟨c', g', e', _⟩ := h.sub (M' := M + 1) (by omega) (List.getElem?_eq_getElem hqq) (l' := []) (fun _ z => (nomatch z)) (by show 0 ≤ _; omega)
  have L2 := hL.fresh qq a' []
  rw [← e'] at L2
  exact ⟨c', i, j, _, _, _, _, _, rfl, fresh_rt qq a' _, L2, g', fun y => absurd z y⟩
theorem br6 (hM : M ≤ 500) (hz : ∀ sl rt, ChSt cs pick n a b d p q (M + 64) sl rt → Z.nx sl rt) (st : ChSt cs pick n a b d p q M sl rt) :
(wIf (wB (wBin (sEq false) (wVar 3) (wC (.int 7))))
(wSeq (wAsg 11 (wFrz (wCall cLawDraw (wCons (wVar 0) (wCons (wVar 1) (wCons (wC (.int 6)) wNil))))))
(wIf (wB (wBin sGt (wCB fLen (wCons (wRes (wIdx (wVar 2) (wVar 11))) wNil)) (wC (.int 0))))
(wSetNew (wCatL (wRes (wIdx (wVar 2) (wVar 11))) (wFrz (wRepL (wFrz (wLst (wCons (wIdx (wRes (wIdx (wVar 2) (wVar 11))) (wC (.int 0))) wNil))) (wIdx (wFrz (wLst (wCons (wC (.int 7)) (wCons (wC (.int 8)) (wCons (wC (.int 11)) (wCons (wC (.int 12)) (wCons (wC (.int 15)) (wCons (wC (.int 16)) (wCons (wC (.int 63)) (wCons (wC (.int 64)) wNil)))))))))) (wFrz (wCall cLawDraw (wCons (wVar 0) (wCons (wVar 1) (wCons (wC (.int 8)) wNil))))))))) (wVar 2) (wVar 11))
wNext))
wNext) Z sl rt := by
  obtain ⟨c, i, j, as, rs, rest, x8, x11, rfl, rfl, hL, h, hc⟩ := st
  refine ⟨fun z => ?_, fun _ => hz _ _ ⟨c, i, j, as, rs, rest, _, _, rfl, rfl, hL, h.mono (by omega), hc⟩⟩
  refine ⟨rfl, spec_draw _ _ cs 6 (by decide) (by decide) _ _ fun u i j u0 u1 => ?_⟩
  obtain ⟨qq, rfl⟩ : ∃ qq : Nat, u = (qq : Nat) := ⟨u.toNat, by omega⟩
  have hqq : qq < (fldsL c).length := by show qq < 6; omega
  obtain ⟨l, hl⟩ : ∃ l, (fldsL c)[qq]? = some l := ⟨_, List.getElem?_eq_getElem hqq⟩
  obtain ⟨a0, r0, ha0, hr0, ht0⟩ := hL.get hl
  have hll := h.len hl
  refine ⟨qq, _, ixq ha0, atq ha0, r0 + 2, _, ht0, rfl, ?_⟩
  refine mt (o := tat (dst2 i j :: .lst (as.map cstT) :: rest) (r0 + 2) []) (tat_rest ht0) ?_
  refine ⟨fun z => ?_, fun _ => hz _ _ ⟨c, i, j, as, rs, rest, _, _, rfl, rfl, hL, h.mono (by omega), hc⟩⟩
  have z : decide ((0 : Int) < ((l.map T.dat).length : Int)) = true := z
  rw [decide_eq_true_eq, List.length_map] at z
  have z : 0 < l.length := by omega
  refine ⟨qq, _, ixq ha0, atq ha0, r0 + 2, _, ht0, rfl, qq, _, ixq ha0, atq ha0, r0 + 2, _, ht0, rfl, ?_⟩
  refine mt (o := tat (dst2 i j :: .lst (as.map cstT) :: rest) (r0 + 2) []) (tat_rest ht0) ?_
  refine ⟨0, _, ixl (by decide) (by omega), atl (List.getElem?_eq_getElem z), by show 1 ≤ 1000; decide, by show 8 ≤ 1000; decide, rfl, spec_draw _ _ cs 8 (by decide) (by decide) _ _ fun u i j u0 u1 => ?_⟩
  obtain ⟨v, hv, hm⟩ := pick_in (l := [7, 8, 11, 12, 15, 16, 63, 64].map D.int) u0 u1
  obtain ⟨w, hw, rfl⟩ := List.mem_map.mp hm
  have hw64 : 0 ≤ w ∧ w ≤ 64 := by
    simp only [List.mem_cons, List.not_mem_nil, or_false] at hw
    omega
  refine ⟨_, hv, ⟨by omega, by omega⟩, by show 1 * w.toNat ≤ 100000; omega, ?_⟩
  refine ⟨l, (List.replicate w.toNat [l[0]]).flatten, lst_rest ht0, by rw [toD_dats]; rfl, by rw [rep_flat, List.length_replicate]; omega, fun d hd => (nomatch hd), fun a' => ⟨qq, _, ixq ha0, atq ha0, rfl, hz _ _ ?_⟩⟩
  obtain ⟨c', g', e', hcc⟩ := h.sub (M' := M + 64) (by omega) hl (l' := l ++ (List.replicate w.toNat [l[0]]).flatten) (fun x hx => by
    rcases List.mem_append.mp hx with y | y
    · exact y
    · rw [rep_flat] at y
      rw [List.eq_of_mem_replicate y]
      exact List.getElem_mem z) (by rw [rep_flat, List.length_append, List.length_replicate]; omega)
  have L2 := hL.fresh qq a' (l ++ (List.replicate w.toNat [l[0]]).flatten)
  rw [← e'] at L2
  exact ⟨c', i, j, _, _, _, _, _, rfl, fresh_rt qq a' _, L2, g', fun y => by
    have h1 := hc y
    have h2 := hcc (by rw [List.length_append]; omega)
    omega⟩
theorem map_erase (l : List D) : ∀ i : Nat, (l.map T.dat).eraseIdx i = (l.eraseIdx i).map .dat := by
  induction l with
  | nil => exact fun _ => rfl
  | cons x l ih =>
    intro i
    cases i with
    | zero => rfl
    | succ i =>
      show T.dat x :: (l.map T.dat).eraseIdx i = _
      rw [ih i]
      rfl
theorem all_leaf : ∀ l : List D, (l.map T.dat).all leafT = true
  | [] => rfl
  | x :: l => by
    rw [List.map_cons, List.all_cons, all_leaf l]
    rfl
theorem br7 (hM : M ≤ 500) (hz : ∀ sl rt, ChSt cs pick n a b d p q (M + 1) sl rt → Z.nx sl rt) (st : ChSt cs pick n a b d p q M sl rt) :
(wIf (wAndT (wB (wBin (sEq false) (wVar 3) (wC (.int 8)))) (wB (wBin sGt (wCB fLen (wCons (wRes (wIdx (wVar 2) (wC (.int 5)))) wNil)) (wC (.int 0)))))
(wDrop (wPop (wRes (wIdx (wVar 2) (wC (.int 5)))) (wCons (wFrz (wCall cLawDraw (wCons (wVar 0) (wCons (wVar 1) (wCons (wCB fLen (wCons (wRes (wIdx (wVar 2) (wC (.int 5)))) wNil)) wNil))))) wNil)))
wNext) Z sl rt := by
  obtain ⟨c, i, j, as, rs, rest, x8, x11, rfl, rfl, hL, h, hc⟩ := st
  obtain ⟨a0, r0, ha0, hr0, ht0⟩ := hL.get (q := 5) rfl
  have hll := h.lfl
  refine ⟨decide ((0 : Int) < ((c.fl.map T.dat).length : Int)), fun _ => ⟨5, _, ixq ha0, atq ha0, r0 + 2, _, ht0, rfl, mt (o := tat (dst2 i j :: .lst (as.map cstT) :: rest) (r0 + 2) []) (tat_rest ht0) ⟨rfl, rfl⟩⟩, fun z => ?_, fun _ => hz _ _ ⟨c, i, j, as, rs, rest, _, _, rfl, rfl, hL, h.mono (by omega), hc⟩⟩
  have z : (decide (pick = 8) && decide ((0 : Int) < ((c.fl.map T.dat).length : Int))) = true := z
  rw [Bool.and_eq_true, decide_eq_true_eq, decide_eq_true_eq] at z
  have hlen : ((c.fl.map T.dat).length : Int) = (c.fl.length : Int) := by rw [List.length_map]
  refine ⟨5, _, ixq ha0, atq ha0, r0 + 2, _, ht0, rfl, ?_⟩
  refine mt (o := tat (dst2 i j :: .lst (as.map cstT) :: rest) (r0 + 2) []) (tat_rest ht0) ?_
  refine ⟨5, _, ixq ha0, atq ha0, r0 + 2, _, ht0, rfl, ?_⟩
  refine mt (o := tat (dst2 i j :: .lst (as.map cstT) :: rest) (r0 + 2) []) (tat_rest ht0) ?_
  refine ⟨rfl, spec_draw _ _ cs ((c.fl.map T.dat).length : Int) (by omega) (by omega) _ _ fun u i j u0 u1 => ?_⟩
  refine mt (o := tat (dst2 i j :: .lst (as.map cstT) :: rest) (r0 + 2) []) (tat_rest ht0) ?_
  have hu : u.toNat < c.fl.length := by omega
  refine ⟨⟨by omega, by omega⟩, all_leaf _, u.toNat, c.fl[u.toNat], ?_, atl (List.getElem?_eq_getElem hu), hz _ _ ?_⟩
  · unfold seqIndex?
    simp only [if_neg (show ¬ u < 0 by omega)]
    rw [hlen] at u1 ⊢
    simp [u0, u1]
  · obtain ⟨c', g', e', hcc⟩ := h.sub (M' := M + 1) (by omega) (q := 5) rfl (l' := c.fl.eraseIdx u.toNat) (fun x hx => List.mem_of_mem_eraseIdx hx) (Nat.le_trans (List.length_eraseIdx_le ..) (by omega))
    have L2 := hL.put hr0 (c.fl.eraseIdx u.toNat)
    rw [← e', ← map_erase] at L2
    have ep : c'.ps.map gpD = c.ps.map gpD := by
      have := congrArg (fun l => l[0]?) e'
      exact Option.some.inj this
    have ep : c'.ps.length = c.ps.length := by simpa using congrArg List.length ep
    exact ⟨c', i, j, as, rs, _, _, _, rfl, rfl, L2, g', fun y => by rw [ep]; exact hc y⟩
end
end K31
end

section
set_option linter.all false
set_option maxRecDepth 100000
set_option maxHeartbeats 1000000
set_option pp.deepTerms false
namespace K31
open PySem L2 Evl Wv

theorem spec_changed (i j : Int) (cs : List Int) (c : GC) (m : Nat) (hm : m ≤ 300) (h : GOk c m) (h0 : 1 ≤ c.ps.length) (as : List Addr) (rs : List Nat) (rest : Roots) (hL : Ls as rs rest (fldsL c)) (k : Roots → Prop)
    (hk : ∀ c' i' j' as' rs' rest', GOk c' (m + 80) → Ls as' rs' rest' (fldsL c') → k (dst2 i' j' :: .lst (as'.map cstT) :: rest')) : cLawChanged [.ref 0 [], .dat (.ro (dints cs)), .ref 1 []] (dst2 i j :: .lst (as.map cstT) :: rest) k := by
  unfold cLawChanged cwOfA
  refine ⟨rfl, ?_⟩
  unfold wdLawChanged
  refine ⟨rfl, spec_draw _ _ cs 12 (by decide) (by decide) _ _ fun pick i j k0 k1 => ?_⟩
  obtain ⟨a0, r0, ha0, hr0, ht0⟩ := hL.get (q := 0) rfl
  refine ⟨0, _, ixq ha0, atq ha0, r0 + 2, _, ht0, rfl, ?_⟩
  refine mt (o := tat (dst2 i j :: .lst (as.map cstT) :: rest) (r0 + 2) []) (tat_rest ht0) ?_
  have hn : (((c.ps.map gpD).map T.dat).length : Int) = (c.ps.length : Int) := by simp
  rw [hn]
  have hlp := h.lps
  generalize hN : (c.ps.length : Int) = n
  have n1 : 1 ≤ n := by omega
  have n3 : n ≤ 300 := by omega
  refine ⟨by decide, by decide, fun i acc rt => ∃ (ds : List D) (i' j' : Int), acc = ds.map .dat ∧ ds.length = i ∧ ds.all fs = true ∧ rt = dst2 i' j' :: .lst (as.map cstT) :: rest, ⟨[], i, j, rfl, rfl, rfl, rfl⟩, ?_, ?_⟩
  · rintro i d _ _ hd ⟨ds, i', j', rfl, rfl, hf, rfl⟩
    have hi := (List.getElem?_eq_some_iff.mp hd).1
    refine ⟨by simp at hi ⊢; omega, fun _ => ⟨rfl, spec_odd _ _ cs n (by omega) (by omega) _ _ fun d i' j' hd => ⟨ds ++ [d], i', j', by rw [List.map_append]; rfl, by simp, ?_, rfl⟩⟩, fun z => (nomatch z)⟩
    rw [List.all_append, hf]
    simp [hd]
  · rintro _ _ ⟨ds, i, j, rfl, hl, hf, rfl⟩
    simp only [toD_dats]
    have hl : ds.length = 3 := hl
    match ds, hl, hf with
    | [a, b, d], _, hf =>
      simp only [List.all_cons, List.all_nil, Bool.and_true, Bool.and_eq_true] at hf
      obtain ⟨fa, fb, fd⟩ := hf
      refine ⟨rfl, rfl, spec_draw _ _ cs n (by omega) (by omega) _ _ fun p i j p0 p1 => ⟨rfl, spec_draw _ _ cs n (by omega) (by omega) _ _ fun q i j q0 q1 => ?_⟩⟩
      have fp : fs (.int p) = true := fs_int (by omega) (by omega)
      have fq : fs (.int q) = true := fs_int (by omega) (by omega)
      have start : ChSt cs pick n a b d p q m [some (.ref 0 []), some (.dat (.ro (dints cs))), some (.ref 1 []), some (.dat (.int pick)), some (.dat (.int n)), some (.dat a), some (.dat b), some (.dat d), none, some (.dat (.int p)), some (.dat (.int q)), none] (dst2 i j :: .lst (as.map cstT) :: rest) :=
        ⟨c, i, j, as, rs, rest, none, none, rfl, rfl, hL, h, fun _ => by omega⟩
      refine ⟨_, br0 (by omega) (fun _ _ z => z) start, fun sl rt st => ?_⟩
      refine ⟨_, br1 (by omega) p0 p1 (fun _ _ z => z) st, fun sl rt st => ?_⟩
      refine ⟨_, br2 (by omega) fa fb fp (fun _ _ z => z) st, fun sl rt st => ?_⟩
      refine ⟨_, br3 (by omega) fa fb fd fp fq (fun _ _ z => z) st, fun sl rt st => ?_⟩
      refine ⟨_, br4 (by omega) fa fb fp fq (fun _ _ z => z) st, fun sl rt st => ?_⟩
      refine ⟨_, br5 (by omega) fa fp (fun _ _ z => z) st, fun sl rt st => ?_⟩
      refine ⟨_, br6 (by omega) (fun _ _ z => z) st, fun sl rt st => ?_⟩
      refine ⟨_, br7 (by omega) (fun _ _ z => z) st, fun sl rt st => ?_⟩
      refine ⟨_, br8 (by omega) (fun _ _ z => z) st, fun sl rt st => ?_⟩
      refine br9 (by omega) p0 p1 (fun sl rt st => ?_) st
      obtain ⟨c', i', j', as', rs', rest', x8, x11, _, rfl, hL', h', _⟩ := st
      exact hk c' i' j' as' rs' rest' (h'.mono (by omega)) hL'
end K31
end

section
set_option linter.all false
set_option maxRecDepth 100000
set_option maxHeartbeats 1000000
set_option pp.deepTerms false
namespace K31
open PySem L2 Evl Wv

/-! ### how long a repr is -/
structure Pw (p : PyData) (w dep : Nat) : Prop where
  lay : p.canLay0 = true
  sh : p.intsShort 13 = true
  ok : p.showable = true
  dp : p.depth ≤ dep
  wt : p.weight ≤ w
structure PwA (ps : List PyData) (w dep : Nat) : Prop where
  lay : PyData.canLayAll0 ps = true
  sh : PyData.intsShortAll 13 ps = true
  ok : PyData.showableAll ps = true
  dp : PyData.depthAll ps ≤ dep
  wt : PyData.weightAll ps ≤ w
def Sm (d : D) (w dep : Nat) : Prop := ∃ p, d.py = some p ∧ Pw p w dep
theorem Sm.mono {d : D} {w dep w' dep' : Nat} (h : Sm d w dep) (h1 : w ≤ w') (h2 : dep ≤ dep') : Sm d w' dep' := by
  obtain ⟨p, e, h⟩ := h
  exact ⟨p, e, h.lay, h.sh, h.ok, Nat.le_trans h.dp h2, Nat.le_trans h.wt h1⟩
theorem sm_all {w dep : Nat} : ∀ {ds : List D}, (∀ d ∈ ds, Sm d w dep) → ∃ ps, D.pys ds = some ps ∧ PwA ps (ds.length * (w + 1)) dep
  | [], _ => ⟨[], rfl, rfl, rfl, rfl, Nat.zero_le _, Nat.zero_le _⟩
  | d :: ds, h => by
    obtain ⟨p, e, hp⟩ := h d (List.mem_cons_self ..)
    obtain ⟨ps, e2, hps⟩ := sm_all (ds := ds) fun x hx => h x (List.mem_cons_of_mem _ hx)
    refine ⟨p :: ps, by simp only [D.pys, e, e2], ?_, ?_, ?_, ?_, ?_⟩
    · simp only [PyData.canLayAll0, hp.lay, hps.lay, Bool.and_self]
    · simp only [PyData.intsShortAll, hp.sh, hps.sh, Bool.and_self]
    · simp only [PyData.showableAll, hp.ok, hps.ok, Bool.and_self]
    · simp only [PyData.depthAll]
      exact Nat.max_le.mpr ⟨hp.dp, hps.dp⟩
    · simp only [PyData.weightAll, List.length_cons]
      have h1 := hp.wt
      have h2 := hps.wt
      rw [Nat.succ_mul]
      omega
theorem sm_tup {w dep : Nat} {ds : List D} (h : ∀ d ∈ ds, Sm d w dep) : Sm (.tup ds) (ds.length * (w + 1)) (dep + 1) := by
  obtain ⟨ps, e, h⟩ := sm_all h
  refine ⟨.tuple ps, by simp only [D.py, e]; rfl, h.lay, h.sh, h.ok, ?_, h.wt⟩
  simp only [PyData.depth]
  have := h.dp
  omega
theorem sm_lst {w dep : Nat} {ds : List D} (h : ∀ d ∈ ds, Sm d w dep) : Sm (.lst ds) (ds.length * (w + 1)) (dep + 1) := by
  obtain ⟨ps, e, h⟩ := sm_all h
  refine ⟨.list ps, by simp only [D.py, e]; rfl, h.lay, h.sh, h.ok, ?_, h.wt⟩
  simp only [PyData.depth]
  have := h.dp
  omega
theorem pw_int {i : Int} (h : i.natAbs < 2 ^ 32) : Pw (.int i) 33 0 := by
  have hl : i.natAbs.log2 < 33 := by
    by_cases z : i.natAbs = 0
    · rw [z]; decide
    · exact (Nat.log2_lt z).mpr (Nat.lt_trans h (by decide))
  refine ⟨rfl, ?_, ?_, Nat.le_refl _, ?_⟩
  · simp only [PyData.intsShort, decide_eq_true_eq]
    show (Str.ofString (toString i)).length ≤ 13
    rw [ofString_length]
    exact Nat.le_trans (int_text_length_le10 (k := 10) (by decide) (Nat.lt_trans h (by decide))) (by decide)
  · simp only [PyData.showable, decide_eq_true_eq]
    omega
  · simp only [PyData.weight]
    split <;> omega
theorem sm_fs {d : D} (h : fs d = true) : Sm d 33 0 := by
  cases d with
  | non => exact ⟨.none, rfl, rfl, rfl, rfl, Nat.le_refl _, Nat.zero_le _⟩
  | bool b => exact ⟨.bool b, rfl, rfl, rfl, rfl, Nat.le_refl _, Nat.zero_le _⟩
  | int i => exact ⟨.int i, rfl, pw_int (of_decide_eq_true h)⟩
  | str s =>
    have e : s = Str.ofString "a" := of_decide_eq_true h
    subst e
    exact ⟨.str (Str.ofString "a"), rfl, by decide +kernel, rfl, rfl, Nat.le_refl _, by decide +kernel⟩
  | _ => cases h
theorem sm_sh {d : D} (h : ShB d) : Sm d 136 1 := by
  rcases h with h | ⟨ds, rfl, h, hl⟩
  · exact (sm_fs h).mono (by decide) (by decide)
  · refine (sm_tup (w := 33) (dep := 0) fun x hx => sm_fs (List.all_eq_true.mp h x hx)).mono ?_ (by decide)
    omega
theorem sm_part {p : Gp} (h : PB p) : Sm (.tup [.tup p.im, p.pg, p.st]) 4899 2 := by
  have h1 : Sm (.tup p.im) 1632 1 := by
    refine (sm_tup (w := 33) (dep := 0) fun x hx => sm_fs (List.all_eq_true.mp h.im x hx)).mono ?_ (by decide)
    have := h.len
    omega
  refine (sm_tup (w := 1632) (dep := 1) fun x hx => ?_).mono (show 3 * (1632 + 1) ≤ 4899 by decide) (Nat.le_refl 2)
  simp only [List.mem_cons, List.not_mem_nil, or_false] at hx
  rcases hx with rfl | rfl | rfl
  · exact h1
  · exact (sm_fs h.pg).mono (by decide) (by decide)
  · exact (sm_fs h.st).mono (by decide) (by decide)
theorem Pw.len {p : PyData} {w dep : Nat} (h : Pw p w dep) : p.shown.length ≤ 15 * w + 13 := by
  have := PyData.shown_le 13 (by decide) p (PyData.leavesShort_of_canLay0 13 p h.lay h.sh)
  have := h.wt
  omega
theorem Pw.nd {p : PyData} {w dep : Nat} (h : Pw p w dep) : p.hasDict = false := PyData.hasDict_of_canLay p h.lay
/-- what is shown of the partitions, of the rest -/
def partsL (c : GC) : List D := c.ps.map fun p => .tup [.tup p.im, p.pg, p.st]
def restD (c : GC) : List D := [.tup c.fr, .tup c.ch, .tup c.sh, .tup c.dv, .tup c.fl]
theorem sm_parts {c : GC} (h : GOk c 176) : Sm (.lst (partsL c)) 862400 3 := by
  refine (sm_lst (w := 4899) (dep := 2) fun x hx => ?_).mono ?_ (by decide)
  · obtain ⟨p, hp, rfl⟩ := List.mem_map.mp hx
    exact sm_part (h.ps p hp)
  · have := h.lps
    unfold partsL
    rw [List.length_map]
    omega
theorem sm_rest {c : GC} (h : GOk c 176) : Sm (.tup (restD c)) 120565 3 := by
  have one : ∀ ds : List D, (∀ d ∈ ds, ShB d) → ds.length ≤ 176 → Sm (.tup ds) 24112 2 := fun ds hs hl => by
    refine (sm_tup (w := 136) (dep := 1) fun x hx => sm_sh (hs x hx)).mono ?_ (by decide)
    omega
  refine (sm_tup (w := 24112) (dep := 2) fun x hx => ?_).mono (show 5 * (24112 + 1) ≤ 120565 by decide) (Nat.le_refl 3)
  unfold restD at hx
  simp only [List.mem_cons, List.not_mem_nil, or_false] at hx
  rcases hx with rfl | rfl | rfl | rfl | rfl
  · exact one _ h.fr h.lfr
  · exact one _ h.ch h.lch
  · exact one _ h.sh h.lsh
  · exact one _ (fun d hd => .inl (h.dv d hd)) h.ldv
  · exact one _ h.fl h.lfl
end K31
end

section
set_option linter.all false
set_option maxRecDepth 100000
set_option maxHeartbeats 1000000
set_option pp.deepTerms false
namespace K31
open PySem L2 Evl Wv

/-! ### what a fault is -/
structure Kw (s : String) : Prop where
  pw : Pw (.str (Str.ofString s)) 33 0
def Ft (d : D) : Prop := ∃ (s : String) (n : Nat), d = .tup [.str s, .int (n : Nat)] ∧ Kw s ∧ n ≤ 1000
theorem kw_of {s : String} (h1 : (PyData.str (Str.ofString s)).canLay0 = true) (h2 : (PyData.str (Str.ofString s)).weight ≤ 33) : Kw s := ⟨⟨h1, rfl, rfl, Nat.le_refl _, h2⟩⟩
theorem Ft.chk {s : String} (h : Kw s) {n : Nat} (hn : n ≤ 1000) {lo hi : Int} {d : D} (e : chk s (n : Int) lo hi = some d) : Ft d := ⟨s, n, chk_tup e, h, hn⟩
theorem Ft.bad {s : String} (h : Kw s) {good : D → Bool} {xs : List D} (hn : xs.length ≤ 1000) {d : D} (e : badIn s good xs = some d) : Ft d := by
  obtain ⟨i, hi, e⟩ := firstN_some e
  unfold badAt at e
  split at e
  · split at e
    · cases e
    · cases e
      exact ⟨s, i, rfl, h, by omega⟩
  · cases e
theorem judge_ft {c : GC} {m : Nat} (h : GOk c m) (hm : m ≤ 1000) {d : D} (e : judgeF c = some d) : Ft d := by
  have l1 := h.lps
  have l2 := h.lfr
  have l3 := h.lch
  have l4 := h.lsh
  have l5 := h.ldv
  have l6 := h.lfl
  unfold judgeF at e
  split at e
  · rename_i d' e1
    cases e
    obtain ⟨i, hi, e1⟩ := firstN_some e1
    rcases (show i = 0 ∨ i = 1 ∨ i = 2 ∨ i = 3 ∨ i = 4 ∨ i = 5 by omega) with rfl | rfl | rfl | rfl | rfl | rfl
    · exact Ft.chk (kw_of (by decide +kernel) (by decide +kernel)) (Nat.le_trans l1 hm) e1
    · exact Ft.chk (kw_of (by decide +kernel) (by decide +kernel)) (Nat.le_trans l2 hm) e1
    · exact Ft.chk (kw_of (by decide +kernel) (by decide +kernel)) (Nat.le_trans l3 hm) e1
    · exact Ft.chk (kw_of (by decide +kernel) (by decide +kernel)) (Nat.le_trans l4 hm) e1
    · exact Ft.chk (kw_of (by decide +kernel) (by decide +kernel)) (Nat.le_trans l5 hm) e1
    · exact Ft.chk (kw_of (by decide +kernel) (by decide +kernel)) (Nat.le_trans l6 hm) e1
  · split at e
    · rename_i d' e1
      cases e
      obtain ⟨i, hi, e1⟩ := firstN_some e1
      rcases (show i = 0 ∨ i = 1 ∨ i = 2 ∨ i = 3 ∨ i = 4 ∨ i = 5 ∨ i = 6 by omega) with rfl | rfl | rfl | rfl | rfl | rfl | rfl
      · exact Ft.bad (kw_of (by decide +kernel) (by decide +kernel)) (by rw [List.length_map]; omega) e1
      · exact Ft.bad (kw_of (by decide +kernel) (by decide +kernel)) (Nat.le_trans l2 hm) e1
      · exact Ft.bad (kw_of (by decide +kernel) (by decide +kernel)) (Nat.le_trans l3 hm) e1
      · exact Ft.bad (kw_of (by decide +kernel) (by decide +kernel)) (Nat.le_trans l4 hm) e1
      · exact Ft.bad (kw_of (by decide +kernel) (by decide +kernel)) (Nat.le_trans l5 hm) e1
      · exact Ft.bad (kw_of (by decide +kernel) (by decide +kernel)) (Nat.le_trans l6 hm) e1
      · exact Ft.bad (kw_of (by decide +kernel) (by decide +kernel)) (by unfold rngD; rw [List.length_map, List.length_range]; omega) e1
    · unfold flowG flowF at e
      split at e
      · rename_i d' e1
        cases e
        obtain ⟨i, hi, e1⟩ := firstN_some e1
        rw [List.length_map] at hi
        unfold chF at e1
        split at e1
        · split at e1
          · cases e1
            exact ⟨_, i, rfl, (kw_of (by decide +kernel) (by decide +kernel)), by omega⟩
          · split at e1
            · cases e1
              exact ⟨_, i, rfl, (kw_of (by decide +kernel) (by decide +kernel)), by omega⟩
            · cases e1
        · cases e1
      · obtain ⟨i, hi, e1⟩ := firstN_some e
        rw [List.length_map] at hi
        unfold shF at e1
        split at e1
        · split at e1
          · cases e1
            exact ⟨_, i, rfl, (kw_of (by decide +kernel) (by decide +kernel)), by omega⟩
          · cases e1
        · cases e1
/-- what may be compared and shown -/
structure Due (d : D) : Prop where
  py : ∃ p, d.py = some p ∧ Pw p 68 1 ∧ (p = .none ∨ ∃ ps, p = .tuple ps)
theorem due_of {o : Option D} (h : ∀ d, o = some d → Ft d) : Due (optD o) := by
  cases o with
  | none => exact ⟨.none, rfl, ⟨rfl, rfl, rfl, by decide, Nat.zero_le _⟩, .inl rfl⟩
  | some d =>
    obtain ⟨s, n, rfl, k, hn⟩ := h d rfl
    have hs : Sm (.str s) 33 0 := ⟨_, rfl, k.pw⟩
    have hi : Sm (.int (n : Nat)) 33 0 := ⟨_, rfl, pw_int (by show n < 2 ^ 32; omega)⟩
    obtain ⟨p, e, hp⟩ := (sm_tup (w := 33) (dep := 0) (ds := [.str s, .int (n : Nat)]) fun x hx => by
      simp only [List.mem_cons, List.not_mem_nil, or_false] at hx
      rcases hx with rfl | rfl
      · exact hs
      · exact hi).mono (show 2 * (33 + 1) ≤ 68 by decide) (Nat.le_refl 1)
    refine ⟨p, e, hp, .inr ?_⟩
    cases e
    exact ⟨_, rfl⟩
/-! ### the generator's configuration is sound -/
def gcOf (c : Cfg) : GC := ⟨c.ps.map fun p => ⟨dints p.1, .int p.2, .int 0⟩, c.fr.map frD, c.ch.map chD, c.sh.map prD, dints c.dv, c.fl.map prD⟩
theorem gcOf_D (c : Cfg) : (gcOf c).D = c.D := by
  unfold GC.D gcOf
  rw [List.map_map]
  rfl
theorem badIn_none {kd : String} {good : D → Bool} {xs : List D} (h : ∀ d ∈ xs, good d = true) : badIn kd good xs = none := firstN_none fun j hj => by
  unfold badAt
  rw [List.getElem?_eq_getElem hj]
  exact if_pos (h _ (List.getElem_mem hj))
theorem isI_of {i lo hi : Int} (h0 : lo ≤ i) (h1 : i ≤ hi) : isI (.int i) lo hi = true := by
  show (decide (lo ≤ i) && decide (i ≤ hi)) = true
  rw [decide_eq_true h0, decide_eq_true h1]
  rfl
theorem diff_of {n s t : Int} (h1 : 0 ≤ s) (h2 : s < n) (h3 : 0 ≤ t) (h4 : t < n) (h : s ≠ t) : diff n (.int s) (.int t) = true := by
  unfold diff
  rw [isI_of h1 (by omega), isI_of h3 (by omega)]
  show (!decide (s = t)) = true
  rw [decide_eq_false h]
  rfl

theorem gc_ok {c : Cfg} (h : c.Ok) : GOk (gcOf c) 16 := by
  have l1 := h.n4
  have l2 := h.fr4
  have l3 := h.ch3
  have l4 := h.sh2
  have l5 := h.dv2
  refine ⟨fun p hp => ?_, fun d hd => ?_, fun d hd => ?_, fun d hd => ?_, fun d hd => ?_, fun d hd => ?_, ?_, ?_, ?_, ?_, ?_, ?_⟩
  · obtain ⟨x, hx, rfl⟩ := List.mem_map.mp hp
    obtain ⟨g1, g3, gl, gw⟩ := h.pg x hx
    refine ⟨List.all_eq_true.mpr fun d hd => ?_, ?_, fs_int (by omega) (by omega), rfl⟩
    · obtain ⟨i, hi, rfl⟩ := List.mem_map.mp hd
      have := gw i hi
      exact fs_int (by have := this.1; omega) (by have := this.2; omega)
    · show (dints x.1).length ≤ 48
      unfold dints
      rw [List.length_map]
      omega
  · obtain ⟨f, hf, rfl⟩ := List.mem_map.mp hd
    obtain ⟨h1, h2, h3⟩ := h.fro f hf
    have hi : fs (.int f.2) = true := fs_int (by omega) (by omega)
    refine .inr ⟨_, rfl, al2 ?_ hi, by show 2 ≤ 4; decide⟩
    cases e : f.1 with
    | none => rfl
    | some i =>
      have := h1 i e
      exact fs_int (by omega) (by omega)
  · obtain ⟨f, hf, rfl⟩ := List.mem_map.mp hd
    obtain ⟨h1, h2, h3, h4⟩ := h.ch f hf
    obtain ⟨⟨b1, b2, b3, b4⟩, _⟩ := h.fl _ h1
    exact .inr ⟨_, rfl, al4 (fs_int (by show -100000 ≤ f.1; simp at b1; omega) (by show f.1 ≤ 100000; simp at b2; omega)) (fs_int (by show -100000 ≤ f.2.1; simp at b3; omega) (by show f.2.1 ≤ 100000; simp at b4; omega)) (fs_int (by omega) (by omega)) rfl, by show 4 ≤ 4; decide⟩
  · obtain ⟨f, hf, rfl⟩ := List.mem_map.mp hd
    obtain ⟨⟨b1, b2, b3, b4⟩, _⟩ := h.fl _ (h.sh f hf)
    exact .inr ⟨_, rfl, al2 (fs_int (by omega) (by omega)) (fs_int (by omega) (by omega)), by show 2 ≤ 4; decide⟩
  · obtain ⟨f, hf, rfl⟩ := List.mem_map.mp hd
    obtain ⟨⟨b1, b2, b3, b4⟩, _⟩ := h.fl _ hf
    exact .inr ⟨_, rfl, al2 (fs_int (by omega) (by omega)) (fs_int (by omega) (by omega)), by show 2 ≤ 4; decide⟩
  · obtain ⟨i, hi, rfl⟩ := List.mem_map.mp hd
    have := h.dv i hi
    exact fs_int (by omega) (by omega)
  · show (c.ps.map _).length ≤ 16
    rw [List.length_map]; omega
  · show (c.fr.map _).length ≤ 16
    rw [List.length_map]; omega
  · show (c.ch.map _).length ≤ 16
    rw [List.length_map]; omega
  · show (c.sh.map _).length ≤ 16
    rw [List.length_map]; omega
  · show (dints c.dv).length ≤ 16
    unfold dints
    rw [List.length_map]; omega
  · show (c.fl.map _).length ≤ 16
    rw [List.length_map]; exact h.fl16
theorem chk_none {kd : String} {n lo hi : Int} (h1 : lo ≤ n) (h2 : n ≤ hi) : chk kd n lo hi = none := if_pos ⟨h1, h2⟩
theorem chOf_chD (l : List Ch) : (l.map chD).map chOf = l := by
  rw [List.map_map]
  exact List.map_id'' (fun _ => rfl) l
theorem prOf_prD (l : List Pair) : (l.map prD).map prOf = l := by
  rw [List.map_map]
  exact List.map_id'' (fun _ => rfl) l
theorem may_in {fl : List Pair} {s t : Int} (h : (s, t) ∈ fl) : may fl s t = true := by
  unfold may
  rw [decide_eq_true h, Bool.or_true]
theorem gc_judge {c : Cfg} (h : c.Ok) : judgeF (gcOf c) = none := by
  have n2 := h.n2
  have l1 := h.n4
  have f1 := h.fr1
  have l2 := h.fr4
  have l3 := h.ch3
  have l4 := h.sh2
  have l5 := h.dv2
  have l6 := h.fl16
  have e1 : (gcOf c).ps.length = c.ps.length := List.length_map _
  have e2 : (gcOf c).fr.length = c.fr.length := List.length_map _
  have e3 : (gcOf c).ch.length = c.ch.length := List.length_map _
  have e4 : (gcOf c).sh.length = c.sh.length := List.length_map _
  have e5 : (gcOf c).dv.length = c.dv.length := List.length_map _
  have e6 : (gcOf c).fl.length = c.fl.length := List.length_map _
  have pr : ∀ f ∈ c.fl, goodPair ((gcOf c).ps.length : Int) (prD f) = true := fun f hf => by
    rw [e1]
    obtain ⟨⟨b1, b2, b3, b4⟩, hne⟩ := h.fl f hf
    exact diff_of b1 b2 b3 b4 hne
  have hcount : countF (gcOf c) = none := firstN_none fun j hj => by
    rcases (show j = 0 ∨ j = 1 ∨ j = 2 ∨ j = 3 ∨ j = 4 ∨ j = 5 by omega) with rfl | rfl | rfl | rfl | rfl | rfl
    · exact chk_none (by omega) (by omega)
    · exact chk_none (by omega) (by omega)
    · exact chk_none (by omega) (by omega)
    · exact chk_none (by omega) (by omega)
    · exact chk_none (by omega) (by omega)
    · exact chk_none (by omega) (by omega)
  have hshape : shapeF (gcOf c) = none := firstN_none fun j hj => by
    rcases (show j = 0 ∨ j = 1 ∨ j = 2 ∨ j = 3 ∨ j = 4 ∨ j = 5 ∨ j = 6 by omega) with rfl | rfl | rfl | rfl | rfl | rfl | rfl
    · refine badIn_none fun d hd => ?_
      obtain ⟨p, hp, rfl⟩ := List.mem_map.mp hd
      obtain ⟨x, hx, rfl⟩ := List.mem_map.mp hp
      obtain ⟨g1, g3, gl, gw⟩ := h.pg x hx
      show (isI (.int x.2) 1 8 && (isI (.int 0) 0 (16 * x.2 - 1) && (decide (((dints x.1).length : Int) ≤ 16 * x.2) && (dints x.1).all fun w => isI w 0 65535))) = true
      rw [isI_of g1 (by omega), isI_of (Int.le_refl 0) (by omega), decide_eq_true (by unfold dints; rw [List.length_map]; exact gl), Bool.true_and, Bool.true_and, Bool.true_and]
      refine List.all_eq_true.mpr fun d hd => ?_
      obtain ⟨i, hi, rfl⟩ := List.mem_map.mp hd
      have := gw i hi
      exact isI_of this.1 (by have := this.2; omega)
    · refine badIn_none fun d hd => ?_
      obtain ⟨f, hf, rfl⟩ := List.mem_map.mp hd
      obtain ⟨h1, h2, h3⟩ := h.fro f hf
      rw [e1]
      show (((match f.1 with | some i => D.int i | none => .non).isNon || isI (match f.1 with | some i => D.int i | none => .non) 0 ((c.ps.length : Int) - 1)) && isI (.int f.2) 128 4000) = true
      rw [isI_of h2 (by omega), Bool.and_true]
      cases e : f.1 with
      | none => rfl
      | some i =>
        have := h1 i e
        show (_ || isI (.int i) 0 ((c.ps.length : Int) - 1)) = true
        rw [isI_of this.1 (by omega), Bool.or_true]
    · refine badIn_none fun d hd => ?_
      obtain ⟨f, hf, rfl⟩ := List.mem_map.mp hd
      obtain ⟨h1, h2, h3, h4⟩ := h.ch f hf
      obtain ⟨⟨b1, b2, b3, b4⟩, hne⟩ := h.fl _ h1
      rw [e1]
      show (diff (c.ps.length : Int) (.int f.1) (.int f.2.1) && (isI (.int f.2.2.1) 1 8 && isB (.bool f.2.2.2))) = true
      rw [diff_of b1 b2 b3 b4 hne, isI_of h2 (by omega)]
      rfl
    · refine badIn_none fun d hd => ?_
      obtain ⟨f, hf, rfl⟩ := List.mem_map.mp hd
      exact pr f (h.sh f hf)
    · refine badIn_none fun d hd => ?_
      obtain ⟨i, hi, rfl⟩ := List.mem_map.mp hd
      have := h.dv i hi
      rw [e1]
      exact isI_of this.1 (by omega)
    · refine badIn_none fun d hd => ?_
      obtain ⟨f, hf, rfl⟩ := List.mem_map.mp hd
      exact pr f hf
    · refine badIn_none fun d hd => ?_
      obtain ⟨i, hi, rfl⟩ := List.mem_map.mp hd
      have hi := List.mem_range.mp hi
      rw [e1] at hi
      have hp : (gcOf c).ps[i]? = some ⟨dints (c.ps[i]).1, .int (c.ps[i]).2, .int 0⟩ := by
        show (c.ps.map _)[i]? = _
        rw [List.getElem?_map, List.getElem?_eq_getElem hi]
        rfl
      obtain ⟨g1, g3, _, _⟩ := h.pg c.ps[i] (List.getElem_mem hi)
      unfold pagesD
      simp only [Int.toNat_natCast]
      rw [hp]
      show decide ((c.ps[i]).2.toNat + nSh (gcOf c) (i : Int) + nDv (gcOf c) (i : Int) ≤ 8) = true
      have h1 : nSh (gcOf c) (i : Int) ≤ 2 := Nat.le_trans (List.length_filter_le _ _) (by omega)
      have h2 : nDv (gcOf c) (i : Int) ≤ 2 := Nat.le_trans (List.length_filter_le _ _) (by omega)
      rw [decide_eq_true_eq]
      omega
  unfold judgeF
  rw [hcount, hshape]
  show flowF ((c.ch.map chD).map chOf) ((c.sh.map prD).map prOf) ((c.fl.map prD).map prOf) = none
  rw [chOf_chD, prOf_prD, prOf_prD]
  unfold flowF
  have hc : firstN (chF c.fl c.ch) c.ch.length = none := firstN_none fun j hj => by
    unfold chF
    rw [List.getElem?_eq_getElem hj]
    obtain ⟨h1, h2, h3, h4⟩ := h.ch _ (List.getElem_mem hj)
    show (if (!may c.fl (c.ch[j]).1 (c.ch[j]).2.1) = true then _ else if ((c.ch[j]).2.2.2 && !may c.fl (c.ch[j]).2.1 (c.ch[j]).1) = true then _ else none) = none
    rw [may_in h1, if_neg (by simp)]
    refine if_neg fun z => ?_
    rw [Bool.and_eq_true] at z
    rw [may_in (h4 z.1)] at z
    exact nomatch z.2
  rw [hc]
  exact firstN_none fun j hj => by
    unfold shF
    rw [List.getElem?_eq_getElem hj]
    show (if (!may c.fl (c.sh[j]).1 (c.sh[j]).2) = true then _ else none) = none
    rw [may_in (s := (c.sh[j]).1) (t := (c.sh[j]).2) (h.sh _ (List.getElem_mem hj)), if_neg (by simp)]
end K31
end

section
set_option linter.all false
set_option maxRecDepth 100000
set_option maxHeartbeats 1000000
set_option pp.deepTerms false
namespace K31
open PySem L2 Evl Wv

/-! ### the law -/
def optCase (o : Option T) (P : T → Prop) : Prop := match o with
  | some t => P t
  | none => False
theorem mt2 {o : Option T} {t : T} {P : T → Prop} (e : o = some t) (h : P t) : optCase o P := by
  subst e
  exact h
theorem ls_init {as : List Addr} {L : List (List D)} (ha : as.length = 6) (hL : L.length = 6) : Ls as [0, 1, 2, 3, 4, 5] (List.zipWith T.nm as (L.map dT)) L := by
  have h6 : ∀ q r : Nat, [0, 1, 2, 3, 4, 5][q]? = some r → r = q := fun q r h => by
    have hq : q < 6 := (List.getElem?_eq_some_iff.mp h).1
    rcases (show q = 0 ∨ q = 1 ∨ q = 2 ∨ q = 3 ∨ q = 4 ∨ q = 5 by omega) with rfl | rfl | rfl | rfl | rfl | rfl <;> (cases h; rfl)
  refine ⟨ha, rfl, hL, fun i j r hi hj => by rw [← h6 i r hi, ← h6 j r hj], fun q a r l h1 h2 h3 => ?_⟩
  have e := h6 q r h2
  subst e
  rw [List.getElem?_zipWith, h1, List.getElem?_map, h3]
  rfl
def LsF (as : List Addr) (rs : List Nat) (rest : Roots) (L : List (List D)) (k : Nat) : Prop := ∀ (q : Nat) a r l, k ≤ q → as[q]? = some a → rs[q]? = some r → L[q]? = some l → rest[r]? = some (.nm a (dT l))
theorem LsF.step {as : List Addr} {rs : List Nat} {rest : Roots} {L : List (List D)} {k : Nat} (nd : ∀ (i j r : Nat), rs[i]? = some r → rs[j]? = some r → i = j) (h : LsF as rs rest L k) {r : Nat} (hr : rs[k]? = some r) (v : T) : LsF as rs (rest.set r v) L (k + 1) := fun q a r' l hk h1 h2 h3 => by
  have ne : r ≠ r' := fun z => by
    have := nd k q r hr (by rw [z]; exact h2)
    omega
  rw [List.getElem?_set_ne ne]
  exact h q a r' l (by omega) h1 h2 h3
theorem frz_toD (a : Addr) (l : List D) (rt : Roots) : seqOf (.dat (T.nm a (dT l)).toD) rt = some l := seq_toD l rt
/-- a configuration is made where the roots are any -/
theorem mk_conf (s x : T) (rest : Roots) {x1 x2 x3 x4 x5 x6 : D} {d1 d2 d3 d4 d5 d6 : List D} (a1 : ∀ rt, seqOf (.dat x1) rt = some d1) (a2 : ∀ rt, seqOf (.dat x2) rt = some d2) (a3 : ∀ rt, seqOf (.dat x3) rt = some d3) (a4 : ∀ rt, seqOf (.dat x4) rt = some d4) (a5 : ∀ rt, seqOf (.dat x5) rt = some d5) (a6 : ∀ rt, seqOf (.dat x6) rt = some d6)
    (k : T → Roots → Prop) (ex : Exn → Slots → Roots → Prop) (hk : k (.obj 1 [.dat (.tup d1), .dat (.tup d2), .dat (.tup d3), .dat (.tup d4), .dat (.tup d5), .dat (.tup d6)]) (s :: x :: rest)) :
    wMake 1 cConfigInit (fun _ rt kk => kk [.dat x1, .dat x2, .dat x3, .dat x4, .dat x5, .dat x6] rt) ⟨[], ex⟩ (s :: x :: rest) k := by
  have e1 : plc [Val.ref (s :: x :: rest).length [], .dat x1, .dat x2, .dat x3, .dat x4, .dat x5, .dat x6] = [((s :: x :: rest).length, [])] := rfl
  have e2 : ren [Val.ref (s :: x :: rest).length [], .dat x1, .dat x2, .dat x3, .dat x4, .dat x5, .dat x6] = [.ref 0 [], .dat x1, .dat x2, .dat x3, .dat x4, .dat x5, .dat x6] := by
    show [Val.ref (List.idxOf (s :: x :: rest).length [(s :: x :: rest).length]) [], Val.dat x1, Val.dat x2, Val.dat x3, Val.dat x4, Val.dat x5, Val.dat x6] = _
    rw [show List.idxOf (s :: x :: rest).length [(s :: x :: rest).length] = 0 by simp]
  have e3 : getR ((s :: x :: rest) ++ [T.obj 1 []]) [((s :: x :: rest).length, [])] = some [T.obj 1 []] := by
    have : tatN ((s :: x :: rest) ++ [T.obj 1 []]) (s :: x :: rest).length [] = some (T.obj 1 []) := by
      unfold tatN
      rw [List.getElem?_append_right (Nat.le_refl _), Nat.sub_self]
      rfl
    simp only [getR, this]
  unfold wMake
  show dst (plc [Val.ref (s :: x :: rest).length [], .dat x1, .dat x2, .dat x3, .dat x4, .dat x5, .dat x6]) = true ∧ _
  refine ⟨by rw [e1]; rfl, ?_⟩
  simp only [e1, e2, e3]
  refine spec_cinit a1 a2 a3 a4 a5 a6 _ _ ⟨rfl, ?_⟩
  generalize ho : T.obj 1 [.dat (.tup d1), .dat (.tup d2), .dat (.tup d3), .dat (.tup d4), .dat (.tup d5), .dat (.tup d6)] = o at hk
  have hs : o.strip = o := by rw [← ho]; rfl
  have e4 : putR ((s :: x :: rest) ++ [T.obj 1 []]) [((s :: x :: rest).length, [])] [o] = (s :: x :: rest) ++ [o] := by
    show ((s :: x :: rest) ++ [T.obj 1 []]).modify (s :: x :: rest).length _ = _
    refine List.ext_getElem? fun i => ?_
    rw [mod_at]
    split
    · rename_i z
      subst z
      rw [List.getElem?_append_right (Nat.le_refl _), List.getElem?_append_right (Nat.le_refl _), Nat.sub_self]
      show some (T.over (fun _ => o.strip) (T.obj 1 [])) = some o
      rw [hs]
      rfl
    · rename_i z
      by_cases y : i < (s :: x :: rest).length
      · rw [List.getElem?_append_left y, List.getElem?_append_left y]
      · rw [List.getElem?_eq_none, List.getElem?_eq_none]
        · rw [List.length_append]; show (s :: x :: rest).length + 1 ≤ i; omega
        · rw [List.length_append]; show (s :: x :: rest).length + 1 ≤ i; omega
  rw [e4, List.getElem?_append_right (Nat.le_refl _), Nat.sub_self]
  show k o (((s :: x :: rest) ++ _).take _)
  rw [List.take_left']
  · exact hk
  · rfl
theorem spec_pfields (p : Gp) (k : T → Roots → Prop) (kx : Exn → Roots → Prop) (hk : k (.dat (.tup [.tup p.im, p.pg, p.st])) []) : cPartitionFields [.dat (gpD p)] [] k kx := by
  unfold cPartitionFields cwOf
  refine ⟨rfl, ?_⟩
  unfold wdPartitionFields
  exact ⟨by show 3 ≤ 1000; decide, hk⟩
theorem lst_py {ds : List D} {w dep : Nat} (h : Sm (.lst ds) w dep) : ∃ ps, (D.lst ds).py = some (.list ps) ∧ Pw (.list ps) w dep := by
  obtain ⟨p, e, hp⟩ := h
  have e2 := e
  simp only [D.py] at e2
  obtain ⟨ps, _, rfl⟩ := Option.map_eq_some_iff.mp e2
  exact ⟨ps, e, hp⟩
theorem tup_py {ds : List D} {w dep : Nat} (h : Sm (.tup ds) w dep) : ∃ ps, (D.tup ds).py = some (.tuple ps) ∧ Pw (.tuple ps) w dep := by
  obtain ⟨p, e, hp⟩ := h
  have e2 := e
  simp only [D.py] at e2
  obtain ⟨ps, _, rfl⟩ := Option.map_eq_some_iff.mp e2
  exact ⟨ps, e, hp⟩
theorem kept_go {c : GC} (h : GOk c 176) : ∃ s : Str, ∀ (x0 x1 x2 x3 x4 x5 x7 x8 x9 : Option Val) (ex : Exn → Slots → Roots → Prop) (rt : Roots) (K : Val → Roots → Prop), K (.dat (.str s)) rt →
    (wAdd (wCB fRepr (wCons (wFrz (wLc (wItT (wFld fld_partitions (wVar 6))) (tgName 4) [4] wYes (wMeth 0 cPartitionFields (wVar 4) wNil))) wNil)) (wCB fRepr (wCons (wSlT (wFrz (wMeth 1 cConfigFields (wVar 6) wNil)) (wPart (wC (.int 1))) wNo) wNil))) ⟨[x0, x1, x2, x3, x4, x5, some (.dat c.D), x7, x8, x9], ex⟩ rt K := by
  obtain ⟨ps, e1, p1⟩ := lst_py (sm_parts h)
  obtain ⟨qs, e2, p2⟩ := tup_py (sm_rest h)
  refine ⟨(PyData.list ps).shown ++ (PyData.tuple qs).shown, fun x0 x1 x2 x3 x4 x5 x7 x8 x9 ex rt K hK => ?_⟩
  have l1 := p1.len
  have l2 := p2.len
  have d1 := p1.dp
  have d2 := p2.dp
  have sl : sizeLine = 16777216 := by decide +kernel
  refine ⟨fun i acc rt' => acc = ((partsL c).take i).map .dat ∧ rt' = rt, ⟨rfl, rfl⟩, ?_, ?_⟩
  · rintro i d _ _ hd ⟨rfl, rfl⟩
    have hd : (c.ps.map gpD)[i]? = some d := hd
    rw [List.getElem?_map] at hd
    obtain ⟨p, hp, rfl⟩ := Option.map_eq_some_iff.mp hd
    have hi := (List.getElem?_eq_some_iff.mp hp).1
    have hlp := h.lps
    have e : (partsL c).take (i + 1) = (partsL c).take i ++ [.tup [.tup p.im, p.pg, p.st]] := by
      unfold partsL
      rw [List.take_succ, List.getElem?_map, hp]
      rfl
    refine ⟨by rw [List.length_map, List.length_take]; omega, fun _ => ⟨rfl, rfl, spec_pfields p _ _ ?_⟩, fun z => (nomatch z)⟩
    refine ⟨?_, rfl⟩
    rw [e, List.map_append]
    rfl
  · rintro _ _ ⟨rfl, rfl⟩
    have et : (partsL c).take (c.ps.map gpD).length = partsL c := by
      rw [List.length_map]
      exact List.take_of_length_le (by unfold partsL; rw [List.length_map]; exact Nat.le_refl _)
    rw [et]
    simp only [toD_dats]
    refine ⟨_, e1, trivial, p1.ok, p1.nd, by omega, by omega, rfl, rfl, spec_cfields c _ _ ?_⟩
    refine ⟨_, e2, trivial, p2.ok, p2.nd, by omega, by omega, by omega, hK⟩
end K31
end

section
set_option linter.all false
set_option maxRecDepth 100000
set_option maxHeartbeats 1000000
set_option pp.deepTerms false
namespace K31
open PySem L2 Evl Wv

theorem due_go {d : D} (h : Due d) : ∃ p, d.py = some p ∧ SeqAt.shaped p = true ∧ PyData.eqv p p = true ∧ (match p with | .none => True | .list _ => True | .tuple _ => True | _ => False) ∧ p.showable = true ∧ p.hasDict = false ∧ p.depth ≤ 60 ∧ p.shown.length ≤ sizeLine := by
  obtain ⟨p, e, hp, hk⟩ := h.py
  have sl : sizeLine = 16777216 := by decide +kernel
  have l := hp.len
  have d := hp.dp
  refine ⟨p, e, ?_, PySem.SeqAt.eqv_refl p hp.lay, ?_, hp.ok, hp.nd, by omega, by omega⟩
  · unfold SeqAt.shaped
    rw [hp.lay, Bool.true_and, decide_eq_true_eq]
    omega
  · rcases hk with rfl | ⟨ps, rfl⟩ <;> trivial
theorem seq_asg {i : Nat} {w : WE} {R : WS} {Z : WEnds} {sl : Slots} {rt : Roots} {x : Val} (h : ∀ K : Val → Roots → Prop, K x rt → w ⟨sl, Z.ex⟩ rt K) (hz : R Z (sl.set i (some x)) rt) : wSeq (wAsg i w) R Z sl rt := h _ hz
theorem ret_bin {f : Sem2} {w1 w2 : WE} {Z : WEnds} {sl : Slots} {rt : Roots} {x : Val} (h : ∀ K : Val → Roots → Prop, K x rt → w1 ⟨sl, Z.ex⟩ rt K) (hz : w2 ⟨sl, Z.ex⟩ rt fun y rt2 => f x y rt2 fun d => Z.rt (.dat d) rt2) : wRet (wBin f w1 w2) Z sl rt := h _ hz
theorem spec_flowG (c : GC) (e : countF c = none) (e2 : shapeF c = none) (k : T → Roots → Prop) (kx : Exn → Roots → Prop) (hk : k (.dat (optD (flowG c))) []) : cFlowFault [.dat c.D] [] k kx := by
  have hs := firstN_conv e2
  have hc := firstN_conv e 2 (by decide)
  refine spec_flow c (c.ch.map chOf) (c.sh.map prOf) (c.fl.map prOf) (map_of chD chOf _ fun d hd => (chan_of (badIn_good (hs 2 (by decide)) d hd)).1) (map_of prD prOf _ fun d hd => (pair_of (badIn_good (hs 3 (by decide)) d hd)).1) (map_of prD prOf _ fun d hd => (pair_of (badIn_good (hs 5 (by decide)) d hd)).1) ?_ _ _ hk
  rw [List.length_map]
  have hc : chk "channels" (c.ch.length : Int) 0 12 = none := hc
  unfold chk at hc
  split at hc
  · omega
  · cases hc
theorem the_law (cs : List Int) (k : T → Roots → Prop) (kx : Exn → Roots → Prop) (hk : k (.dat (.bool true)) []) : cLaw [.dat (.ro (dints cs))] [] k kx := by
  unfold cLaw cwOf
  refine ⟨rfl, ?_⟩
  unfold wdLaw
  have q2 : 2 ≤ 1000 := by decide
  refine ⟨q2, rfl, spec_config _ _ cs _ _ fun c0 i j hc => ?_⟩
  have hg := gc_ok hc
  have hj := gc_judge hc
  have eD : c0.T.toD = (gcOf c0).D := by rw [Cfg.toD, gcOf_D]
  simp only [eD]
  have hp2 : 1 ≤ (gcOf c0).ps.length := by
    show 1 ≤ (c0.ps.map _).length
    rw [List.length_map]
    have := hc.n2
    omega
  generalize gcOf c0 = g at hg hj hp2 ⊢
  clear hc eD
  refine ⟨rfl, spec_judge g (hg.v (by decide)) _ _ ?_⟩
  rw [hj]
  refine ⟨fun z => (nomatch z), fun _ => ?_⟩
  refine ⟨rfl, rfl, spec_cfields g _ _ ?_⟩
  refine ⟨fun m acc rt => acc = ((fldsL g).take m).map dT ∧ rt = [dst2 i j], ⟨rfl, rfl⟩, ?_, ?_⟩
  · rintro m d _ _ hd ⟨rfl, rfl⟩
    have hd : ((fldsL g).map D.tup)[m]? = some d := hd
    rw [List.getElem?_map] at hd
    obtain ⟨l, hl, rfl⟩ := Option.map_eq_some_iff.mp hd
    have hm := (List.getElem?_eq_some_iff.mp hl).1
    have hm : m < 6 := hm
    refine ⟨by rw [List.length_map, List.length_take]; omega, fun _ => ⟨l, rfl, ?_, rfl⟩, fun z => (nomatch z)⟩
    rw [List.take_succ, hl, List.map_append]
    rfl
  · rintro _ _ ⟨rfl, rfl⟩
    refine ⟨rfl, fun as has => ?_⟩
    have has : as.length = 6 := has
    have hL := ls_init (L := fldsL g) has rfl
    refine ⟨fun sl rt => ∃ (c : GC) (i j : Int) (as : List Addr) (rs : List Nat) (rest : Roots) (x2 x4 x5 : Option Val), sl = [some (.dat (.ro (dints cs))), some (.ref 0 []), x2, some (.ref 1 []), x4, x5, none, none, none, none] ∧ rt = dst2 i j :: .lst (as.map cstT) :: rest ∧ Ls as rs rest (fldsL c) ∧ GOk c 176, ?_, ?_⟩
    · refine ⟨rfl, spec_draw _ _ cs 2 (by decide) (by decide) _ _ fun u i j u0 u1 => ⟨by omega, by omega, ?_⟩⟩
      refine ⟨fun m sl rt => ∃ (c : GC) (i j : Int) (as : List Addr) (rs : List Nat) (rest : Roots) (x2 x4 x5 : Option Val), sl = [some (.dat (.ro (dints cs))), some (.ref 0 []), x2, some (.ref 1 []), x4, x5, none, none, none, none] ∧ rt = dst2 i j :: .lst (as.map cstT) :: rest ∧ Ls as rs rest (fldsL c) ∧ GOk c (16 + 80 * m), ⟨g, i, j, as, _, _, _, _, _, rfl, rfl, hL, hg⟩, ?_, ?_⟩
      · rintro m d _ _ hd ⟨c, i, j, as, rs, rest, x2, x4, x5, rfl, rfl, hL, hc⟩
        have hm := (List.getElem?_eq_some_iff.mp hd).1
        have hm : m < 2 := by
          simp at hm
          omega
        obtain ⟨a0, r0, ha0, hr0, ht0⟩ := hL.get (q := 0) rfl
        refine ⟨0, _, ixq ha0, atq ha0, r0 + 2, _, ht0, rfl, ?_⟩
        refine mt (o := tat (dst2 i j :: .lst (as.map cstT) :: rest) (r0 + 2) []) (tat_rest ht0) ?_
        refine ⟨fun z => ?_, fun _ => .inl ⟨c, i, j, as, rs, rest, _, _, _, rfl, rfl, hL, hc.mono (by omega)⟩⟩
        have z : decide ((0 : Int) < (((c.ps.map gpD).map T.dat).length : Int)) = true := z
        rw [decide_eq_true_eq, List.length_map, List.length_map] at z
        exact spec_changed i j cs c _ (by omega) hc (by omega) as rs rest hL _ fun c' i' j' as' rs' rest' hc' hL' => .inl ⟨c', i', j', as', rs', rest', _, _, _, rfl, rfl, hL', hc'.mono (by omega)⟩
      · rintro _ _ ⟨c, i, j, as, rs, rest, x2, x4, x5, rfl, rfl, hL, hc⟩
        refine ⟨c, i, j, as, rs, rest, _, _, _, rfl, rfl, hL, hc.mono ?_⟩
        rw [List.length_map, List.length_range]
        omega
    · rintro _ _ ⟨c, i, j, as, rs, rest, x2, x4, x5, rfl, rfl, hL, hc⟩
      have F0 : LsF as rs rest (fldsL c) 0 := fun q a r l _ h1 h2 h3 => hL.at_ q a r l h1 h2 h3
      obtain ⟨a0, r0, ha0, hr0, _⟩ := hL.get (q := 0) rfl
      have ht0 := F0 0 a0 r0 _ (Nat.le_refl _) ha0 hr0 rfl
      refine ⟨0, _, ixq ha0, atq ha0, r0 + 2, _, ht0, rfl, ?_⟩
      refine mt2 (o := (dst2 i j :: .lst (as.map cstT) :: rest)[r0 + 2]?) ht0 ?_
      have F1 := F0.step hL.nd hr0 (.dat (T.nm a0 (dT (c.ps.map gpD))).toD)
      obtain ⟨a1, r1, ha1, hr1, _⟩ := hL.get (q := 1) rfl
      have ht1 := F1 1 a1 r1 _ (Nat.le_refl _) ha1 hr1 rfl
      refine ⟨1, _, ixq ha1, atq ha1, r1 + 2, _, ht1, rfl, ?_⟩
      refine mt2 (o := (dst2 i j :: .lst (as.map cstT) :: (rest.set r0 (.dat (T.nm a0 (dT (c.ps.map gpD))).toD)))[r1 + 2]?) ht1 ?_
      have F2 := F1.step hL.nd hr1 (.dat (T.nm a1 (dT c.fr)).toD)
      obtain ⟨a2, r2, ha2, hr2, _⟩ := hL.get (q := 2) rfl
      have ht2 := F2 2 a2 r2 _ (Nat.le_refl _) ha2 hr2 rfl
      refine ⟨2, _, ixq ha2, atq ha2, r2 + 2, _, ht2, rfl, ?_⟩
      refine mt2 (o := (dst2 i j :: .lst (as.map cstT) :: ((rest.set r0 (.dat (T.nm a0 (dT (c.ps.map gpD))).toD)).set r1 (.dat (T.nm a1 (dT c.fr)).toD)))[r2 + 2]?) ht2 ?_
      have F3 := F2.step hL.nd hr2 (.dat (T.nm a2 (dT c.ch)).toD)
      obtain ⟨a3, r3, ha3, hr3, _⟩ := hL.get (q := 3) rfl
      have ht3 := F3 3 a3 r3 _ (Nat.le_refl _) ha3 hr3 rfl
      refine ⟨3, _, ixq ha3, atq ha3, r3 + 2, _, ht3, rfl, ?_⟩
      refine mt2 (o := (dst2 i j :: .lst (as.map cstT) :: (((rest.set r0 (.dat (T.nm a0 (dT (c.ps.map gpD))).toD)).set r1 (.dat (T.nm a1 (dT c.fr)).toD)).set r2 (.dat (T.nm a2 (dT c.ch)).toD)))[r3 + 2]?) ht3 ?_
      have F4 := F3.step hL.nd hr3 (.dat (T.nm a3 (dT c.sh)).toD)
      obtain ⟨a4, r4, ha4, hr4, _⟩ := hL.get (q := 4) rfl
      have ht4 := F4 4 a4 r4 _ (Nat.le_refl _) ha4 hr4 rfl
      refine ⟨4, _, ixq ha4, atq ha4, r4 + 2, _, ht4, rfl, ?_⟩
      refine mt2 (o := (dst2 i j :: .lst (as.map cstT) :: ((((rest.set r0 (.dat (T.nm a0 (dT (c.ps.map gpD))).toD)).set r1 (.dat (T.nm a1 (dT c.fr)).toD)).set r2 (.dat (T.nm a2 (dT c.ch)).toD)).set r3 (.dat (T.nm a3 (dT c.sh)).toD)))[r4 + 2]?) ht4 ?_
      have F5 := F4.step hL.nd hr4 (.dat (T.nm a4 (dT c.dv)).toD)
      obtain ⟨a5, r5, ha5, hr5, _⟩ := hL.get (q := 5) rfl
      have ht5 := F5 5 a5 r5 _ (Nat.le_refl _) ha5 hr5 rfl
      refine ⟨5, _, ixq ha5, atq ha5, r5 + 2, _, ht5, rfl, ?_⟩
      refine mt2 (o := (dst2 i j :: .lst (as.map cstT) :: (((((rest.set r0 (.dat (T.nm a0 (dT (c.ps.map gpD))).toD)).set r1 (.dat (T.nm a1 (dT c.fr)).toD)).set r2 (.dat (T.nm a2 (dT c.ch)).toD)).set r3 (.dat (T.nm a3 (dT c.sh)).toD)).set r4 (.dat (T.nm a4 (dT c.dv)).toD)))[r5 + 2]?) ht5 ?_
      have F6 := F5.step hL.nd hr5 (.dat (T.nm a5 (dT c.fl)).toD)
      refine mk_conf (dst2 i j) (.lst (as.map cstT)) ((((((rest.set r0 (.dat (T.nm a0 (dT (c.ps.map gpD))).toD)).set r1 (.dat (T.nm a1 (dT c.fr)).toD)).set r2 (.dat (T.nm a2 (dT c.ch)).toD)).set r3 (.dat (T.nm a3 (dT c.sh)).toD)).set r4 (.dat (T.nm a4 (dT c.dv)).toD)).set r5 (.dat (T.nm a5 (dT c.fl)).toD)) (frz_toD _ _) (frz_toD _ _) (frz_toD _ _) (frz_toD _ _) (frz_toD _ _) (frz_toD _ _) _ (fun _ _ _ => False) ?_
      obtain ⟨ks, hks⟩ := kept_go hc
      have hv := hc.v (by decide)
      have hl := hc.l (by decide)
      generalize ((((((rest.set r0 (.dat (T.nm a0 (dT (c.ps.map gpD))).toD)).set r1 (.dat (T.nm a1 (dT c.fr)).toD)).set r2 (.dat (T.nm a2 (dT c.ch)).toD)).set r3 (.dat (T.nm a3 (dT c.sh)).toD)).set r4 (.dat (T.nm a4 (dT c.dv)).toD)).set r5 (.dat (T.nm a5 (dT c.fl)).toD)) = rest'
      refine seq_asg (x := .dat (.str ks)) (fun K hK => hks _ _ _ _ _ _ _ _ _ _ _ K hK) ?_
      refine ⟨rfl, spec_lfault c hv hl _ _ ?_⟩
      have hd : Due (optD (judgeF c)) := due_of fun d e => judge_ft hc (by decide) e
      obtain ⟨p, e, hsh, heq, hm, hs, hn, hdp, hle⟩ := due_go hd
      refine ⟨rfl, rfl, spec_judge c hv _ _ ⟨p, p, e, e, hsh, hsh, false, fun _ => ⟨rfl, spec_judge c hv _ _ ⟨p, e, hm, hs, hn, hdp, hle, p, e, hm, hs, hn, hdp, hle, ?_, rfl⟩⟩, fun z => ?_, fun _ => ?_⟩⟩
      · show (if true = true then !decide (p.shown = p.shown) else decide (p.shown = p.shown)) = false
        simp
      · have z : ((if true = true then !PyData.eqv p p else PyData.eqv p p) || false) = true := z
        rw [heq] at z
        simp at z
      cases e1 : countF c with
      | some d =>
        obtain ⟨s, n, rfl⟩ := countF_tup e1
        have es : stageF c = 0 := by unfold stageF; rw [e1]
        rw [es]
        refine ⟨rfl, spec_count c _ _ ?_⟩
        rw [e1]
        refine ⟨false, fun _ => ⟨false, fun z => ?_, rfl, rfl⟩, fun z => ?_, fun _ => ?_⟩
        · exact absurd (of_decide_eq_true z) (by decide)
        · have z : (!decide (false = decide ((0 : Int) < 0)) || false) = true := z
          exact absurd z (by decide)
        · refine ⟨false, fun z => absurd (of_decide_eq_true z) (by decide), fun z => absurd z (by decide), fun _ => ?_⟩
          refine ret_bin (x := .dat (.str ks)) (fun K hK => hks _ _ _ _ _ _ _ _ _ _ _ K hK) ?_
          show k (T.dat (.bool (decide (ks = ks)))) _
          rw [decide_eq_true rfl]
          exact hk
      | none =>
        cases e2 : shapeF c with
        | some d =>
          obtain ⟨s, n, rfl⟩ := shapeF_tup e2
          have es : stageF c = 1 := by unfold stageF; rw [e1, e2]
          rw [es]
          refine ⟨rfl, spec_count c _ _ ?_⟩
          rw [e1]
          refine ⟨false, fun _ => ⟨false, fun z => ⟨rfl, spec_shape c hv _ _ ?_⟩, rfl, rfl⟩, fun z => ?_, fun _ => ?_⟩
          · rw [e2]
            refine ⟨?_, rfl⟩
            show (!decide (false = decide ((1 : Int) < 1))) = false
            decide
          · exact absurd z (by decide)
          · refine ⟨false, fun z => absurd (of_decide_eq_true z) (by decide), fun z => absurd z (by decide), fun _ => ?_⟩
            refine ret_bin (x := .dat (.str ks)) (fun K hK => hks _ _ _ _ _ _ _ _ _ _ _ K hK) ?_
            show k (T.dat (.bool (decide (ks = ks)))) _
            rw [decide_eq_true rfl]
            exact hk
        | none =>
          have ej : judgeF c = flowG c := by unfold judgeF; rw [e1, e2]
          have es : 1 < stageF c := by
            unfold stageF
            rw [e1, e2]
            cases flowG c with
            | none => show (1 : Int) < 3; decide
            | some _ => show (1 : Int) < 2; decide
          generalize stageF c = st at es ⊢
          have d0 : decide (0 < st) = true := decide_eq_true (by omega)
          have d1 : decide (1 < st) = true := decide_eq_true es
          refine ⟨rfl, spec_count c _ _ ?_⟩
          rw [e1]
          refine ⟨false, fun _ => ⟨false, fun z => ⟨rfl, spec_shape c hv _ _ ?_⟩, ?_, rfl⟩, fun z => ?_, fun _ => ?_⟩
          · rw [e2]
            refine ⟨?_, rfl⟩
            show (if true = true then !decide (true = decide (1 < st)) else _) = false
            rw [d1]
            rfl
          · show (decide (0 < st) && false) = false
            rw [Bool.and_false]
          · have z : ((if true = true then !decide (true = decide (0 < st)) else decide (true = decide (0 < st))) || false) = true := z
            rw [d0] at z
            exact absurd z (by decide)
          · refine ⟨false, fun z => ⟨rfl, spec_flowG c e1 e2 _ _ ?_⟩, fun z => ?_, fun _ => ?_⟩
            · rw [← ej]
              refine ⟨p, p, e, e, hsh, hsh, ?_, rfl⟩
              show (if true = true then !PyData.eqv p p else _) = false
              rw [heq]
              rfl
            · have z : (decide (1 < st) && false) = true := z
              rw [Bool.and_false] at z
              cases z
            · refine ret_bin (x := .dat (.str ks)) (fun K hK => hks _ _ _ _ _ _ _ _ _ _ _ K hK) ?_
              show k (T.dat (.bool (decide (ks = ks)))) _
              rw [decide_eq_true rfl]
              exact hk
end K31
end

section
set_option Elab.async false
set_option linter.all false
set_option maxRecDepth 100000
set_option maxHeartbeats 4000000
namespace K31
open PySem PySem.Spec PyProof.Rows L2 Evl Wv
theorem dr_fn {K : PySem.W.Frag} {C : Cs} {G : Hp} {a : Addr} (j : Nat) (e : C.fn j = a) : DR K C G (.ref a) (.fn j) := e ▸ DR.fn j
def spLaw (K : PySem.W.Frag) : Sp := fun vs H Q _ => ∃ (a : Addr) (ns : List Int), vs = [.ref a] ∧ SqL K H a (ns.map V.int) ∧ ns.length ≤ 63 ∧ ∀ H', Q (.bl true) H'
theorem ok_fin {P : Program} {w : World} {K : PySem.W.Frag} {mg : Str → Option Value} {base : Heap} (T : Tx K w mg) : FnG P w K mg base 8 T.aLaw T.fdLaw PLaw (spLaw K) :=
  (ok_law T).weak fun vs H Q E h => by
    obtain ⟨a, ns, rfl, hS, hl, q⟩ := h
    refine ⟨H, [], [], [.dat (.ro (dints ns))], [], fun t rt => t = .dat (.bool true) ∧ rt = [], fun _ _ => False, ⟨Ex.refl _, .nil, List.nodup_nil, fun _ z => (nomatch z)⟩, .cons (DR.ro hS (DRs.of_ints ns)) .nil, the_law ns _ _ ⟨rfl, rfl⟩, ?_, fun _ _ _ _ _ _ _ _ _ _ z => z⟩
    rintro t rt' fps' fp G' H' v _ _ o _ ⟨rfl, rfl⟩
    cases o.tr with
    | dat h => cases h; exact q _
theorem all_mk {l : PySem.W.OpenLaw} {w : World} {K : PySem.W.Frag} {h : Heap} {mg : Str → Option Value} {fa : Addr} (X : K.In h) (G : h.Ns mainGlobals mg) (hfa : mg "law" = some (.ref fa))
    {wFITTING : Addr} {esFITTING : Array DictEntry} {nnFITTING : Nat}
    {C0 : Addr}
    {C1 : Addr}
    {f0 : Addr} {od0 an0 : Option Addr} {sl0 : Array (Option Value)} {oc0 kV0 dc0 pm0 cd0 ct0 : Value}
    {f1 : Addr} {od1 an1 : Option Addr} {sl1 : Array (Option Value)} {oc1 kV1 dc1 pm1 cd1 ct1 : Value}
    {f2 : Addr} {od2 an2 : Option Addr} {sl2 : Array (Option Value)} {oc2 kV2 dc2 pm2 cd2 ct2 : Value}
    {f3 : Addr} {od3 an3 : Option Addr} {sl3 : Array (Option Value)} {oc3 kV3 dc3 pm3 cd3 ct3 : Value}
    {f4 : Addr} {od4 an4 : Option Addr} {sl4 : Array (Option Value)} {oc4 kV4 dc4 pm4 cd4 ct4 : Value}
    {f5 : Addr} {od5 an5 : Option Addr} {sl5 : Array (Option Value)} {oc5 kV5 dc5 pm5 cd5 ct5 : Value}
    {f6 : Addr} {od6 an6 : Option Addr} {sl6 : Array (Option Value)} {oc6 kV6 dc6 pm6 cd6 ct6 : Value}
    {f7 : Addr} {od7 an7 : Option Addr} {sl7 : Array (Option Value)} {oc7 kV7 dc7 pm7 cd7 ct7 : Value}
    {f8 : Addr} {od8 an8 : Option Addr} {sl8 : Array (Option Value)} {oc8 kV8 dc8 pm8 cd8 ct8 : Value}
    {f9 : Addr} {od9 an9 : Option Addr} {sl9 : Array (Option Value)} {oc9 kV9 dc9 pm9 cd9 ct9 : Value}
    {f10 : Addr} {od10 an10 : Option Addr} {sl10 : Array (Option Value)} {oc10 kV10 dc10 pm10 cd10 ct10 : Value}
    {f11 : Addr} {od11 an11 : Option Addr} {sl11 : Array (Option Value)} {oc11 kV11 dc11 pm11 cd11 ct11 : Value}
    {f12 : Addr} {od12 an12 : Option Addr} {sl12 : Array (Option Value)} {oc12 kV12 dc12 pm12 cd12 ct12 : Value}
    {f13 : Addr} {od13 an13 : Option Addr} {sl13 : Array (Option Value)} {oc13 kV13 dc13 pm13 cd13 ct13 : Value}
    {f14 : Addr} {od14 an14 : Option Addr} {sl14 : Array (Option Value)} {oc14 kV14 dc14 pm14 cd14 ct14 : Value}
    {f15 : Addr} {od15 an15 : Option Addr} {sl15 : Array (Option Value)} {oc15 kV15 dc15 pm15 cd15 ct15 : Value}
    {f16 : Addr} {od16 an16 : Option Addr} {sl16 : Array (Option Value)} {oc16 kV16 dc16 pm16 cd16 ct16 : Value}
    {f17 : Addr} {od17 an17 : Option Addr} {sl17 : Array (Option Value)} {oc17 kV17 dc17 pm17 cd17 ct17 : Value}
    {f18 : Addr} {od18 an18 : Option Addr} {sl18 : Array (Option Value)} {oc18 kV18 dc18 pm18 cd18 ct18 : Value}
    {f19 : Addr} {od19 an19 : Option Addr} {sl19 : Array (Option Value)} {oc19 kV19 dc19 pm19 cd19 ct19 : Value}
    {f20 : Addr} {od20 an20 : Option Addr} {sl20 : Array (Option Value)} {oc20 kV20 dc20 pm20 cd20 ct20 : Value}
    {f21 : Addr} {od21 an21 : Option Addr} {sl21 : Array (Option Value)} {oc21 kV21 dc21 pm21 cd21 ct21 : Value}
    {f22 : Addr} {od22 an22 : Option Addr} {sl22 : Array (Option Value)} {oc22 kV22 dc22 pm22 cd22 ct22 : Value}
    {f23 : Addr} {od23 an23 : Option Addr} {sl23 : Array (Option Value)} {oc23 kV23 dc23 pm23 cd23 ct23 : Value}
    {f24 : Addr} {od24 an24 : Option Addr} {sl24 : Array (Option Value)} {oc24 kV24 dc24 pm24 cd24 ct24 : Value}
    {f25 : Addr} {od25 an25 : Option Addr} {sl25 : Array (Option Value)} {oc25 kV25 dc25 pm25 cd25 ct25 : Value}
    {f26 : Addr} {od26 an26 : Option Addr} {sl26 : Array (Option Value)} {oc26 kV26 dc26 pm26 cd26 ct26 : Value}
    {f27 : Addr} {od27 an27 : Option Addr} {sl27 : Array (Option Value)} {oc27 kV27 dc27 pm27 cd27 ct27 : Value}
    {f28 : Addr} {od28 an28 : Option Addr} {sl28 : Array (Option Value)} {oc28 kV28 dc28 pm28 cd28 ct28 : Value}
    {f29 : Addr} {od29 an29 : Option Addr} {sl29 : Array (Option Value)} {oc29 kV29 dc29 pm29 cd29 ct29 : Value}
    {f30 : Addr} {od30 an30 : Option Addr} {sl30 : Array (Option Value)} {oc30 kV30 dc30 pm30 cd30 ct30 : Value}
    {f31 : Addr} {od31 an31 : Option Addr} {sl31 : Array (Option Value)} {oc31 kV31 dc31 pm31 cd31 ct31 : Value}
    {f32 : Addr} {od32 an32 : Option Addr} {sl32 : Array (Option Value)} {oc32 kV32 dc32 pm32 cd32 ct32 : Value}
    {f33 : Addr} {od33 an33 : Option Addr} {sl33 : Array (Option Value)} {oc33 kV33 dc33 pm33 cd33 ct33 : Value}
    {f34 : Addr} {od34 an34 : Option Addr} {sl34 : Array (Option Value)} {oc34 kV34 dc34 pm34 cd34 ct34 : Value}
    {f35 : Addr} {od35 an35 : Option Addr} {sl35 : Array (Option Value)} {oc35 kV35 dc35 pm35 cd35 ct35 : Value}
    {f36 : Addr} {od36 an36 : Option Addr} {sl36 : Array (Option Value)} {oc36 kV36 dc36 pm36 cd36 ct36 : Value}
    {f37 : Addr} {od37 an37 : Option Addr} {sl37 : Array (Option Value)} {oc37 kV37 dc37 pm37 cd37 ct37 : Value}
    {f38 : Addr} {od38 an38 : Option Addr} {sl38 : Array (Option Value)} {oc38 kV38 dc38 pm38 cd38 ct38 : Value}
    {tgPAGE : PySem.Tok}
    {tgVIRTUAL : PySem.Tok}
    {tgREAD : PySem.Tok}
    {tgWRITE : PySem.Tok}
    {tgEXECUTE : PySem.Tok}
    {tgWORDS : PySem.Tok}
    (ca0 : PySem.W.nsIn K mainGlobals "Partition" = some (some (.ref C0)))
    (cp0 : PySem.W.plainGet K C0 PySem.Str.empty = true)
    (ch0 : PySem.W.hasDictIn K C0 = true)
    (co0 : PySem.W.plainOver K C0 = true)
    (cs0 : PySem.W.findIn K (.ref C0) "__setattr__" = some (some (.builtin "object.__setattr__")))
    (n0_image : PySem.W.findIn K (.ref C0) "image" = some none)
    (n0_pages : PySem.W.findIn K (.ref C0) "pages" = some none)
    (n0_start : PySem.W.findIn K (.ref C0) "start" = some none)
    (cc0 : PySem.W.findIn K (.ref C0) "__class__" = some (some (.builtin "object.__class__")))
    (cm0 : PySem.W.mroIn K C0 (.type "object") = some true)
    (ck0 : PySem.W.kitOne K (.ref C0) (.ref C0) = some true)
    (ci0 : PySem.W.kitOne K (.type "int") (.ref C0) = some false)
    (ca1 : PySem.W.nsIn K mainGlobals "Config" = some (some (.ref C1)))
    (cp1 : PySem.W.plainGet K C1 PySem.Str.empty = true)
    (ch1 : PySem.W.hasDictIn K C1 = true)
    (co1 : PySem.W.plainOver K C1 = true)
    (cs1 : PySem.W.findIn K (.ref C1) "__setattr__" = some (some (.builtin "object.__setattr__")))
    (n1_partitions : PySem.W.findIn K (.ref C1) "partitions" = some none)
    (n1_frames : PySem.W.findIn K (.ref C1) "frames" = some none)
    (n1_channels : PySem.W.findIn K (.ref C1) "channels" = some none)
    (n1_shares : PySem.W.findIn K (.ref C1) "shares" = some none)
    (n1_devices : PySem.W.findIn K (.ref C1) "devices" = some none)
    (n1_flows : PySem.W.findIn K (.ref C1) "flows" = some none)
    (cc1 : PySem.W.findIn K (.ref C1) "__class__" = some (some (.builtin "object.__class__")))
    (cm1 : PySem.W.mroIn K C1 (.type "object") = some true)
    (ck1 : PySem.W.kitOne K (.ref C1) (.ref C1) = some true)
    (ci1 : PySem.W.kitOne K (.type "int") (.ref C1) = some false)
    (sp0 : PySem.W.specialIn K (.builtin "object.__class__") "__get__" = some (some (.builtin "getset_descriptor.__get__")))
    (tk0 : PySem.W.takesIn K (.builtin "object.__class__") = some true)
    (a0 : PySem.W.findIn K (.ref C0) "__init__" = some (some (.ref f0)))
    (t0 : PySem.W.isFn K (.ref f0) = true)
    (l0 : K.lookup f0 = some ⟨oc0, od0, .func (PySem.W.fnOf "__init__" "Partition.__init__" (defArgs sPartitionInit) (defBody sPartitionInit) (defScope sPartitionInit) .none kV0 dc0 pm0 an0 cd0 ct0), sl0⟩)
    (c0 : PySem.W.codeIn K cd0 "Partition.__init__" = true)
    (k0 : PySem.W.keepIn K (.ref f0) = true)
    (mk0 : PySem.W.makesIn K C0 = true)
    (kc0 : PySem.W.keepIn K (.ref C0) = true)
    (a1 : PySem.W.findIn K (.ref C0) "fields" = some (some (.ref f1)))
    (t1 : PySem.W.isFn K (.ref f1) = true)
    (l1 : K.lookup f1 = some ⟨oc1, od1, .func (PySem.W.fnOf "fields" "Partition.fields" (defArgs sPartitionFields) (defBody sPartitionFields) (defScope sPartitionFields) .none kV1 dc1 pm1 an1 cd1 ct1), sl1⟩)
    (c1 : PySem.W.codeIn K cd1 "Partition.fields" = true)
    (k1 : PySem.W.keepIn K (.ref f1) = true)
    (a2 : PySem.W.findIn K (.ref C1) "__init__" = some (some (.ref f2)))
    (t2 : PySem.W.isFn K (.ref f2) = true)
    (l2 : K.lookup f2 = some ⟨oc2, od2, .func (PySem.W.fnOf "__init__" "Config.__init__" (defArgs sConfigInit) (defBody sConfigInit) (defScope sConfigInit) .none kV2 dc2 pm2 an2 cd2 ct2), sl2⟩)
    (c2 : PySem.W.codeIn K cd2 "Config.__init__" = true)
    (k2 : PySem.W.keepIn K (.ref f2) = true)
    (mk1 : PySem.W.makesIn K C1 = true)
    (kc1 : PySem.W.keepIn K (.ref C1) = true)
    (a3 : PySem.W.findIn K (.ref C1) "fields" = some (some (.ref f3)))
    (t3 : PySem.W.isFn K (.ref f3) = true)
    (l3 : K.lookup f3 = some ⟨oc3, od3, .func (PySem.W.fnOf "fields" "Config.fields" (defArgs sConfigFields) (defBody sConfigFields) (defScope sConfigFields) .none kV3 dc3 pm3 an3 cd3 ct3), sl3⟩)
    (c3 : PySem.W.codeIn K cd3 "Config.fields" = true)
    (k3 : PySem.W.keepIn K (.ref f3) = true)
    (a4 : PySem.W.nsIn K mainGlobals "share_rights" = some (some (.ref f4)))
    (l4 : K.lookup f4 = some ⟨oc4, od4, .func (PySem.W.fnOf "share_rights" "share_rights" (defArgs sShareRights) (defBody sShareRights) (defScope sShareRights) .none kV4 dc4 pm4 an4 cd4 ct4), sl4⟩)
    (c4 : PySem.W.codeIn K cd4 "share_rights" = true)
    (k4 : PySem.W.keepIn K (.ref f4) = true)
    (a5 : PySem.W.nsIn K mainGlobals "page_map" = some (some (.ref f5)))
    (l5 : K.lookup f5 = some ⟨oc5, od5, .func (PySem.W.fnOf "page_map" "page_map" (defArgs sPageMap) (defBody sPageMap) (defScope sPageMap) .none kV5 dc5 pm5 an5 cd5 ct5), sl5⟩)
    (c5 : PySem.W.codeIn K cd5 "page_map" = true)
    (k5 : PySem.W.keepIn K (.ref f5) = true)
    (a6 : PySem.W.nsIn K mainGlobals "may_flow" = some (some (.ref f6)))
    (l6 : K.lookup f6 = some ⟨oc6, od6, .func (PySem.W.fnOf "may_flow" "may_flow" (defArgs sMayFlow) (defBody sMayFlow) (defScope sMayFlow) .none kV6 dc6 pm6 an6 cd6 ct6), sl6⟩)
    (c6 : PySem.W.codeIn K cd6 "may_flow" = true)
    (k6 : PySem.W.keepIn K (.ref f6) = true)
    (a7 : PySem.W.nsIn K mainGlobals "is_word" = some (some (.ref f7)))
    (l7 : K.lookup f7 = some ⟨oc7, od7, .func (PySem.W.fnOf "is_word" "is_word" (defArgs sIsWord) (defBody sIsWord) (defScope sIsWord) .none kV7 dc7 pm7 an7 cd7 ct7), sl7⟩)
    (c7 : PySem.W.codeIn K cd7 "is_word" = true)
    (k7 : PySem.W.keepIn K (.ref f7) = true)
    (a8 : PySem.W.nsIn K mainGlobals "is_integer" = some (some (.ref f8)))
    (l8 : K.lookup f8 = some ⟨oc8, od8, .func (PySem.W.fnOf "is_integer" "is_integer" (defArgs sIsInteger) (defBody sIsInteger) (defScope sIsInteger) .none kV8 dc8 pm8 an8 cd8 ct8), sl8⟩)
    (c8 : PySem.W.codeIn K cd8 "is_integer" = true)
    (k8 : PySem.W.keepIn K (.ref f8) = true)
    (a9 : PySem.W.nsIn K mainGlobals "is_within" = some (some (.ref f9)))
    (l9 : K.lookup f9 = some ⟨oc9, od9, .func (PySem.W.fnOf "is_within" "is_within" (defArgs sIsWithin) (defBody sIsWithin) (defScope sIsWithin) .none kV9 dc9 pm9 an9 cd9 ct9), sl9⟩)
    (c9 : PySem.W.codeIn K cd9 "is_within" = true)
    (k9 : PySem.W.keepIn K (.ref f9) = true)
    (a10 : PySem.W.nsIn K mainGlobals "is_tuple_of" = some (some (.ref f10)))
    (l10 : K.lookup f10 = some ⟨oc10, od10, .func (PySem.W.fnOf "is_tuple_of" "is_tuple_of" (defArgs sIsTupleOf) (defBody sIsTupleOf) (defScope sIsTupleOf) .none kV10 dc10 pm10 an10 cd10 ct10), sl10⟩)
    (c10 : PySem.W.codeIn K cd10 "is_tuple_of" = true)
    (k10 : PySem.W.keepIn K (.ref f10) = true)
    (a11 : PySem.W.nsIn K mainGlobals "is_partition" = some (some (.ref f11)))
    (l11 : K.lookup f11 = some ⟨oc11, od11, .func (PySem.W.fnOf "is_partition" "is_partition" (defArgs sIsPartition) (defBody sIsPartition) (defScope sIsPartition) .none kV11 dc11 pm11 an11 cd11 ct11), sl11⟩)
    (c11 : PySem.W.codeIn K cd11 "is_partition" = true)
    (k11 : PySem.W.keepIn K (.ref f11) = true)
    (a12 : PySem.W.nsIn K mainGlobals "are_different" = some (some (.ref f12)))
    (l12 : K.lookup f12 = some ⟨oc12, od12, .func (PySem.W.fnOf "are_different" "are_different" (defArgs sAreDifferent) (defBody sAreDifferent) (defScope sAreDifferent) .none kV12 dc12 pm12 an12 cd12 ct12), sl12⟩)
    (c12 : PySem.W.codeIn K cd12 "are_different" = true)
    (k12 : PySem.W.keepIn K (.ref f12) = true)
    (a13 : PySem.W.nsIn K mainGlobals "count_fault" = some (some (.ref f13)))
    (l13 : K.lookup f13 = some ⟨oc13, od13, .func (PySem.W.fnOf "count_fault" "count_fault" (defArgs sCountFault) (defBody sCountFault) (defScope sCountFault) .none kV13 dc13 pm13 an13 cd13 ct13), sl13⟩)
    (c13 : PySem.W.codeIn K cd13 "count_fault" = true)
    (k13 : PySem.W.keepIn K (.ref f13) = true)
    (a14 : PySem.W.nsIn K mainGlobals "partition_fits" = some (some (.ref f14)))
    (l14 : K.lookup f14 = some ⟨oc14, od14, .func (PySem.W.fnOf "partition_fits" "partition_fits" (defArgs sPartitionFits) (defBody sPartitionFits) (defScope sPartitionFits) .none kV14 dc14 pm14 an14 cd14 ct14), sl14⟩)
    (c14 : PySem.W.codeIn K cd14 "partition_fits" = true)
    (k14 : PySem.W.keepIn K (.ref f14) = true)
    (a15 : PySem.W.nsIn K mainGlobals "frame_fits" = some (some (.ref f15)))
    (l15 : K.lookup f15 = some ⟨oc15, od15, .func (PySem.W.fnOf "frame_fits" "frame_fits" (defArgs sFrameFits) (defBody sFrameFits) (defScope sFrameFits) .none kV15 dc15 pm15 an15 cd15 ct15), sl15⟩)
    (c15 : PySem.W.codeIn K cd15 "frame_fits" = true)
    (k15 : PySem.W.keepIn K (.ref f15) = true)
    (a16 : PySem.W.nsIn K mainGlobals "channel_fits" = some (some (.ref f16)))
    (l16 : K.lookup f16 = some ⟨oc16, od16, .func (PySem.W.fnOf "channel_fits" "channel_fits" (defArgs sChannelFits) (defBody sChannelFits) (defScope sChannelFits) .none kV16 dc16 pm16 an16 cd16 ct16), sl16⟩)
    (c16 : PySem.W.codeIn K cd16 "channel_fits" = true)
    (k16 : PySem.W.keepIn K (.ref f16) = true)
    (a17 : PySem.W.nsIn K mainGlobals "pair_fits" = some (some (.ref f17)))
    (l17 : K.lookup f17 = some ⟨oc17, od17, .func (PySem.W.fnOf "pair_fits" "pair_fits" (defArgs sPairFits) (defBody sPairFits) (defScope sPairFits) .none kV17 dc17 pm17 an17 cd17 ct17), sl17⟩)
    (c17 : PySem.W.codeIn K cd17 "pair_fits" = true)
    (k17 : PySem.W.keepIn K (.ref f17) = true)
    (a18 : PySem.W.nsIn K mainGlobals "device_fits" = some (some (.ref f18)))
    (l18 : K.lookup f18 = some ⟨oc18, od18, .func (PySem.W.fnOf "device_fits" "device_fits" (defArgs sDeviceFits) (defBody sDeviceFits) (defScope sDeviceFits) .none kV18 dc18 pm18 an18 cd18 ct18), sl18⟩)
    (c18 : PySem.W.codeIn K cd18 "device_fits" = true)
    (k18 : PySem.W.keepIn K (.ref f18) = true)
    (a19 : PySem.W.nsIn K mainGlobals "pages_fit" = some (some (.ref f19)))
    (l19 : K.lookup f19 = some ⟨oc19, od19, .func (PySem.W.fnOf "pages_fit" "pages_fit" (defArgs sPagesFit) (defBody sPagesFit) (defScope sPagesFit) .none kV19 dc19 pm19 an19 cd19 ct19), sl19⟩)
    (c19 : PySem.W.codeIn K cd19 "pages_fit" = true)
    (k19 : PySem.W.keepIn K (.ref f19) = true)
    (a20 : PySem.W.nsIn K mainGlobals "shape_fault" = some (some (.ref f20)))
    (l20 : K.lookup f20 = some ⟨oc20, od20, .func (PySem.W.fnOf "shape_fault" "shape_fault" (defArgs sShapeFault) (defBody sShapeFault) (defScope sShapeFault) .none kV20 dc20 pm20 an20 cd20 ct20), sl20⟩)
    (c20 : PySem.W.codeIn K cd20 "shape_fault" = true)
    (k20 : PySem.W.keepIn K (.ref f20) = true)
    (a21 : PySem.W.nsIn K mainGlobals "channel_fault" = some (some (.ref f21)))
    (l21 : K.lookup f21 = some ⟨oc21, od21, .func (PySem.W.fnOf "channel_fault" "channel_fault" (defArgs sChannelFault) (defBody sChannelFault) (defScope sChannelFault) .none kV21 dc21 pm21 an21 cd21 ct21), sl21⟩)
    (c21 : PySem.W.codeIn K cd21 "channel_fault" = true)
    (k21 : PySem.W.keepIn K (.ref f21) = true)
    (a22 : PySem.W.nsIn K mainGlobals "flow_fault" = some (some (.ref f22)))
    (l22 : K.lookup f22 = some ⟨oc22, od22, .func (PySem.W.fnOf "flow_fault" "flow_fault" (defArgs sFlowFault) (defBody sFlowFault) (defScope sFlowFault) .none kV22 dc22 pm22 an22 cd22 ct22), sl22⟩)
    (c22 : PySem.W.codeIn K cd22 "flow_fault" = true)
    (k22 : PySem.W.keepIn K (.ref f22) = true)
    (a23 : PySem.W.nsIn K mainGlobals "judge" = some (some (.ref f23)))
    (l23 : K.lookup f23 = some ⟨oc23, od23, .func (PySem.W.fnOf "judge" "judge" (defArgs sJudge) (defBody sJudge) (defScope sJudge) .none kV23 dc23 pm23 an23 cd23 ct23), sl23⟩)
    (c23 : PySem.W.codeIn K cd23 "judge" = true)
    (k23 : PySem.W.keepIn K (.ref f23) = true)
    (a24 : PySem.W.nsIn K mainGlobals "_law_draw" = some (some (.ref f24)))
    (l24 : K.lookup f24 = some ⟨oc24, od24, .func (PySem.W.fnOf "_law_draw" "_law_draw" (defArgs sLawDraw) (defBody sLawDraw) (defScope sLawDraw) .none kV24 dc24 pm24 an24 cd24 ct24), sl24⟩)
    (c24 : PySem.W.codeIn K cd24 "_law_draw" = true)
    (k24 : PySem.W.keepIn K (.ref f24) = true)
    (a25 : PySem.W.nsIn K mainGlobals "_law_word" = some (some (.ref f25)))
    (l25 : K.lookup f25 = some ⟨oc25, od25, .func (PySem.W.fnOf "_law_word" "_law_word" (defArgs sLawWord) (defBody sLawWord) (defScope sLawWord) .none kV25 dc25 pm25 an25 cd25 ct25), sl25⟩)
    (c25 : PySem.W.codeIn K cd25 "_law_word" = true)
    (k25 : PySem.W.keepIn K (.ref f25) = true)
    (a26 : PySem.W.nsIn K mainGlobals "_law_line" = some (some (.ref f26)))
    (l26 : K.lookup f26 = some ⟨oc26, od26, .func (PySem.W.fnOf "_law_line" "_law_line" (defArgs sLawLine) (defBody sLawLine) (defScope sLawLine) .none kV26 dc26 pm26 an26 cd26 ct26), sl26⟩)
    (c26 : PySem.W.codeIn K cd26 "_law_line" = true)
    (k26 : PySem.W.keepIn K (.ref f26) = true)
    (a27 : PySem.W.nsIn K mainGlobals "_law_image" = some (some (.ref f27)))
    (l27 : K.lookup f27 = some ⟨oc27, od27, .func (PySem.W.fnOf "_law_image" "_law_image" (defArgs sLawImage) (defBody sLawImage) (defScope sLawImage) .none kV27 dc27 pm27 an27 cd27 ct27), sl27⟩)
    (c27 : PySem.W.codeIn K cd27 "_law_image" = true)
    (k27 : PySem.W.keepIn K (.ref f27) = true)
    (a28 : PySem.W.nsIn K mainGlobals "_law_parts" = some (some (.ref f28)))
    (l28 : K.lookup f28 = some ⟨oc28, od28, .func (PySem.W.fnOf "_law_parts" "_law_parts" (defArgs sLawParts) (defBody sLawParts) (defScope sLawParts) .none kV28 dc28 pm28 an28 cd28 ct28), sl28⟩)
    (c28 : PySem.W.codeIn K cd28 "_law_parts" = true)
    (k28 : PySem.W.keepIn K (.ref f28) = true)
    (a29 : PySem.W.nsIn K mainGlobals "_law_partition" = some (some (.ref f29)))
    (l29 : K.lookup f29 = some ⟨oc29, od29, .func (PySem.W.fnOf "_law_partition" "_law_partition" (defArgs sLawPartition) (defBody sLawPartition) (defScope sLawPartition) .none kV29 dc29 pm29 an29 cd29 ct29), sl29⟩)
    (c29 : PySem.W.codeIn K cd29 "_law_partition" = true)
    (k29 : PySem.W.keepIn K (.ref f29) = true)
    (a30 : PySem.W.nsIn K mainGlobals "_law_config" = some (some (.ref f30)))
    (l30 : K.lookup f30 = some ⟨oc30, od30, .func (PySem.W.fnOf "_law_config" "_law_config" (defArgs sLawConfig) (defBody sLawConfig) (defScope sLawConfig) .none kV30 dc30 pm30 an30 cd30 ct30), sl30⟩)
    (c30 : PySem.W.codeIn K cd30 "_law_config" = true)
    (k30 : PySem.W.keepIn K (.ref f30) = true)
    (a31 : PySem.W.nsIn K mainGlobals "_law_int" = some (some (.ref f31)))
    (l31 : K.lookup f31 = some ⟨oc31, od31, .func (PySem.W.fnOf "_law_int" "_law_int" (defArgs sLawInt) (defBody sLawInt) (defScope sLawInt) .none kV31 dc31 pm31 an31 cd31 ct31), sl31⟩)
    (c31 : PySem.W.codeIn K cd31 "_law_int" = true)
    (k31 : PySem.W.keepIn K (.ref f31) = true)
    (a32 : PySem.W.nsIn K mainGlobals "_law_ends" = some (some (.ref f32)))
    (l32 : K.lookup f32 = some ⟨oc32, od32, .func (PySem.W.fnOf "_law_ends" "_law_ends" (defArgs sLawEnds) (defBody sLawEnds) (defScope sLawEnds) .none kV32 dc32 pm32 an32 cd32 ct32), sl32⟩)
    (c32 : PySem.W.codeIn K cd32 "_law_ends" = true)
    (k32 : PySem.W.keepIn K (.ref f32) = true)
    (a33 : PySem.W.nsIn K mainGlobals "_law_good" = some (some (.ref f33)))
    (l33 : K.lookup f33 = some ⟨oc33, od33, .func (PySem.W.fnOf "_law_good" "_law_good" (defArgs sLawGood) (defBody sLawGood) (defScope sLawGood) .none kV33 dc33 pm33 an33 cd33 ct33), sl33⟩)
    (c33 : PySem.W.codeIn K cd33 "_law_good" = true)
    (k33 : PySem.W.keepIn K (.ref f33) = true)
    (a34 : PySem.W.nsIn K mainGlobals "_law_shape" = some (some (.ref f34)))
    (l34 : K.lookup f34 = some ⟨oc34, od34, .func (PySem.W.fnOf "_law_shape" "_law_shape" (defArgs sLawShape) (defBody sLawShape) (defScope sLawShape) .none kV34 dc34 pm34 an34 cd34 ct34), sl34⟩)
    (c34 : PySem.W.codeIn K cd34 "_law_shape" = true)
    (k34 : PySem.W.keepIn K (.ref f34) = true)
    (a35 : PySem.W.nsIn K mainGlobals "_law_fault" = some (some (.ref f35)))
    (l35 : K.lookup f35 = some ⟨oc35, od35, .func (PySem.W.fnOf "_law_fault" "_law_fault" (defArgs sLawFault) (defBody sLawFault) (defScope sLawFault) .none kV35 dc35 pm35 an35 cd35 ct35), sl35⟩)
    (c35 : PySem.W.codeIn K cd35 "_law_fault" = true)
    (k35 : PySem.W.keepIn K (.ref f35) = true)
    (a36 : PySem.W.nsIn K mainGlobals "_law_odd" = some (some (.ref f36)))
    (l36 : K.lookup f36 = some ⟨oc36, od36, .func (PySem.W.fnOf "_law_odd" "_law_odd" (defArgs sLawOdd) (defBody sLawOdd) (defScope sLawOdd) .none kV36 dc36 pm36 an36 cd36 ct36), sl36⟩)
    (c36 : PySem.W.codeIn K cd36 "_law_odd" = true)
    (k36 : PySem.W.keepIn K (.ref f36) = true)
    (a37 : PySem.W.nsIn K mainGlobals "_law_changed" = some (some (.ref f37)))
    (l37 : K.lookup f37 = some ⟨oc37, od37, .func (PySem.W.fnOf "_law_changed" "_law_changed" (defArgs sLawChanged) (defBody sLawChanged) (defScope sLawChanged) .none kV37 dc37 pm37 an37 cd37 ct37), sl37⟩)
    (c37 : PySem.W.codeIn K cd37 "_law_changed" = true)
    (k37 : PySem.W.keepIn K (.ref f37) = true)
    (a38 : PySem.W.nsIn K mainGlobals "law" = some (some (.ref f38)))
    (l38 : K.lookup f38 = some ⟨oc38, od38, .func (PySem.W.fnOf "law" "law" (defArgs sLaw) (defBody sLaw) (defScope sLaw) .none kV38 dc38 pm38 an38 cd38 ct38), sl38⟩)
    (c38 : PySem.W.codeIn K cd38 "law" = true)
    (k38 : PySem.W.keepIn K (.ref f38) = true)
    (z_len : PySem.W.nsIn K mainGlobals "len" = some none)
    (z_int : PySem.W.nsIn K mainGlobals "int" = some none)
    (z_range : PySem.W.nsIn K mainGlobals "range" = some none)
    (z_tuple : PySem.W.nsIn K mainGlobals "tuple" = some none)
    (z_list : PySem.W.nsIn K mainGlobals "list" = some none)
    (z_isinstance : PySem.W.nsIn K mainGlobals "isinstance" = some none)
    (z_enumerate : PySem.W.nsIn K mainGlobals "enumerate" = some none)
    (z_all : PySem.W.nsIn K mainGlobals "all" = some none)
    (z_repr : PySem.W.nsIn K mainGlobals "repr" = some none)
    (z_bool : PySem.W.nsIn K mainGlobals "bool" = some none)
    (ggPAGE : PySem.W.nsIn K mainGlobals "PAGE" = some (some (.int 16 tgPAGE)))
    (ggVIRTUAL : PySem.W.nsIn K mainGlobals "VIRTUAL" = some (some (.int 8 tgVIRTUAL)))
    (ggREAD : PySem.W.nsIn K mainGlobals "READ" = some (some (.int 1 tgREAD)))
    (ggWRITE : PySem.W.nsIn K mainGlobals "WRITE" = some (some (.int 2 tgWRITE)))
    (ggEXECUTE : PySem.W.nsIn K mainGlobals "EXECUTE" = some (some (.int 4 tgEXECUTE)))
    (ggWORDS : PySem.W.nsIn K mainGlobals "WORDS" = some (some (.int 65536 tgWORDS)))
    (ggFITTING : PySem.W.nsIn K mainGlobals "FITTING" = some (some (.ref wFITTING)))
    (lkFITTING : K.lookup wFITTING = some ⟨.type "dict", none, .dict esFITTING nnFITTING, #[]⟩)
    (kyFITTING : PySem.W.KeysLit w.params esFITTING.toList)
    (krFITTING_0 : PySem.W.nsIn K wFITTING "partition" = some (some (.ref f14)))
    (krFITTING_1 : PySem.W.nsIn K wFITTING "frame" = some (some (.ref f15)))
    (krFITTING_2 : PySem.W.nsIn K wFITTING "channel" = some (some (.ref f16)))
    (krFITTING_3 : PySem.W.nsIn K wFITTING "share" = some (some (.ref f17)))
    (krFITTING_4 : PySem.W.nsIn K wFITTING "device" = some (some (.ref f18)))
    (krFITTING_5 : PySem.W.nsIn K wFITTING "flow" = some (some (.ref f17)))
    (krFITTING_6 : PySem.W.nsIn K wFITTING "pages" = some (some (.ref f19))) :
    ∃ fd : FuncData, (∀ (s : Shared) (v : Value), BindsTo s fd ⟨[v], []⟩ [("script", v)]) ∧ ∀ base : Heap, K.In base → base.Ns mainGlobals mg → FnG l.prog w K mg base 8 fa fd ["script"] (spLaw K) := by
  have e := hfa.symm.trans (PySem.W.mg_of X G a38)
  cases e
  let T : Tx K w mg :=
    { cPartition := C0
      gPartition := PySem.W.mg_of X G ca0
      clPartition := ⟨cp0, ch0, co0, cs0⟩
      nPartition_image := n0_image
      nPartition_pages := n0_pages
      nPartition_start := n0_start
      isPartition := ⟨⟨cp0, ch0, co0, cs0⟩, cc0, sp0, tk0, cm0, ck0, ci0⟩
      cConfig := C1
      gConfig := PySem.W.mg_of X G ca1
      clConfig := ⟨cp1, ch1, co1, cs1⟩
      nConfig_partitions := n1_partitions
      nConfig_frames := n1_frames
      nConfig_channels := n1_channels
      nConfig_shares := n1_shares
      nConfig_devices := n1_devices
      nConfig_flows := n1_flows
      isConfig := ⟨⟨cp1, ch1, co1, cs1⟩, cc1, sp0, tk0, cm1, ck1, ci1⟩
      aPartitionInit := f0
      fdPartitionInit := PySem.W.fnOf "__init__" "Partition.__init__" (defArgs sPartitionInit) (defBody sPartitionInit) (defScope sPartitionInit) .none kV0 dc0 pm0 an0 cd0 ct0
      mPartitionInit := ⟨fun_mk (st := sPartitionInit) l0 c0 k0, (fun_mk (st := sPartitionInit) l0 c0 k0).binds (ps := PPartitionInit) fun _ _ _ _ _ _ us hl => match us, hl with | [_, _, _, _], _ => rfl⟩
      mkPartition := ⟨mk0, a0, t0, kc0⟩
      aPartitionFields := f1
      fdPartitionFields := PySem.W.fnOf "fields" "Partition.fields" (defArgs sPartitionFields) (defBody sPartitionFields) (defScope sPartitionFields) .none kV1 dc1 pm1 an1 cd1 ct1
      mPartitionFields := ⟨fun_mk (st := sPartitionFields) l1 c1 k1, (fun_mk (st := sPartitionFields) l1 c1 k1).binds (ps := PPartitionFields) fun _ _ _ _ _ _ us hl => match us, hl with | [_], _ => rfl⟩
      hPartitionFields := ⟨a1, t1, k1⟩
      aConfigInit := f2
      fdConfigInit := PySem.W.fnOf "__init__" "Config.__init__" (defArgs sConfigInit) (defBody sConfigInit) (defScope sConfigInit) .none kV2 dc2 pm2 an2 cd2 ct2
      mConfigInit := ⟨fun_mk (st := sConfigInit) l2 c2 k2, (fun_mk (st := sConfigInit) l2 c2 k2).binds (ps := PConfigInit) fun _ _ _ _ _ _ us hl => match us, hl with | [_, _, _, _, _, _, _], _ => rfl⟩
      mkConfig := ⟨mk1, a2, t2, kc1⟩
      aConfigFields := f3
      fdConfigFields := PySem.W.fnOf "fields" "Config.fields" (defArgs sConfigFields) (defBody sConfigFields) (defScope sConfigFields) .none kV3 dc3 pm3 an3 cd3 ct3
      mConfigFields := ⟨fun_mk (st := sConfigFields) l3 c3 k3, (fun_mk (st := sConfigFields) l3 c3 k3).binds (ps := PConfigFields) fun _ _ _ _ _ _ us hl => match us, hl with | [_], _ => rfl⟩
      hConfigFields := ⟨a3, t3, k3⟩
      aShareRights := f4
      fdShareRights := PySem.W.fnOf "share_rights" "share_rights" (defArgs sShareRights) (defBody sShareRights) (defScope sShareRights) .none kV4 dc4 pm4 an4 cd4 ct4
      dShareRights := ⟨fun_mk (st := sShareRights) l4 c4 k4, PySem.W.mg_of X G a4, (fun_mk (st := sShareRights) l4 c4 k4).binds (ps := PShareRights) fun _ _ _ _ _ _ us hl => match us, hl with | [_, _], _ => rfl⟩
      aPageMap := f5
      fdPageMap := PySem.W.fnOf "page_map" "page_map" (defArgs sPageMap) (defBody sPageMap) (defScope sPageMap) .none kV5 dc5 pm5 an5 cd5 ct5
      dPageMap := ⟨fun_mk (st := sPageMap) l5 c5 k5, PySem.W.mg_of X G a5, (fun_mk (st := sPageMap) l5 c5 k5).binds (ps := PPageMap) fun _ _ _ _ _ _ us hl => match us, hl with | [_, _], _ => rfl⟩
      aMayFlow := f6
      fdMayFlow := PySem.W.fnOf "may_flow" "may_flow" (defArgs sMayFlow) (defBody sMayFlow) (defScope sMayFlow) .none kV6 dc6 pm6 an6 cd6 ct6
      dMayFlow := ⟨fun_mk (st := sMayFlow) l6 c6 k6, PySem.W.mg_of X G a6, (fun_mk (st := sMayFlow) l6 c6 k6).binds (ps := PMayFlow) fun _ _ _ _ _ _ us hl => match us, hl with | [_, _, _], _ => rfl⟩
      aIsWord := f7
      fdIsWord := PySem.W.fnOf "is_word" "is_word" (defArgs sIsWord) (defBody sIsWord) (defScope sIsWord) .none kV7 dc7 pm7 an7 cd7 ct7
      dIsWord := ⟨fun_mk (st := sIsWord) l7 c7 k7, PySem.W.mg_of X G a7, (fun_mk (st := sIsWord) l7 c7 k7).binds (ps := PIsWord) fun _ _ _ _ _ _ us hl => match us, hl with | [_], _ => rfl⟩
      aIsInteger := f8
      fdIsInteger := PySem.W.fnOf "is_integer" "is_integer" (defArgs sIsInteger) (defBody sIsInteger) (defScope sIsInteger) .none kV8 dc8 pm8 an8 cd8 ct8
      dIsInteger := ⟨fun_mk (st := sIsInteger) l8 c8 k8, PySem.W.mg_of X G a8, (fun_mk (st := sIsInteger) l8 c8 k8).binds (ps := PIsInteger) fun _ _ _ _ _ _ us hl => match us, hl with | [_], _ => rfl⟩
      aIsWithin := f9
      fdIsWithin := PySem.W.fnOf "is_within" "is_within" (defArgs sIsWithin) (defBody sIsWithin) (defScope sIsWithin) .none kV9 dc9 pm9 an9 cd9 ct9
      dIsWithin := ⟨fun_mk (st := sIsWithin) l9 c9 k9, PySem.W.mg_of X G a9, (fun_mk (st := sIsWithin) l9 c9 k9).binds (ps := PIsWithin) fun _ _ _ _ _ _ us hl => match us, hl with | [_, _, _], _ => rfl⟩
      aIsTupleOf := f10
      fdIsTupleOf := PySem.W.fnOf "is_tuple_of" "is_tuple_of" (defArgs sIsTupleOf) (defBody sIsTupleOf) (defScope sIsTupleOf) .none kV10 dc10 pm10 an10 cd10 ct10
      dIsTupleOf := ⟨fun_mk (st := sIsTupleOf) l10 c10 k10, PySem.W.mg_of X G a10, (fun_mk (st := sIsTupleOf) l10 c10 k10).binds (ps := PIsTupleOf) fun _ _ _ _ _ _ us hl => match us, hl with | [_, _], _ => rfl⟩
      aIsPartition := f11
      fdIsPartition := PySem.W.fnOf "is_partition" "is_partition" (defArgs sIsPartition) (defBody sIsPartition) (defScope sIsPartition) .none kV11 dc11 pm11 an11 cd11 ct11
      dIsPartition := ⟨fun_mk (st := sIsPartition) l11 c11 k11, PySem.W.mg_of X G a11, (fun_mk (st := sIsPartition) l11 c11 k11).binds (ps := PIsPartition) fun _ _ _ _ _ _ us hl => match us, hl with | [_, _], _ => rfl⟩
      aAreDifferent := f12
      fdAreDifferent := PySem.W.fnOf "are_different" "are_different" (defArgs sAreDifferent) (defBody sAreDifferent) (defScope sAreDifferent) .none kV12 dc12 pm12 an12 cd12 ct12
      dAreDifferent := ⟨fun_mk (st := sAreDifferent) l12 c12 k12, PySem.W.mg_of X G a12, (fun_mk (st := sAreDifferent) l12 c12 k12).binds (ps := PAreDifferent) fun _ _ _ _ _ _ us hl => match us, hl with | [_, _, _], _ => rfl⟩
      aCountFault := f13
      fdCountFault := PySem.W.fnOf "count_fault" "count_fault" (defArgs sCountFault) (defBody sCountFault) (defScope sCountFault) .none kV13 dc13 pm13 an13 cd13 ct13
      dCountFault := ⟨fun_mk (st := sCountFault) l13 c13 k13, PySem.W.mg_of X G a13, (fun_mk (st := sCountFault) l13 c13 k13).binds (ps := PCountFault) fun _ _ _ _ _ _ us hl => match us, hl with | [_], _ => rfl⟩
      aPartitionFits := f14
      fdPartitionFits := PySem.W.fnOf "partition_fits" "partition_fits" (defArgs sPartitionFits) (defBody sPartitionFits) (defScope sPartitionFits) .none kV14 dc14 pm14 an14 cd14 ct14
      dPartitionFits := ⟨fun_mk (st := sPartitionFits) l14 c14 k14, PySem.W.mg_of X G a14, (fun_mk (st := sPartitionFits) l14 c14 k14).binds (ps := PPartitionFits) fun _ _ _ _ _ _ us hl => match us, hl with | [_, _], _ => rfl⟩
      aFrameFits := f15
      fdFrameFits := PySem.W.fnOf "frame_fits" "frame_fits" (defArgs sFrameFits) (defBody sFrameFits) (defScope sFrameFits) .none kV15 dc15 pm15 an15 cd15 ct15
      dFrameFits := ⟨fun_mk (st := sFrameFits) l15 c15 k15, PySem.W.mg_of X G a15, (fun_mk (st := sFrameFits) l15 c15 k15).binds (ps := PFrameFits) fun _ _ _ _ _ _ us hl => match us, hl with | [_, _], _ => rfl⟩
      aChannelFits := f16
      fdChannelFits := PySem.W.fnOf "channel_fits" "channel_fits" (defArgs sChannelFits) (defBody sChannelFits) (defScope sChannelFits) .none kV16 dc16 pm16 an16 cd16 ct16
      dChannelFits := ⟨fun_mk (st := sChannelFits) l16 c16 k16, PySem.W.mg_of X G a16, (fun_mk (st := sChannelFits) l16 c16 k16).binds (ps := PChannelFits) fun _ _ _ _ _ _ us hl => match us, hl with | [_, _], _ => rfl⟩
      aPairFits := f17
      fdPairFits := PySem.W.fnOf "pair_fits" "pair_fits" (defArgs sPairFits) (defBody sPairFits) (defScope sPairFits) .none kV17 dc17 pm17 an17 cd17 ct17
      dPairFits := ⟨fun_mk (st := sPairFits) l17 c17 k17, PySem.W.mg_of X G a17, (fun_mk (st := sPairFits) l17 c17 k17).binds (ps := PPairFits) fun _ _ _ _ _ _ us hl => match us, hl with | [_, _], _ => rfl⟩
      aDeviceFits := f18
      fdDeviceFits := PySem.W.fnOf "device_fits" "device_fits" (defArgs sDeviceFits) (defBody sDeviceFits) (defScope sDeviceFits) .none kV18 dc18 pm18 an18 cd18 ct18
      dDeviceFits := ⟨fun_mk (st := sDeviceFits) l18 c18 k18, PySem.W.mg_of X G a18, (fun_mk (st := sDeviceFits) l18 c18 k18).binds (ps := PDeviceFits) fun _ _ _ _ _ _ us hl => match us, hl with | [_, _], _ => rfl⟩
      aPagesFit := f19
      fdPagesFit := PySem.W.fnOf "pages_fit" "pages_fit" (defArgs sPagesFit) (defBody sPagesFit) (defScope sPagesFit) .none kV19 dc19 pm19 an19 cd19 ct19
      dPagesFit := ⟨fun_mk (st := sPagesFit) l19 c19 k19, PySem.W.mg_of X G a19, (fun_mk (st := sPagesFit) l19 c19 k19).binds (ps := PPagesFit) fun _ _ _ _ _ _ us hl => match us, hl with | [_, _], _ => rfl⟩
      aShapeFault := f20
      fdShapeFault := PySem.W.fnOf "shape_fault" "shape_fault" (defArgs sShapeFault) (defBody sShapeFault) (defScope sShapeFault) .none kV20 dc20 pm20 an20 cd20 ct20
      dShapeFault := ⟨fun_mk (st := sShapeFault) l20 c20 k20, PySem.W.mg_of X G a20, (fun_mk (st := sShapeFault) l20 c20 k20).binds (ps := PShapeFault) fun _ _ _ _ _ _ us hl => match us, hl with | [_], _ => rfl⟩
      aChannelFault := f21
      fdChannelFault := PySem.W.fnOf "channel_fault" "channel_fault" (defArgs sChannelFault) (defBody sChannelFault) (defScope sChannelFault) .none kV21 dc21 pm21 an21 cd21 ct21
      dChannelFault := ⟨fun_mk (st := sChannelFault) l21 c21 k21, PySem.W.mg_of X G a21, (fun_mk (st := sChannelFault) l21 c21 k21).binds (ps := PChannelFault) fun _ _ _ _ _ _ us hl => match us, hl with | [_, _], _ => rfl⟩
      aFlowFault := f22
      fdFlowFault := PySem.W.fnOf "flow_fault" "flow_fault" (defArgs sFlowFault) (defBody sFlowFault) (defScope sFlowFault) .none kV22 dc22 pm22 an22 cd22 ct22
      dFlowFault := ⟨fun_mk (st := sFlowFault) l22 c22 k22, PySem.W.mg_of X G a22, (fun_mk (st := sFlowFault) l22 c22 k22).binds (ps := PFlowFault) fun _ _ _ _ _ _ us hl => match us, hl with | [_], _ => rfl⟩
      aJudge := f23
      fdJudge := PySem.W.fnOf "judge" "judge" (defArgs sJudge) (defBody sJudge) (defScope sJudge) .none kV23 dc23 pm23 an23 cd23 ct23
      dJudge := ⟨fun_mk (st := sJudge) l23 c23 k23, PySem.W.mg_of X G a23, (fun_mk (st := sJudge) l23 c23 k23).binds (ps := PJudge) fun _ _ _ _ _ _ us hl => match us, hl with | [_], _ => rfl⟩
      aLawDraw := f24
      fdLawDraw := PySem.W.fnOf "_law_draw" "_law_draw" (defArgs sLawDraw) (defBody sLawDraw) (defScope sLawDraw) .none kV24 dc24 pm24 an24 cd24 ct24
      dLawDraw := ⟨fun_mk (st := sLawDraw) l24 c24 k24, PySem.W.mg_of X G a24, (fun_mk (st := sLawDraw) l24 c24 k24).binds (ps := PLawDraw) fun _ _ _ _ _ _ us hl => match us, hl with | [_, _, _], _ => rfl⟩
      aLawWord := f25
      fdLawWord := PySem.W.fnOf "_law_word" "_law_word" (defArgs sLawWord) (defBody sLawWord) (defScope sLawWord) .none kV25 dc25 pm25 an25 cd25 ct25
      dLawWord := ⟨fun_mk (st := sLawWord) l25 c25 k25, PySem.W.mg_of X G a25, (fun_mk (st := sLawWord) l25 c25 k25).binds (ps := PLawWord) fun _ _ _ _ _ _ us hl => match us, hl with | [_, _, _, _], _ => rfl⟩
      aLawLine := f26
      fdLawLine := PySem.W.fnOf "_law_line" "_law_line" (defArgs sLawLine) (defBody sLawLine) (defScope sLawLine) .none kV26 dc26 pm26 an26 cd26 ct26
      dLawLine := ⟨fun_mk (st := sLawLine) l26 c26 k26, PySem.W.mg_of X G a26, (fun_mk (st := sLawLine) l26 c26 k26).binds (ps := PLawLine) fun _ _ _ _ _ _ us hl => match us, hl with | [_, _, _], _ => rfl⟩
      aLawImage := f27
      fdLawImage := PySem.W.fnOf "_law_image" "_law_image" (defArgs sLawImage) (defBody sLawImage) (defScope sLawImage) .none kV27 dc27 pm27 an27 cd27 ct27
      dLawImage := ⟨fun_mk (st := sLawImage) l27 c27 k27, PySem.W.mg_of X G a27, (fun_mk (st := sLawImage) l27 c27 k27).binds (ps := PLawImage) fun _ _ _ _ _ _ us hl => match us, hl with | [_, _, _, _], _ => rfl⟩
      aLawParts := f28
      fdLawParts := PySem.W.fnOf "_law_parts" "_law_parts" (defArgs sLawParts) (defBody sLawParts) (defScope sLawParts) .none kV28 dc28 pm28 an28 cd28 ct28
      dLawParts := ⟨fun_mk (st := sLawParts) l28 c28 k28, PySem.W.mg_of X G a28, (fun_mk (st := sLawParts) l28 c28 k28).binds (ps := PLawParts) fun _ _ _ _ _ _ us hl => match us, hl with | [_, _], _ => rfl⟩
      aLawPartition := f29
      fdLawPartition := PySem.W.fnOf "_law_partition" "_law_partition" (defArgs sLawPartition) (defBody sLawPartition) (defScope sLawPartition) .none kV29 dc29 pm29 an29 cd29 ct29
      dLawPartition := ⟨fun_mk (st := sLawPartition) l29 c29 k29, PySem.W.mg_of X G a29, (fun_mk (st := sLawPartition) l29 c29 k29).binds (ps := PLawPartition) fun _ _ _ _ _ _ us hl => match us, hl with | [_, _, _, _], _ => rfl⟩
      aLawConfig := f30
      fdLawConfig := PySem.W.fnOf "_law_config" "_law_config" (defArgs sLawConfig) (defBody sLawConfig) (defScope sLawConfig) .none kV30 dc30 pm30 an30 cd30 ct30
      dLawConfig := ⟨fun_mk (st := sLawConfig) l30 c30 k30, PySem.W.mg_of X G a30, (fun_mk (st := sLawConfig) l30 c30 k30).binds (ps := PLawConfig) fun _ _ _ _ _ _ us hl => match us, hl with | [_, _], _ => rfl⟩
      aLawInt := f31
      fdLawInt := PySem.W.fnOf "_law_int" "_law_int" (defArgs sLawInt) (defBody sLawInt) (defScope sLawInt) .none kV31 dc31 pm31 an31 cd31 ct31
      dLawInt := ⟨fun_mk (st := sLawInt) l31 c31 k31, PySem.W.mg_of X G a31, (fun_mk (st := sLawInt) l31 c31 k31).binds (ps := PLawInt) fun _ _ _ _ _ _ us hl => match us, hl with | [_, _, _], _ => rfl⟩
      aLawEnds := f32
      fdLawEnds := PySem.W.fnOf "_law_ends" "_law_ends" (defArgs sLawEnds) (defBody sLawEnds) (defScope sLawEnds) .none kV32 dc32 pm32 an32 cd32 ct32
      dLawEnds := ⟨fun_mk (st := sLawEnds) l32 c32 k32, PySem.W.mg_of X G a32, (fun_mk (st := sLawEnds) l32 c32 k32).binds (ps := PLawEnds) fun _ _ _ _ _ _ us hl => match us, hl with | [_, _, _], _ => rfl⟩
      aLawGood := f33
      fdLawGood := PySem.W.fnOf "_law_good" "_law_good" (defArgs sLawGood) (defBody sLawGood) (defScope sLawGood) .none kV33 dc33 pm33 an33 cd33 ct33
      dLawGood := ⟨fun_mk (st := sLawGood) l33 c33 k33, PySem.W.mg_of X G a33, (fun_mk (st := sLawGood) l33 c33 k33).binds (ps := PLawGood) fun _ _ _ _ _ _ us hl => match us, hl with | [_, _, _], _ => rfl⟩
      aLawShape := f34
      fdLawShape := PySem.W.fnOf "_law_shape" "_law_shape" (defArgs sLawShape) (defBody sLawShape) (defScope sLawShape) .none kV34 dc34 pm34 an34 cd34 ct34
      dLawShape := ⟨fun_mk (st := sLawShape) l34 c34 k34, PySem.W.mg_of X G a34, (fun_mk (st := sLawShape) l34 c34 k34).binds (ps := PLawShape) fun _ _ _ _ _ _ us hl => match us, hl with | [_], _ => rfl⟩
      aLawFault := f35
      fdLawFault := PySem.W.fnOf "_law_fault" "_law_fault" (defArgs sLawFault) (defBody sLawFault) (defScope sLawFault) .none kV35 dc35 pm35 an35 cd35 ct35
      dLawFault := ⟨fun_mk (st := sLawFault) l35 c35 k35, PySem.W.mg_of X G a35, (fun_mk (st := sLawFault) l35 c35 k35).binds (ps := PLawFault) fun _ _ _ _ _ _ us hl => match us, hl with | [_], _ => rfl⟩
      aLawOdd := f36
      fdLawOdd := PySem.W.fnOf "_law_odd" "_law_odd" (defArgs sLawOdd) (defBody sLawOdd) (defScope sLawOdd) .none kV36 dc36 pm36 an36 cd36 ct36
      dLawOdd := ⟨fun_mk (st := sLawOdd) l36 c36 k36, PySem.W.mg_of X G a36, (fun_mk (st := sLawOdd) l36 c36 k36).binds (ps := PLawOdd) fun _ _ _ _ _ _ us hl => match us, hl with | [_, _, _], _ => rfl⟩
      aLawChanged := f37
      fdLawChanged := PySem.W.fnOf "_law_changed" "_law_changed" (defArgs sLawChanged) (defBody sLawChanged) (defScope sLawChanged) .none kV37 dc37 pm37 an37 cd37 ct37
      dLawChanged := ⟨fun_mk (st := sLawChanged) l37 c37 k37, PySem.W.mg_of X G a37, (fun_mk (st := sLawChanged) l37 c37 k37).binds (ps := PLawChanged) fun _ _ _ _ _ _ us hl => match us, hl with | [_, _, _], _ => rfl⟩
      aLaw := fa
      fdLaw := PySem.W.fnOf "law" "law" (defArgs sLaw) (defBody sLaw) (defScope sLaw) .none kV38 dc38 pm38 an38 cd38 ct38
      dLaw := ⟨fun_mk (st := sLaw) l38 c38 k38, PySem.W.mg_of X G a38, (fun_mk (st := sLaw) l38 c38 k38).binds (ps := PLaw) fun _ _ _ _ _ _ us hl => match us, hl with | [_], _ => rfl⟩
      b_len := PySem.W.mg_none_of X G z_len
      b_int := PySem.W.mg_none_of X G z_int
      b_range := PySem.W.mg_none_of X G z_range
      b_tuple := PySem.W.mg_none_of X G z_tuple
      b_list := PySem.W.mg_none_of X G z_list
      b_isinstance := PySem.W.mg_none_of X G z_isinstance
      b_enumerate := PySem.W.mg_none_of X G z_enumerate
      b_all := PySem.W.mg_none_of X G z_all
      b_repr := PySem.W.mg_none_of X G z_repr
      b_bool := PySem.W.mg_none_of X G z_bool
      gPAGE := ⟨tgPAGE, PySem.W.mg_of X G ggPAGE⟩
      gVIRTUAL := ⟨tgVIRTUAL, PySem.W.mg_of X G ggVIRTUAL⟩
      gREAD := ⟨tgREAD, PySem.W.mg_of X G ggREAD⟩
      gWRITE := ⟨tgWRITE, PySem.W.mg_of X G ggWRITE⟩
      gEXECUTE := ⟨tgEXECUTE, PySem.W.mg_of X G ggEXECUTE⟩
      gWORDS := ⟨tgWORDS, PySem.W.mg_of X G ggWORDS⟩
      aFITTING := wFITTING
      gFITTING := PySem.W.mg_of X G ggFITTING
      kFITTING := fun C hC => ktab (krow_cons (v := .ref f14) lkFITTING kyFITTING krFITTING_0 rfl (fun _ => dr_fn 0 (congrFun hC 0)) (krow_cons (v := .ref f15) lkFITTING kyFITTING krFITTING_1 rfl (fun _ => dr_fn 1 (congrFun hC 1)) (krow_cons (v := .ref f16) lkFITTING kyFITTING krFITTING_2 rfl (fun _ => dr_fn 2 (congrFun hC 2)) (krow_cons (v := .ref f17) lkFITTING kyFITTING krFITTING_3 rfl (fun _ => dr_fn 3 (congrFun hC 3)) (krow_cons (v := .ref f18) lkFITTING kyFITTING krFITTING_4 rfl (fun _ => dr_fn 4 (congrFun hC 4)) (krow_cons (v := .ref f17) lkFITTING kyFITTING krFITTING_5 rfl (fun _ => dr_fn 3 (congrFun hC 3)) (krow_cons (v := .ref f19) lkFITTING kyFITTING krFITTING_6 rfl (fun _ => dr_fn 5 (congrFun hC 5)) ( krow_nil)))))))) }
  exact ⟨T.fdLaw, fun s v => .of_eq rfl, fun base _ _ => ok_fin T⟩
theorem walk {l : PySem.W.OpenLaw} {q : Program} {loose : List Str} {XP : (Str → Option Value) → Heap → Prop} {YP : World → Heap → Prop} {d : DefRec} {K : Params → PySem.W.Frag} (hn : l.most = some 63) (hdf : d.params.defaults = [])
    (hY : ∀ (w : World) (h : Heap), YP w h → (K w.params).In h)
    (F : ∀ (w : World) (mg : Str → Option Value) (fa : Addr) (h : Heap), (K w.params).In h → h.Ns mainGlobals mg → mg d.name = some (.ref fa) →
      ∃ fd : FuncData, (∀ (s : Shared) (u : Value), BindsTo s fd ⟨[u], []⟩ [("script", u)]) ∧ ∀ base : Heap, (K w.params).In base → base.Ns mainGlobals mg → FnG l.prog w (K w.params) mg base 8 fa fd ["script"] (spLaw (K w.params))) :
    PySem.W.WalkO q loose XP YP l.row.toRowW d [] (fun f vs => PySem.call f vs) :=
  walk_ofG (n := 63) (k := 8) (x := "script") (sp := fun w => spLaw (K w.params)) hn (by decide) hdf ⟨rfl, by decide, by decide⟩ hY F fun _ _ a ns hl hS => ⟨a, ns, rfl, hS, hl, fun _ => rfl⟩
end K31
open PySem PySem.W PyProof.Rows
set_option maxRecDepth 100000 in
set_option maxHeartbeats 0 in
theorem PySem.Challenge.cw_merestone_k31_judged_configurations_holds : PySem.Challenge.rw_merestone_k31_judged_configurations.Holds := by
  w_on; o_law; k_head; (case hw => w_witness2)
  k_fill
  refine K31.walk (l := PySem.Challenge.rw_merestone_k31_judged_configurations) rfl rfl (fun w h Y => PySem.W.kIn_of Y) ?F
  case F =>
    intro w mg fa h KX G hmg
    refine' K31.all_mk KX G hmg ?ca0 ?cp0 ?ch0 ?co0 ?cs0 ?n0_image ?n0_pages ?n0_start ?cc0 ?cm0 ?ck0 ?ci0 ?ca1 ?cp1 ?ch1 ?co1 ?cs1 ?n1_partitions ?n1_frames ?n1_channels ?n1_shares ?n1_devices ?n1_flows ?cc1 ?cm1 ?ck1 ?ci1 ?sp0 ?tk0 ?a0 ?t0 ?l0 ?c0 ?k0 ?mk0 ?kc0 ?a1 ?t1 ?l1 ?c1 ?k1 ?a2 ?t2 ?l2 ?c2 ?k2 ?mk1 ?kc1 ?a3 ?t3 ?l3 ?c3 ?k3 ?a4 ?l4 ?c4 ?k4 ?a5 ?l5 ?c5 ?k5 ?a6 ?l6 ?c6 ?k6 ?a7 ?l7 ?c7 ?k7 ?a8 ?l8 ?c8 ?k8 ?a9 ?l9 ?c9 ?k9 ?a10 ?l10 ?c10 ?k10 ?a11 ?l11 ?c11 ?k11 ?a12 ?l12 ?c12 ?k12 ?a13 ?l13 ?c13 ?k13 ?a14 ?l14 ?c14 ?k14 ?a15 ?l15 ?c15 ?k15 ?a16 ?l16 ?c16 ?k16 ?a17 ?l17 ?c17 ?k17 ?a18 ?l18 ?c18 ?k18 ?a19 ?l19 ?c19 ?k19 ?a20 ?l20 ?c20 ?k20 ?a21 ?l21 ?c21 ?k21 ?a22 ?l22 ?c22 ?k22 ?a23 ?l23 ?c23 ?k23 ?a24 ?l24 ?c24 ?k24 ?a25 ?l25 ?c25 ?k25 ?a26 ?l26 ?c26 ?k26 ?a27 ?l27 ?c27 ?k27 ?a28 ?l28 ?c28 ?k28 ?a29 ?l29 ?c29 ?k29 ?a30 ?l30 ?c30 ?k30 ?a31 ?l31 ?c31 ?k31 ?a32 ?l32 ?c32 ?k32 ?a33 ?l33 ?c33 ?k33 ?a34 ?l34 ?c34 ?k34 ?a35 ?l35 ?c35 ?k35 ?a36 ?l36 ?c36 ?k36 ?a37 ?l37 ?c37 ?k37 ?a38 ?l38 ?c38 ?k38 ?z_len ?z_int ?z_range ?z_tuple ?z_list ?z_isinstance ?z_enumerate ?z_all ?z_repr ?z_bool ?ggPAGE ?ggVIRTUAL ?ggREAD ?ggWRITE ?ggEXECUTE ?ggWORDS ?ggFITTING ?lkFITTING ?kyFITTING ?krFITTING_0 ?krFITTING_1 ?krFITTING_2 ?krFITTING_3 ?krFITTING_4 ?krFITTING_5 ?krFITTING_6
    (case ca0 => k_is)
    (case cp0 => k_is)
    (case ch0 => k_is)
    (case co0 => k_is)
    (case cs0 => k_is)
    (case n0_image => k_is)
    (case n0_pages => k_is)
    (case n0_start => k_is)
    (case cc0 => k_is)
    (case cm0 => k_is)
    (case ck0 => kit_is)
    (case ci0 => kit_is)
    (case ca1 => k_is)
    (case cp1 => k_is)
    (case ch1 => k_is)
    (case co1 => k_is)
    (case cs1 => k_is)
    (case n1_partitions => k_is)
    (case n1_frames => k_is)
    (case n1_channels => k_is)
    (case n1_shares => k_is)
    (case n1_devices => k_is)
    (case n1_flows => k_is)
    (case cc1 => k_is)
    (case cm1 => k_is)
    (case ck1 => kit_is)
    (case ci1 => kit_is)
    (case sp0 => k_is)
    (case tk0 => k_is)
    (case a0 => k_is)
    (case t0 => k_is)
    (case l0 => k_is)
    (case c0 => k_is)
    (case k0 => k_is)
    (case mk0 => k_is)
    (case kc0 => k_is)
    (case a1 => k_is)
    (case t1 => k_is)
    (case l1 => k_is)
    (case c1 => k_is)
    (case k1 => k_is)
    (case a2 => k_is)
    (case t2 => k_is)
    (case l2 => k_is)
    (case c2 => k_is)
    (case k2 => k_is)
    (case mk1 => k_is)
    (case kc1 => k_is)
    (case a3 => k_is)
    (case t3 => k_is)
    (case l3 => k_is)
    (case c3 => k_is)
    (case k3 => k_is)
    (case a4 => k_is)
    (case l4 => k_is)
    (case c4 => k_is)
    (case k4 => k_is)
    (case a5 => k_is)
    (case l5 => k_is)
    (case c5 => k_is)
    (case k5 => k_is)
    (case a6 => k_is)
    (case l6 => k_is)
    (case c6 => k_is)
    (case k6 => k_is)
    (case a7 => k_is)
    (case l7 => k_is)
    (case c7 => k_is)
    (case k7 => k_is)
    (case a8 => k_is)
    (case l8 => k_is)
    (case c8 => k_is)
    (case k8 => k_is)
    (case a9 => k_is)
    (case l9 => k_is)
    (case c9 => k_is)
    (case k9 => k_is)
    (case a10 => k_is)
    (case l10 => k_is)
    (case c10 => k_is)
    (case k10 => k_is)
    (case a11 => k_is)
    (case l11 => k_is)
    (case c11 => k_is)
    (case k11 => k_is)
    (case a12 => k_is)
    (case l12 => k_is)
    (case c12 => k_is)
    (case k12 => k_is)
    (case a13 => k_is)
    (case l13 => k_is)
    (case c13 => k_is)
    (case k13 => k_is)
    (case a14 => k_is)
    (case l14 => k_is)
    (case c14 => k_is)
    (case k14 => k_is)
    (case a15 => k_is)
    (case l15 => k_is)
    (case c15 => k_is)
    (case k15 => k_is)
    (case a16 => k_is)
    (case l16 => k_is)
    (case c16 => k_is)
    (case k16 => k_is)
    (case a17 => k_is)
    (case l17 => k_is)
    (case c17 => k_is)
    (case k17 => k_is)
    (case a18 => k_is)
    (case l18 => k_is)
    (case c18 => k_is)
    (case k18 => k_is)
    (case a19 => k_is)
    (case l19 => k_is)
    (case c19 => k_is)
    (case k19 => k_is)
    (case a20 => k_is)
    (case l20 => k_is)
    (case c20 => k_is)
    (case k20 => k_is)
    (case a21 => k_is)
    (case l21 => k_is)
    (case c21 => k_is)
    (case k21 => k_is)
    (case a22 => k_is)
    (case l22 => k_is)
    (case c22 => k_is)
    (case k22 => k_is)
    (case a23 => k_is)
    (case l23 => k_is)
    (case c23 => k_is)
    (case k23 => k_is)
    (case a24 => k_is)
    (case l24 => k_is)
    (case c24 => k_is)
    (case k24 => k_is)
    (case a25 => k_is)
    (case l25 => k_is)
    (case c25 => k_is)
    (case k25 => k_is)
    (case a26 => k_is)
    (case l26 => k_is)
    (case c26 => k_is)
    (case k26 => k_is)
    (case a27 => k_is)
    (case l27 => k_is)
    (case c27 => k_is)
    (case k27 => k_is)
    (case a28 => k_is)
    (case l28 => k_is)
    (case c28 => k_is)
    (case k28 => k_is)
    (case a29 => k_is)
    (case l29 => k_is)
    (case c29 => k_is)
    (case k29 => k_is)
    (case a30 => k_is)
    (case l30 => k_is)
    (case c30 => k_is)
    (case k30 => k_is)
    (case a31 => k_is)
    (case l31 => k_is)
    (case c31 => k_is)
    (case k31 => k_is)
    (case a32 => k_is)
    (case l32 => k_is)
    (case c32 => k_is)
    (case k32 => k_is)
    (case a33 => k_is)
    (case l33 => k_is)
    (case c33 => k_is)
    (case k33 => k_is)
    (case a34 => k_is)
    (case l34 => k_is)
    (case c34 => k_is)
    (case k34 => k_is)
    (case a35 => k_is)
    (case l35 => k_is)
    (case c35 => k_is)
    (case k35 => k_is)
    (case a36 => k_is)
    (case l36 => k_is)
    (case c36 => k_is)
    (case k36 => k_is)
    (case a37 => k_is)
    (case l37 => k_is)
    (case c37 => k_is)
    (case k37 => k_is)
    (case a38 => k_is)
    (case l38 => k_is)
    (case c38 => k_is)
    (case k38 => k_is)
    (case z_len => k_is)
    (case z_int => k_is)
    (case z_range => k_is)
    (case z_tuple => k_is)
    (case z_list => k_is)
    (case z_isinstance => k_is)
    (case z_enumerate => k_is)
    (case z_all => k_is)
    (case z_repr => k_is)
    (case z_bool => k_is)
    (case ggPAGE => k_is)
    (case ggVIRTUAL => k_is)
    (case ggREAD => k_is)
    (case ggWRITE => k_is)
    (case ggEXECUTE => k_is)
    (case ggWORDS => k_is)
    (case ggFITTING => k_is)
    (case lkFITTING => k_is)
    (case kyFITTING => k_keys)
    (case krFITTING_0 => k_is)
    (case krFITTING_1 => k_is)
    (case krFITTING_2 => k_is)
    (case krFITTING_3 => k_is)
    (case krFITTING_4 => k_is)
    (case krFITTING_5 => k_is)
    (case krFITTING_6 => k_is)
#print axioms PySem.Challenge.cw_merestone_k31_judged_configurations_holds
end
