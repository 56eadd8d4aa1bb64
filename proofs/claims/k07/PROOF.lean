import PyProof.Rows.All
import Wide.All
import OpenK.AllK
import Wide.FinOn
import HandS.ForMost
import HandS.Evl
import HandS.IsInst
import HandS.TupLe
import HandS.More
import HandS.Strs
import HandS.Walk
import HandS.Deep
import HandS.TupAny
import HandS.Conv
import HandS.ExcCtx
import HandS.CallSlots
import HandS.ExcInit
import HandS.ExcOwn
import HandS.WordsExc
import HandS.OwnEq
import KE.GoesMore
import HandS.TupMul
import HandS.Style
import HandS.ExcInitHot
import HandS.ExcField
import HandS.HotCalls
import HandS.TryMany
import HandS.CallLocal
import HandS.ExcIs
import PySem.Challenge.RW_merestone_k07_whole_user_mode_sees_its_p
set_option Elab.async false
section
set_option Elab.async false
set_option linter.all false
set_option maxRecDepth 100000
set_option maxHeartbeats 4000000
namespace Wv
open PySem PySem.Spec PyProof.Rows L2 Evl

/-! ### data, trees of what is owned -/
inductive D where
  | non | bool (b : Bool) | int (i : Int) | str (s : Str)
  | lst (ds : List D) | ro (ds : List D) | tup (ds : List D) | tpx (ds : List D) | fzl (ds : List D) | obj (c : Nat) (ds : List D) | dct (ks : List Key) (ds : List D) | fn (j : Nat) | exn (a dd : Addr) (c : Nat) (ds : List D) | cst (v : V) | any
/-- nm: a node whose address is told -/
inductive T where
  | dat (d : D) | lst (ts : List T) | obj (c : Nat) (ts : List T) | dct (ks : List Key) (ts : List T) | nm (a : Addr) (t : T)
structure Cs where
  at_ : Nat → Addr
  ly : Nat → List Str
  fn : Nat → Addr := fun _ => 0
mutual
inductive DR (K : PySem.W.Frag) (C : Cs) (G : Hp) : V → D → Prop
  | non : DR K C G .non .non
  | bool (b : Bool) : DR K C G (.bl b) (.bool b)
  | int (i : Int) : DR K C G (.int i) (.int i)
  | str (s : Str) : DR K C G (.str s) (.str s)
  | lst {a : Addr} {xs : List V} {ds : List D} (h : G a = some (.lst xs)) (r : DRs K C G xs ds) : DR K C G (.ref a) (.lst ds)
  | ro {a : Addr} {xs : List V} {ds : List D} (h : SqL K G a xs) (r : DRs K C G xs ds) : DR K C G (.ref a) (.ro ds)
  | tup {a : Addr} {xs : List V} {ds : List D} (h : SqT K G a xs) (r : DRs K C G xs ds) : DR K C G (.ref a) (.tup ds)
  | tpx {a : Addr} {o : Obj} {xs : List V} {ds : List D} (h : G a = some (.frz o (.tup xs))) (n : o.dict = none) (r : DRs K C G xs ds) : DR K C G (.ref a) (.tpx ds)
  | fzl {a : Addr} {o : Obj} {xs : List V} {ds : List D} (h : G a = some (.frz o (.lst xs))) (r : DRs K C G xs ds) : DR K C G (.ref a) (.fzl ds)
  | obj {a dx : Addr} {fs : List (Str × V)} {c : Nat} {ds : List D} (h : G a = some (.ins (C.at_ c) dx fs)) (n : fs.map Prod.fst = (C.ly c).take fs.length) (r : DRs K C G (fs.map Prod.snd) ds) : DR K C G (.ref a) (.obj c ds)
  | dct {a : Addr} {kvs : List (Key × V)} {ks : List Key} {ds : List D} (h : G a = some (.dK kvs)) (n : kvs.map Prod.fst = ks) (r : DRs K C G (kvs.map Prod.snd) ds) : DR K C G (.ref a) (.dct ks ds)
  | fn (j : Nat) : DR K C G (.ref (C.fn j)) (.fn j)
  | exn {a dd : Addr} {fs : List (Str × V)} {c : Nat} {ds : List D} (h : G dd = some (.xd fs)) (n : fs.map Prod.fst = (C.ly c).take fs.length) (r : DRs K C G (fs.map Prod.snd) ds) : DR K C G (.ref a) (.exn a dd c ds)
  | cst (v : V) : DR K C G v (.cst v)
  | any (v : V) : DR K C G v .any
inductive DRs (K : PySem.W.Frag) (C : Cs) (G : Hp) : List V → List D → Prop
  | nil : DRs K C G [] []
  | cons {v : V} {d : D} {vs : List V} {ds : List D} (h : DR K C G v d) (r : DRs K C G vs ds) : DRs K C G (v :: vs) (d :: ds)
end
mutual
inductive TR (K : PySem.W.Frag) (C : Cs) (G H : Hp) : V → T → List Addr → Prop
  | dat {v : V} {d : D} (h : DR K C G v d) : TR K C G H v (.dat d) []
  | lst {a : Addr} {xs : List V} {ts : List T} {fp : List Addr} (h : H a = some (.lst xs)) (r : TRs K C G H xs ts fp) : TR K C G H (.ref a) (.lst ts) (a :: fp)
  | obj {a dx : Addr} {fs : List (Str × V)} {c : Nat} {ts : List T} {fp : List Addr} (h : H a = some (.ins (C.at_ c) dx fs)) (n : fs.map Prod.fst = (C.ly c).take fs.length) (r : TRs K C G H (fs.map Prod.snd) ts fp) : TR K C G H (.ref a) (.obj c ts) (a :: fp)
  | dct {a : Addr} {kvs : List (Key × V)} {ks : List Key} {ts : List T} {fp : List Addr} (h : H a = some (.dK kvs)) (n : kvs.map Prod.fst = ks) (r : TRs K C G H (kvs.map Prod.snd) ts fp) : TR K C G H (.ref a) (.dct ks ts) (a :: fp)
  | nm {a : Addr} {t : T} {fp : List Addr} (h : TR K C G H (.ref a) t fp) : TR K C G H (.ref a) (.nm a t) fp
inductive TRs (K : PySem.W.Frag) (C : Cs) (G H : Hp) : List V → List T → List Addr → Prop
  | nil : TRs K C G H [] [] []
  | cons {v : V} {t : T} {vs : List V} {ts : List T} {fp fq : List Addr} (h : TR K C G H v t fp) (r : TRs K C G H vs ts fq) : TRs K C G H (v :: vs) (t :: ts) (fp ++ fq)
end
section
variable {K : PySem.W.Frag} {C : Cs} {G H G' H' : Hp}
mutual
theorem DR.up (e : Ex G G') : ∀ (d : D) (v : V), DR K C G v d → DR K C G' v d
  | .non, _, h => by cases h; exact .non
  | .bool b, _, h => by cases h; exact .bool b
  | .int i, _, h => by cases h; exact .int i
  | .str x, _, h => by cases h; exact .str x
  | .lst ds, _, h => by
    cases h with
    | lst hs ha => exact .lst (e _ _ hs) (DRs.up e ds _ ha)
  | .ro ds, _, h => by
    cases h with
    | ro hs ha => exact .ro (ex_l e hs) (DRs.up e ds _ ha)
  | .tup ds, _, h => by
    cases h with
    | tup hs ha => exact .tup (ex_t e hs) (DRs.up e ds _ ha)
  | .tpx ds, _, h => by
    cases h with
    | tpx hs n ha => exact .tpx (e _ _ hs) n (DRs.up e ds _ ha)
  | .fzl ds, _, h => by
    cases h with
    | fzl hs ha => exact .fzl (e _ _ hs) (DRs.up e ds _ ha)
  | .obj c ds, _, h => by
    cases h with
    | obj hs n ha => exact .obj (e _ _ hs) n (DRs.up e ds _ ha)
  | .dct ks ds, _, h => by
    cases h with
    | dct hs n ha => exact .dct (e _ _ hs) n (DRs.up e ds _ ha)
  | .fn j, _, h => by cases h; exact .fn j
  | .exn a dd c ds, _, h => by
    cases h with
    | exn hs n ha => exact .exn (e _ _ hs) n (DRs.up e ds _ ha)
  | .cst v, _, h => by cases h; exact .cst v
  | .any, v, h => .any v
theorem DRs.up (e : Ex G G') : ∀ (ds : List D) (vs : List V), DRs K C G vs ds → DRs K C G' vs ds
  | [], _, h => by cases h; exact .nil
  | d :: ds, _, h => by
    cases h with
    | cons h1 h2 => exact .cons (DR.up e d _ h1) (DRs.up e ds _ h2)
end
theorem DRs.len : ∀ {ds : List D} {vs : List V}, DRs K C G vs ds → vs.length = ds.length
  | [], _, .nil => rfl
  | _ :: _, _, .cons _ h => by rw [List.length_cons, List.length_cons, DRs.len h]
theorem DRs.get : ∀ {ds : List D} {vs : List V} {i : Nat} {d : D}, DRs K C G vs ds → ds[i]? = some d → ∃ v, vs[i]? = some v ∧ DR K C G v d
  | _, _, i, _, .nil, e => by simp at e
  | _, _, 0, _, .cons h _, e => by
    cases (Option.some.inj e)
    exact ⟨_, rfl, h⟩
  | _, _, i + 1, _, .cons _ h, e => DRs.get (i := i) h e
theorem DRs.app : ∀ {ds es : List D} {vs us : List V}, DRs K C G vs ds → DRs K C G us es → DRs K C G (vs ++ us) (ds ++ es)
  | _, _, _, _, .nil, h => h
  | _, _, _, _, .cons h1 h2, h => .cons h1 (DRs.app h2 h)
theorem DRs.ints : ∀ {ns : List Int} {vs : List V}, DRs K C G vs (ns.map .int) → vs = ns.map V.int
  | [], _, .nil => rfl
  | _ :: _, _, .cons h1 h2 => by
    cases h1
    rw [DRs.ints h2]
    rfl
theorem DRs.strs : ∀ {ns : List Str} {vs : List V}, DRs K C G vs (ns.map .str) → vs = ns.map V.str
  | [], _, .nil => rfl
  | _ :: _, _, .cons h1 h2 => by
    cases h1
    rw [DRs.strs h2]
    rfl
theorem DRs.bools : ∀ {ns : List Bool} {vs : List V}, DRs K C G vs (ns.map .bool) → vs = ns.map V.bl
  | [], _, .nil => rfl
  | _ :: _, _, .cons h1 h2 => by
    cases h1
    rw [DRs.bools h2]
    rfl
theorem DRs.of_ints : ∀ (ns : List Int), DRs K C G (ns.map V.int) (ns.map .int)
  | [] => .nil
  | s :: ss => .cons (.int s) (DRs.of_ints ss)
theorem DRs.of_strs : ∀ (ns : List Str), DRs K C G (ns.map V.str) (ns.map .str)
  | [] => .nil
  | s :: ss => .cons (.str s) (DRs.of_strs ss)
theorem TRs.len : ∀ {ts : List T} {vs : List V} {fp : List Addr}, TRs K C G H vs ts fp → vs.length = ts.length
  | [], _, _, .nil => rfl
  | _ :: _, _, _, .cons _ h => by rw [List.length_cons, List.length_cons, TRs.len h]
/-! a tree stays where its own objects stay -/
mutual
theorem TR.stay (e : Ex G G') : ∀ (t : T) (v : V) (fp : List Addr), TR K C G H v t fp → (∀ a ∈ fp, H' a = H a) → TR K C G' H' v t fp
  | .dat d, _, _, h, _ => by
    cases h with
    | dat h => exact .dat (DR.up e d _ h)
  | .lst ts, _, _, h, s => by
    cases h with
    | lst h r => exact .lst ((s _ List.mem_cons_self).trans h) (TRs.stay e ts _ _ r fun a ha => s a (List.mem_cons_of_mem _ ha))
  | .obj c ts, _, _, h, s => by
    cases h with
    | obj h n r => exact .obj ((s _ List.mem_cons_self).trans h) n (TRs.stay e ts _ _ r fun a ha => s a (List.mem_cons_of_mem _ ha))
  | .dct ks ts, _, _, h, s => by
    cases h with
    | dct h n r => exact .dct ((s _ List.mem_cons_self).trans h) n (TRs.stay e ts _ _ r fun a ha => s a (List.mem_cons_of_mem _ ha))
  | .nm a t, _, _, h, s => by
    cases h with
    | nm h => exact .nm (TR.stay e t _ _ h s)
theorem TRs.stay (e : Ex G G') : ∀ (ts : List T) (vs : List V) (fp : List Addr), TRs K C G H vs ts fp → (∀ a ∈ fp, H' a = H a) → TRs K C G' H' vs ts fp
  | [], _, _, h, _ => by cases h; exact .nil
  | t :: ts, _, _, h, s => by
    cases h with
    | cons h r => exact .cons (TR.stay e t _ _ h fun a ha => s a (List.mem_append_left _ ha)) (TRs.stay e ts _ _ r fun a ha => s a (List.mem_append_right _ ha))
end
/-! a tree becomes data -/
mutual
def T.toD : T → D
  | .dat d => d
  | .lst ts => .lst (T.toDs ts)
  | .obj c ts => .obj c (T.toDs ts)
  | .dct ks ts => .dct ks (T.toDs ts)
  | .nm _ t => t.toD
def T.toDs : List T → List D
  | [] => []
  | t :: ts => t.toD :: T.toDs ts
end
theorem toDs_map : ∀ ds : List D, T.toDs (ds.map .dat) = ds
  | [] => rfl
  | d :: ds => by
    show d :: T.toDs (ds.map .dat) = _
    rw [toDs_map ds]
mutual
theorem TR.frz (e : Ex G G') : ∀ (t : T) (v : V) (fp : List Addr), TR K C G H v t fp → (∀ a ∈ fp, G' a = H a) → DR K C G' v t.toD
  | .dat d, _, _, h, _ => by
    cases h with
    | dat h => exact DR.up e d _ h
  | .lst ts, _, _, h, s => by
    cases h with
    | lst h r => exact .lst ((s _ List.mem_cons_self).trans h) (TRs.frz e ts _ _ r fun a ha => s a (List.mem_cons_of_mem _ ha))
  | .obj c ts, _, _, h, s => by
    cases h with
    | obj h n r => exact .obj ((s _ List.mem_cons_self).trans h) n (TRs.frz e ts _ _ r fun a ha => s a (List.mem_cons_of_mem _ ha))
  | .dct ks ts, _, _, h, s => by
    cases h with
    | dct h n r => exact .dct ((s _ List.mem_cons_self).trans h) n (TRs.frz e ts _ _ r fun a ha => s a (List.mem_cons_of_mem _ ha))
  | .nm a t, _, _, h, s => by
    cases h with
    | nm h => exact TR.frz e t _ _ h s
theorem TRs.frz (e : Ex G G') : ∀ (ts : List T) (vs : List V) (fp : List Addr), TRs K C G H vs ts fp → (∀ a ∈ fp, G' a = H a) → DRs K C G' vs (T.toDs ts)
  | [], _, _, h, _ => by cases h; exact .nil
  | t :: ts, _, _, h, s => by
    cases h with
    | cons h r => exact .cons (TR.frz e t _ _ h fun a ha => s a (List.mem_append_left _ ha)) (TRs.frz e ts _ _ r fun a ha => s a (List.mem_append_right _ ha))
end
/-- the heap of data with the objects at fp -/
def mix (G H : Hp) (fp : List Addr) : Hp := fun a => if a ∈ fp then H a else G a
theorem mix_in {fp : List Addr} {a : Addr} (h : a ∈ fp) : mix G H fp a = H a := if_pos h
theorem mix_out {fp : List Addr} {a : Addr} (h : a ∉ fp) : mix G H fp a = G a := if_neg h
theorem mix_ex {fp : List Addr} (h : ∀ a ∈ fp, G a = none) : Ex G (mix G H fp) := fun a o e => by
  rw [mix_out fun z => by rw [h a z] at e; cases e]
  exact e
theorem mix_sub {fp : List Addr} (s : Ex G H) : Ex (mix G H fp) H := fun a o e => by
  by_cases z : a ∈ fp
  · rw [mix_in z] at e
    exact e
  · rw [mix_out z] at e
    exact s a o e

/-! ### places -/
def fol (H : Hp) : List Nat → V → Option V
  | [], v => some v
  | i :: p, .ref a => match H a with
    | some (.lst xs) => (xs[i]?).bind (fol H p)
    | some (.ins _ _ fs) => ((fs.map Prod.snd)[i]?).bind (fol H p)
    | some (.dK kvs) => ((kvs.map Prod.snd)[i]?).bind (fol H p)
    | _ => none
  | _ :: _, _ => none
def T.kids : T → List T
  | .dat _ => []
  | .lst ts => ts
  | .obj _ ts => ts
  | .dct _ ts => ts
  | .nm _ t => t.kids
/-- the node itself -/
def T.strip : T → T
  | .dat d => .dat d
  | .lst ts => .lst ts
  | .obj c ts => .obj c ts
  | .dct ks ts => .dct ks ts
  | .nm _ t => t.strip
def T.isD : T → Bool
  | .dat _ => true
  | .lst _ => false
  | .obj _ _ => false
  | .dct _ _ => false
  | .nm _ t => t.isD
/-- the node becomes another, its name stays -/
def T.over (f : T → T) : T → T
  | .dat d => f (.dat d)
  | .lst ts => f (.lst ts)
  | .obj c ts => f (.obj c ts)
  | .dct ks ts => f (.dct ks ts)
  | .nm a t => .nm a (T.over f t)
def T.at : List Nat → T → Option T
  | [], t => some t
  | i :: p, t => (t.kids[i]?).bind (T.at p)
def T.withKids : T → List T → T
  | .dat d, _ => .dat d
  | .lst _, ts => .lst ts
  | .obj c _, ts => .obj c ts
  | .dct ks _, ts => .dct ks ts
  | .nm a t, ts => .nm a (T.withKids t ts)
def T.put (u : T) : List Nat → T → T
  | [] => T.over fun _ => u.strip
  | i :: p => T.over fun t => match t.kids[i]? with
    | some x => t.withKids (t.kids.set i (T.put u p x))
    | none => t
theorem TR.strip {K : PySem.W.Frag} {C : Cs} {G H : Hp} : ∀ {t : T} {v : V} {fp : List Addr}, TR K C G H v t fp → TR K C G H v t.strip fp
  | .dat _, _, _, h => h
  | .lst _, _, _, h => h
  | .obj _ _, _, _, h => h
  | .dct _ _, _, _, h => h
  | .nm _ t, _, _, h => by
    cases h with
    | nm h => exact TR.strip (t := t) h
theorem T.strip_nm {a : Addr} {u : T} : ∀ t : T, t.strip ≠ .nm a u
  | .dat _, h => nomatch h
  | .lst _, h => nomatch h
  | .obj _ _, h => nomatch h
  | .dct _ _, h => nomatch h
  | .nm _ t, h => T.strip_nm t h
theorem T.strip_strip : ∀ t : T, t.strip.strip = t.strip
  | .dat _ => rfl
  | .lst _ => rfl
  | .obj _ _ => rfl
  | .dct _ _ => rfl
  | .nm _ t => T.strip_strip t
theorem TR.over {K : PySem.W.Frag} {C : Cs} {G H G' H' : Hp} {f : T → T} {fq : List Addr} : ∀ {t : T} {v : V} {fp : List Addr}, TR K C G H v t fp → TR K C G' H' v (f t.strip) fq → TR K C G' H' v (T.over f t) fq
  | .dat _, _, _, _, h => h
  | .lst _, _, _, _, h => h
  | .obj _ _, _, _, _, h => h
  | .dct _ _, _, _, _, h => h
  | .nm _ t, _, _, h, h' => by
    cases h with
    | nm h => exact .nm (TR.over (t := t) h h')
def NodeV (H : Hp) (w : V) : Prop := ∃ a, w = .ref a ∧ ((∃ xs, H a = some (.lst xs)) ∨ (∃ c dx fs, H a = some (.ins c dx fs)) ∨ ∃ kvs, H a = some (.dK kvs))
theorem TRs.split : ∀ {ts : List T} {vs : List V} {fp : List Addr} {i : Nat} {t : T}, TRs K C G H vs ts fp → ts[i]? = some t → ∃ v L fu R, vs[i]? = some v ∧ TR K C G H v t fu ∧ fp = L ++ (fu ++ R) ∧
    ∀ (G' H' : Hp) (t' : T) (fu' : List Addr), Ex G G' → (∀ a ∈ L ++ R, H' a = H a) → TR K C G' H' v t' fu' → TRs K C G' H' vs (ts.set i t') (L ++ (fu' ++ R))
  | _, _, _, _, _, .nil, e => by simp at e
  | _, _, _, 0, _, .cons (fp := fp) (fq := fq) h r, e => by
    cases Option.some.inj e
    exact ⟨_, [], fp, fq, rfl, h, rfl, fun G' H' t' fu' eg s h' => TRs.cons (fp := fu') (fq := fq) h' (TRs.stay eg _ _ _ r fun a ha => s a ha)⟩
  | _, _, _, i + 1, _, .cons (fp := fp) (fq := fq) h r, e => by
    obtain ⟨v, L, fu, R, h1, h2, h3, h4⟩ := TRs.split (i := i) r e
    refine ⟨v, fp ++ L, fu, R, h1, h2, by rw [h3, List.append_assoc], fun G' H' t' fu' eg s h' => ?_⟩
    rw [List.append_assoc]
    refine .cons (TR.stay eg _ _ _ h fun a ha => s a (by simp [ha])) (h4 G' H' t' fu' eg (fun a ha => s a ?_) h')
    rcases List.mem_append.mp ha with z | z <;> simp [z]
/-- the node at a place, and what may stand there -/
theorem TR.node : ∀ {p : List Nat} {t u : T} {v : V} {fp : List Addr}, TR K C G H v t fp → T.at p t = some u → ∃ w L fu R, fol H p v = some w ∧ TR K C G H w u fu ∧ fp = L ++ (fu ++ R) ∧
    ∀ (G' H' : Hp) (u' : T) (fu' : List Addr), Ex G G' → (∀ a ∈ L ++ R, H' a = H a) → TR K C G' H' w u' fu' → TR K C G' H' v (T.put u' p t) (L ++ (fu' ++ R))
  | [], t, u, v, fp, h, e => by
    cases Option.some.inj e
    exact ⟨v, [], fp, [], rfl, h, by simp, fun G' H' u' fu' eg s h' => by
      show TR K C G' H' v (T.over (fun _ => u'.strip) t) ([] ++ (fu' ++ []))
      have := TR.over (f := fun _ => u'.strip) h h'.strip
      simpa using this⟩
  | i :: p, t, u, v, fp, h, e => by
    cases h with
    | @nm a t _ h =>
      obtain ⟨w, L, fu, R, h1, h2, h3, h4⟩ := TR.node (p := i :: p) (t := t) h (show T.at (i :: p) t = some u from e)
      exact ⟨w, L, fu, R, h1, h2, h3, fun G' H' u' fu' eg s h' => .nm (h4 G' H' u' fu' eg s h')⟩
    | dat h => simp [T.at, T.kids] at e
    | @lst a xs ts fq h r =>
      cases q : ts[i]? with
      | none => simp [T.at, T.kids, q] at e
      | some x =>
        have e : T.at p x = some u := by simpa [T.at, T.kids, q] using e
        obtain ⟨w, L, fu, R, h1, h2, h3, h4⟩ := TRs.split r q
        obtain ⟨w2, L2, fu2, R2, k1, k2, k3, k4⟩ := TR.node (p := p) h2 e
        refine ⟨w2, a :: (L ++ L2), fu2, R2 ++ R, ?_, k2, by rw [h3, k3]; simp, fun G' H' u' fu' eg s h' => ?_⟩
        · show (match H a with | some (.lst xs) => (xs[i]?).bind (fol H p) | some (.ins _ _ fs) => ((fs.map Prod.snd)[i]?).bind (fol H p) | some (.dK kvs) => ((kvs.map Prod.snd)[i]?).bind (fol H p) | _ => none) = _
          rw [h]
          show (xs[i]?).bind (fol H p) = _
          rw [h1]
          exact k1
        · have z := h4 G' H' (T.put u' p x) (L2 ++ (fu' ++ R2)) eg (fun b hb => s b (by rcases List.mem_append.mp hb with y | y <;> simp [y])) (k4 G' H' u' fu' eg (fun b hb => s b (by rcases List.mem_append.mp hb with y | y <;> simp [y])) h')
          have y : T.put u' (i :: p) (.lst ts) = .lst (ts.set i (T.put u' p x)) := by simp [T.put, T.over, T.kids, q, T.withKids]
          rw [y]
          have := TR.lst (C := C) ((s a (by simp)).trans h) z
          simpa using this
    | @obj a dx fs c ts fq h n r =>
      cases q : ts[i]? with
      | none => simp [T.at, T.kids, q] at e
      | some x =>
        have e : T.at p x = some u := by simpa [T.at, T.kids, q] using e
        obtain ⟨w, L, fu, R, h1, h2, h3, h4⟩ := TRs.split r q
        obtain ⟨w2, L2, fu2, R2, k1, k2, k3, k4⟩ := TR.node (p := p) h2 e
        refine ⟨w2, a :: (L ++ L2), fu2, R2 ++ R, ?_, k2, by rw [h3, k3]; simp, fun G' H' u' fu' eg s h' => ?_⟩
        · show (match H a with | some (.lst xs) => (xs[i]?).bind (fol H p) | some (.ins _ _ fs) => ((fs.map Prod.snd)[i]?).bind (fol H p) | some (.dK kvs) => ((kvs.map Prod.snd)[i]?).bind (fol H p) | _ => none) = _
          rw [h]
          show ((fs.map Prod.snd)[i]?).bind (fol H p) = _
          rw [h1]
          exact k1
        · have z := h4 G' H' (T.put u' p x) (L2 ++ (fu' ++ R2)) eg (fun b hb => s b (by rcases List.mem_append.mp hb with y | y <;> simp [y])) (k4 G' H' u' fu' eg (fun b hb => s b (by rcases List.mem_append.mp hb with y | y <;> simp [y])) h')
          have y : T.put u' (i :: p) (.obj c ts) = .obj c (ts.set i (T.put u' p x)) := by simp [T.put, T.over, T.kids, q, T.withKids]
          rw [y]
          have := TR.obj (C := C) ((s a (by simp)).trans h) n z
          simpa using this
    | @dct a kvs ks ts fq h n r =>
      cases q : ts[i]? with
      | none => simp [T.at, T.kids, q] at e
      | some x =>
        have e : T.at p x = some u := by simpa [T.at, T.kids, q] using e
        obtain ⟨w, L, fu, R, h1, h2, h3, h4⟩ := TRs.split r q
        obtain ⟨w2, L2, fu2, R2, k1, k2, k3, k4⟩ := TR.node (p := p) h2 e
        refine ⟨w2, a :: (L ++ L2), fu2, R2 ++ R, ?_, k2, by rw [h3, k3]; simp, fun G' H' u' fu' eg s h' => ?_⟩
        · show (match H a with | some (.lst xs) => (xs[i]?).bind (fol H p) | some (.ins _ _ fs) => ((fs.map Prod.snd)[i]?).bind (fol H p) | some (.dK kvs) => ((kvs.map Prod.snd)[i]?).bind (fol H p) | _ => none) = _
          rw [h]
          show ((kvs.map Prod.snd)[i]?).bind (fol H p) = _
          rw [h1]
          exact k1
        · have z := h4 G' H' (T.put u' p x) (L2 ++ (fu' ++ R2)) eg (fun b hb => s b (by rcases List.mem_append.mp hb with y | y <;> simp [y])) (k4 G' H' u' fu' eg (fun b hb => s b (by rcases List.mem_append.mp hb with y | y <;> simp [y])) h')
          have y : T.put u' (i :: p) (.dct ks ts) = .dct ks (ts.set i (T.put u' p x)) := by simp [T.put, T.over, T.kids, q, T.withKids]
          rw [y]
          have := TR.dct (C := C) ((s a (by simp)).trans h) n z
          simpa using this
/-- no place to a node is lost -/
def Idn (H H' : Hp) : Prop := ∀ (p : List Nat) (v w : V), fol H p v = some w → NodeV H w → fol H' p v = some w ∧ NodeV H' w
theorem Idn.refl (H : Hp) : Idn H H := fun _ _ _ h n => ⟨h, n⟩
theorem Idn.trans {H1 H2 : Hp} (a : Idn H H1) (b : Idn H1 H2) : Idn H H2 := fun p v w h n => by
  obtain ⟨h1, n1⟩ := a p v w h n
  exact b p v w h1 n1
/-- an object is laid, or a node gets other contents, its nodes in their places -/
theorem Idn.of (n : ∀ w, NodeV H w → NodeV H' w) (k : ∀ a i w, (∃ v, fol H [i] (.ref a) = some v ∧ v = w) → (NodeV H w) → fol H' [i] (.ref a) = some w) : Idn H H' := by
  intro p
  induction p with
  | nil => exact fun v w h nn => ⟨h, n w nn⟩
  | cons i p ih =>
    intro v w h nn
    cases v with
    | ref a =>
      have one : ∀ (H : Hp), fol H (i :: p) (.ref a) = (fol H [i] (.ref a)).bind (fol H p) := fun H => by
        show (match H a with | some (.lst xs) => (xs[i]?).bind (fol H p) | some (.ins _ _ fs) => ((fs.map Prod.snd)[i]?).bind (fol H p) | some (.dK kvs) => ((kvs.map Prod.snd)[i]?).bind (fol H p) | _ => none) = (match H a with | some (.lst xs) => (xs[i]?).bind (fol H []) | some (.ins _ _ fs) => ((fs.map Prod.snd)[i]?).bind (fol H []) | some (.dK kvs) => ((kvs.map Prod.snd)[i]?).bind (fol H []) | _ => none).bind (fol H p)
        have bind_some : ∀ (o : Option V), o.bind (fol H []) = o := fun o => by cases o <;> rfl
        split
        · rw [bind_some]
        · rw [bind_some]
        · rw [bind_some]
        · rfl
      rw [one H] at h
      cases q : fol H [i] (.ref a) with
      | none => rw [q] at h; cases h
      | some x =>
        rw [q] at h
        have h : fol H p x = some w := h
        have nx : NodeV H x := by
          cases p with
          | nil => cases Option.some.inj h; exact nn
          | cons j p =>
            cases x with
            | ref b =>
              have h : (match H b with | some (.lst xs) => (xs[j]?).bind (fol H p) | some (.ins _ _ fs) => ((fs.map Prod.snd)[j]?).bind (fol H p) | some (.dK kvs) => ((kvs.map Prod.snd)[j]?).bind (fol H p) | _ => none) = some w := h
              split at h
              · rename_i xs hb
                exact ⟨b, rfl, .inl ⟨xs, hb⟩⟩
              · rename_i c dx fs hb
                exact ⟨b, rfl, .inr (.inl ⟨c, dx, fs, hb⟩)⟩
              · rename_i kvs hb
                exact ⟨b, rfl, .inr (.inr ⟨kvs, hb⟩)⟩
              · cases h
            | _ => cases h
        rw [one H', k a i x ⟨x, q, rfl⟩ nx]
        exact ih x w h nn
    | _ => cases h
end
end Wv
end

section
set_option Elab.async false
set_option linter.all false
set_option maxRecDepth 100000
set_option maxHeartbeats 4000000
namespace Wv
open PySem PySem.Spec PyProof.Rows L2 Evl

inductive Val where | dat (d : D) | ref (r : Nat) (p : List Nat)
abbrev Slots := List (Option Val)
/-- an error of the program's own: its class, its fields -/
structure Exn where
  c : Nat
  ds : List D
abbrev Roots := List T
def VR (K : PySem.W.Frag) (C : Cs) (G H : Hp) (ρ : List Addr) : Val → V → Prop
  | .dat d, v => DR K C G v d
  | .ref r p, v => ∃ a, ρ[r]? = some a ∧ fol H p (.ref a) = some v ∧ NodeV H v
inductive VRs (K : PySem.W.Frag) (C : Cs) (G H : Hp) (ρ : List Addr) : List Val → List V → Prop
  | nil : VRs K C G H ρ [] []
  | cons {x : Val} {v : V} {xs : List Val} {vs : List V} (h : VR K C G H ρ x v) (r : VRs K C G H ρ xs vs) : VRs K C G H ρ (x :: xs) (v :: vs)
inductive Rts (K : PySem.W.Frag) (C : Cs) (G H : Hp) : List T → List Addr → List (List Addr) → Prop
  | nil : Rts K C G H [] [] []
  | cons {t : T} {a : Addr} {fp : List Addr} {ts : List T} {as : List Addr} {fps : List (List Addr)} (h : TR K C G H (.ref a) t fp) (r : Rts K C G H ts as fps) : Rts K C G H (t :: ts) (a :: as) (fp :: fps)
structure RSt (K : PySem.W.Frag) (C : Cs) (rt : Roots) (ρ : List Addr) (fps : List (List Addr)) (G H : Hp) : Prop where
  sub : Ex G H
  root : Rts K C G H rt ρ fps
  nd : fps.flatten.Nodup
  fr : ∀ a ∈ fps.flatten, G a = none
structure St (K : PySem.W.Frag) (C : Cs) (sl : Slots) (rt : Roots) (σ : L2.St) (ρ : List Addr) (fps : List (List Addr)) (G H : Hp) : Prop extends RSt K C rt ρ fps G H where
  len : σ.length = sl.length
  slot : ∀ (i : Nat) x, sl[i]? = some (some x) → ∃ v, σ[i]? = some (some v) ∧ VR K C G H ρ x v
structure Nx (fp : List Addr) (G H G' H' : Hp) (fp' : List Addr) : Prop where
  g : Ex G G'
  keep : ∀ l o, H l = some o → l ∉ fp → H' l = some o ∧ (G l = none → G' l = none)
  dom : ∀ l, H' l = none → H l = none
  new : ∀ l ∈ fp', l ∈ fp ∨ H l = none
  idn : Idn H H'
section
variable {K : PySem.W.Frag} {C : Cs} {G H G' H' G1 H1 G2 H2 : Hp} {sl : Slots} {rt rt' : Roots} {σ : L2.St} {ρ ρ' : List Addr} {fps fps' : List (List Addr)} {fp fp1 fp2 : List Addr}
theorem Nx.refl (fp : List Addr) (G H : Hp) : Nx fp G H G H fp := ⟨Ex.refl G, fun _ _ h _ => ⟨h, fun g => g⟩, fun _ h => h, fun _ h => .inl h, Idn.refl H⟩
theorem Nx.trans (a : Nx fp G H G1 H1 fp1) (b : Nx fp1 G1 H1 G2 H2 fp2) : Nx fp G H G2 H2 fp2 where
  g := a.g.trans b.g
  keep := fun l o h n => by
    obtain ⟨h1, g1⟩ := a.keep l o h n
    have n1 : l ∉ fp1 := fun z => by
      rcases a.new l z with q | q
      · exact n q
      · rw [q] at h; cases h
    obtain ⟨h2, g2⟩ := b.keep l o h1 n1
    exact ⟨h2, fun g => g2 (g1 g)⟩
  dom := fun l h => a.dom l (b.dom l h)
  new := fun l h => by
    rcases b.new l h with q | q
    · exact a.new l q
    · exact .inr (a.dom l q)
  idn := a.idn.trans b.idn
theorem Nx.less (a : Nx fp G H G' H' fp1) (h : ∀ l ∈ fp2, l ∈ fp1) : Nx fp G H G' H' fp2 := ⟨a.g, a.keep, a.dom, fun l z => a.new l (h l z), a.idn⟩
theorem VR.up (n : Nx fp G H G' H' fp1) (q : ∀ (i : Nat) (a : Addr), ρ[i]? = some a → ρ'[i]? = some a) : ∀ {x : Val} {v : V}, VR K C G H ρ x v → VR K C G' H' ρ' x v
  | .dat d, _, h => DR.up n.g d _ h
  | .ref r p, v, ⟨a, h1, h2, h3⟩ => by
    obtain ⟨k1, k2⟩ := n.idn p _ v h2 h3
    exact ⟨a, q r a h1, k1, k2⟩
theorem VRs.up (n : Nx fp G H G' H' fp1) (q : ∀ (i : Nat) (a : Addr), ρ[i]? = some a → ρ'[i]? = some a) : ∀ {x : List Val} {v : List V}, VRs K C G H ρ x v → VRs K C G' H' ρ' x v
  | _, _, .nil => .nil
  | _, _, .cons h r => .cons (h.up n q) (VRs.up n q r)
theorem VRs.len : ∀ {x : List Val} {v : List V}, VRs K C G H ρ x v → v.length = x.length
  | _, _, .nil => rfl
  | _, _, .cons h r => by rw [List.length_cons, List.length_cons, VRs.len r]
theorem VRs.get : ∀ {xs : List Val} {vs : List V} {i : Nat} {x : Val}, VRs K C G H ρ xs vs → xs[i]? = some x → ∃ v, vs[i]? = some v ∧ VR K C G H ρ x v
  | _, _, i, _, .nil, e => by simp at e
  | _, _, 0, _, .cons h _, e => by
    cases (Option.some.inj e)
    exact ⟨_, rfl, h⟩
  | _, _, i + 1, _, .cons _ h, e => VRs.get (i := i) h e
theorem St.step (s : St K C sl rt σ ρ fps G H) (r : RSt K C rt' ρ' fps' G' H') (n : Nx fp G H G' H' fp1) (q : ∀ (i : Nat) (a : Addr), ρ[i]? = some a → ρ'[i]? = some a) : St K C sl rt' σ ρ' fps' G' H' :=
  { toRSt := r
    len := s.len
    slot := fun i x e => by
      obtain ⟨v, h1, h2⟩ := s.slot i x e
      exact ⟨v, h1, h2.up n q⟩ }
theorem Rts.lens : ∀ {rt : Roots} {ρ : List Addr} {fps : List (List Addr)}, Rts K C G H rt ρ fps → ρ.length = rt.length ∧ fps.length = rt.length
  | _, _, _, .nil => ⟨rfl, rfl⟩
  | _, _, _, .cons _ r => by
    obtain ⟨h1, h2⟩ := Rts.lens r
    simp [h1, h2]
theorem Rts.stay (e : Ex G G') : ∀ {rt : Roots} {ρ : List Addr} {fps : List (List Addr)}, Rts K C G H rt ρ fps → (∀ a ∈ fps.flatten, H' a = H a) → Rts K C G' H' rt ρ fps
  | _, _, _, .nil, _ => .nil
  | _, _, _, .cons h r, s => .cons (TR.stay e _ _ _ h fun a ha => s a (by simp [ha])) (Rts.stay e r fun a ha => s a (by simp only [List.flatten_cons, List.mem_append]; exact .inr ha))
theorem Rts.split : ∀ {rt : Roots} {ρ : List Addr} {fps : List (List Addr)} {i : Nat} {t : T}, Rts K C G H rt ρ fps → rt[i]? = some t → ∃ a L fu R, ρ[i]? = some a ∧ TR K C G H (.ref a) t fu ∧ fps.flatten = L ++ (fu ++ R) ∧
    ∀ (G' H' : Hp) (t' : T) (fu' : List Addr), Ex G G' → (∀ a ∈ L ++ R, H' a = H a) → TR K C G' H' (.ref a) t' fu' → ∃ fps', Rts K C G' H' (rt.set i t') ρ fps' ∧ fps'.flatten = L ++ (fu' ++ R)
  | _, _, _, _, _, .nil, e => by simp at e
  | _, _, _, 0, _, .cons (fp := fp) (fps := fps) h r, e => by
    cases Option.some.inj e
    exact ⟨_, [], fp, fps.flatten, rfl, h, rfl, fun G' H' t' fu' eg s h' => ⟨fu' :: fps, Rts.cons h' (Rts.stay eg r fun a ha => s a ha), rfl⟩⟩
  | _, _, _, i + 1, _, .cons (fp := fp) (fps := fps) h r, e => by
    obtain ⟨a, L, fu, R, h1, h2, h3, h4⟩ := Rts.split (i := i) r e
    refine ⟨a, fp ++ L, fu, R, h1, h2, by simp [h3], fun G' H' t' fu' eg s h' => ?_⟩
    obtain ⟨fps', k1, k2⟩ := h4 G' H' t' fu' eg (fun a ha => s a (by rcases List.mem_append.mp ha with z | z <;> simp [z])) h'
    exact ⟨fp :: fps', .cons (TR.stay eg _ _ _ h fun a ha => s a (by simp [ha])) k1, by simp [k2]⟩
theorem Rts.app {t : T} {a : Addr} {fq : List Addr} (h2 : TR K C G H (.ref a) t fq) : ∀ {rt : Roots} {ρ : List Addr} {fps : List (List Addr)}, Rts K C G H rt ρ fps → Rts K C G H (rt ++ [t]) (ρ ++ [a]) (fps ++ [fq])
  | _, _, _, .nil => .cons h2 .nil
  | _, _, _, .cons h r => .cons h (Rts.app h2 r)
/-- the tree at a place, with its name -/
def tatN (rt : Roots) (r : Nat) (p : List Nat) : Option T := (rt[r]?).bind (T.at p)
/-- the tree at a place -/
def tat (rt : Roots) (r : Nat) (p : List Nat) : Option T := (tatN rt r p).map T.strip
def Val.of (r : Nat) (p : List Nat) : T → Val
  | .dat d => .dat d
  | .lst _ => .ref r p
  | .obj _ _ => .ref r p
  | .dct _ _ => .ref r p
  | .nm _ t => Val.of r p t
/-- a place that is told: what stands there, the rest around it -/
theorem RSt.atN (s : RSt K C rt ρ fps G H) {r : Nat} {p : List Nat} {t : T} {a : Addr} (h : tatN rt r p = some t) (ha : ρ[r]? = some a) : ∃ w L fu R, fol H p (.ref a) = some w ∧ TR K C G H w t fu ∧ fps.flatten = L ++ (fu ++ R) ∧
    ∀ (G' H' : Hp) (t' : T) (fu' : List Addr), Ex G G' → (∀ a ∈ L ++ R, H' a = H a) → TR K C G' H' w t' fu' → ∃ fps', Rts K C G' H' (rt.modify r (T.put t' p)) ρ fps' ∧ fps'.flatten = L ++ (fu' ++ R) := by
  unfold tatN at h
  cases q : rt[r]? with
  | none => rw [q] at h; cases h
  | some u =>
    rw [q] at h
    obtain ⟨b, L, fu, R, h1, h2, h3, h4⟩ := s.root.split q
    rw [ha] at h1
    cases h1
    obtain ⟨w, L2, fu2, R2, k1, k2, k3, k4⟩ := h2.node h
    refine ⟨w, L ++ L2, fu2, R2 ++ R, k1, k2, by rw [h3, k3]; simp, fun G' H' t' fu' eg st h' => ?_⟩
    have e : rt.modify r (T.put t' p) = rt.set r (T.put t' p u) := by
      refine List.ext_getElem? fun i => ?_
      rw [List.getElem?_modify, List.getElem?_set]
      by_cases z : r = i
      · subst z
        have := (List.getElem?_eq_some_iff.mp q).1
        have e2 : rt[r] = u := by rw [List.getElem?_eq_getElem this] at q; exact Option.some.inj q
        simp [this, e2]
      · simp [z]
    rw [e]
    obtain ⟨fps', y1, y2⟩ := h4 G' H' (T.put t' p u) (L2 ++ (fu' ++ R2)) eg (fun b hb => st b (by rcases List.mem_append.mp hb with y | y <;> simp [y])) (k4 G' H' t' fu' eg (fun b hb => st b (by rcases List.mem_append.mp hb with y | y <;> simp [y])) h')
    exact ⟨fps', y1, by rw [y2]; simp⟩
theorem RSt.at (s : RSt K C rt ρ fps G H) {r : Nat} {p : List Nat} {t : T} {a : Addr} (h : tat rt r p = some t) (ha : ρ[r]? = some a) : ∃ w L fu R, fol H p (.ref a) = some w ∧ TR K C G H w t fu ∧ fps.flatten = L ++ (fu ++ R) ∧
    ∀ (G' H' : Hp) (t' : T) (fu' : List Addr), Ex G G' → (∀ a ∈ L ++ R, H' a = H a) → TR K C G' H' w t' fu' → ∃ fps', Rts K C G' H' (rt.modify r (T.put t' p)) ρ fps' ∧ fps'.flatten = L ++ (fu' ++ R) := by
  unfold tat at h
  obtain ⟨t0, h0, rfl⟩ := Option.map_eq_some_iff.mp h
  obtain ⟨w, L, fu, R, h1, h2, h3, h4⟩ := s.atN h0 ha
  exact ⟨w, L, fu, R, h1, h2.strip, h3, h4⟩
theorem VR.ofN {r : Nat} {p : List Nat} {v : V} {a : Addr} (h1 : ρ[r]? = some a) (h2 : fol H p (.ref a) = some v) : ∀ {t : T} {fu : List Addr}, TR K C G H v t fu → VR K C G H ρ (Val.of r p t) v
  | .dat d, _, h => by
    cases h with
    | dat q => exact q
  | .lst ts, _, h => by
    cases h with
    | lst h _ => exact ⟨a, h1, h2, _, rfl, .inl ⟨_, h⟩⟩
  | .obj c ts, _, h => by
    cases h with
    | obj h _ _ => exact ⟨a, h1, h2, _, rfl, .inr (.inl ⟨_, _, _, h⟩)⟩
  | .dct c ts, _, h => by
    cases h with
    | dct h _ _ => exact ⟨a, h1, h2, _, rfl, .inr (.inr ⟨_, h⟩)⟩
  | .nm _ t, _, h => by
    cases h with
    | nm h => exact VR.ofN h1 h2 (t := t) h
/-- a value that is a place -/
theorem RSt.val (s : RSt K C rt ρ fps G H) {r : Nat} {p : List Nat} {t : T} {v : V} (h : tat rt r p = some t) (hv : VR K C G H ρ (.ref r p) v) : VR K C G H ρ (Val.of r p t) v ∧ ∃ fu, TR K C G H v t fu ∧ ∀ a ∈ fu, a ∈ fps.flatten := by
  obtain ⟨a, h1, h2, h3⟩ := hv
  obtain ⟨w, L, fu, R, k1, k2, k3, _⟩ := s.at h h1
  rw [h2] at k1
  cases k1
  exact ⟨VR.ofN h1 h2 k2, fu, k2, fun b hb => by rw [k3]; simp [hb]⟩

/-! ### readings -/
def Pre (ρ ρ' : List Addr) : Prop := ∀ (i : Nat) (a : Addr), ρ[i]? = some a → ρ'[i]? = some a
theorem Pre.refl (ρ : List Addr) : Pre ρ ρ := fun _ _ h => h
theorem Pre.trans {ρ ρ1 ρ2 : List Addr} (a : Pre ρ ρ1) (b : Pre ρ1 ρ2) : Pre ρ ρ2 := fun i x h => b i x (a i x h)
theorem Pre.app (ρ more : List Addr) : Pre ρ (ρ ++ more) := fun i a h => by
  rw [List.getElem?_append_left (List.getElem?_eq_some_iff.mp h).1]
  exact h
/-- what is wanted of an error, by its class, its dict, the slots and the heap -/
abbrev UX := Value → Option Addr → L2.St → Hp → Prop
/-- an error as it leaves -/
def XR (K : PySem.W.Frag) (C : Cs) (H0 G H : Hp) (x : Exn) (cls : Value) (d : Option Addr) : Prop := cls = .ref (C.at_ x.c) ∧ ∃ dd fs, d = some dd ∧ H0 dd = none ∧ H dd = some (.xd fs) ∧ fs.map Prod.fst = (C.ly x.c).take fs.length ∧ DRs K C G (fs.map Prod.snd) x.ds
/-- what is wanted of an error -/
def Xf (K : PySem.W.Frag) (C : Cs) (U : UX) (ρ : List Addr) (fps : List (List Addr)) (G H : Hp) (ex : Exn → Slots → Roots → Prop) : Prop := ∀ x sl' rt' σ' ρ' fps' G' H' cls d, St K C sl' rt' σ' ρ' fps' G' H' → Nx fps.flatten G H G' H' fps'.flatten → Pre ρ ρ' → XR K C H G' H' x cls d → ex x sl' rt' → U cls d σ' H'
theorem XR.early {H0 : Hp} {x : Exn} {cls : Value} {d : Option Addr} (n : ∀ l, H1 l = none → H0 l = none) (h : XR K C H1 G' H' x cls d) : XR K C H0 G' H' x cls d := by
  obtain ⟨h1, dd, fs, h2, h3, h4⟩ := h
  exact ⟨h1, dd, fs, h2, n _ h3, h4⟩
theorem Xf.later {U : UX} {ex : Exn → Slots → Roots → Prop} {ρ1 : List Addr} {fps1 : List (List Addr)} (f : Xf K C U ρ fps G H ex) (n : Nx fps.flatten G H G1 H1 fps1.flatten) (p : Pre ρ ρ1) : Xf K C U ρ1 fps1 G1 H1 ex :=
  fun x sl' rt' σ' ρ' fps' G' H' cls d s n' p' xr => f x sl' rt' σ' ρ' fps' G' H' cls d s (n.trans n') (p.trans p') (xr.early n.dom)
theorem Xf.no {U : UX} : Xf K C U ρ fps G H fun _ _ _ => False := fun _ _ _ _ _ _ _ _ _ _ _ _ _ _ h => h.elim
/-- the slots, and what is wanted of an error -/
structure Cxt where
  sl : Slots
  ex : Exn → Slots → Roots → Prop
abbrev WE := Cxt → Roots → (Val → Roots → Prop) → Prop
abbrev WT := Cxt → Roots → (Bool → Roots → Prop) → Prop
abbrev WA := Cxt → Roots → (List Val → Roots → Prop) → Prop
abbrev WO := Cxt → Roots → (T → Roots → Prop) → Prop
variable (K C)
variable (U : UX)
def tE (w : WE) : TE := fun σ H Q => ∃ sl rt ρ fps G k, St K C sl.sl rt σ ρ fps G H ∧ Xf K C U ρ fps G H sl.ex ∧ w sl rt k ∧ ∀ x rt' fps' G' H' v, RSt K C rt' ρ fps' G' H' → Nx fps.flatten G H G' H' fps'.flatten → VR K C G' H' ρ x v → k x rt' → Q v H'
def tT (w : WT) : TT := fun σ H Q => ∃ sl rt ρ fps G k, St K C sl.sl rt σ ρ fps G H ∧ Xf K C U ρ fps G H sl.ex ∧ w sl rt k ∧ ∀ b rt' fps' G' H', RSt K C rt' ρ fps' G' H' → Nx fps.flatten G H G' H' fps'.flatten → k b rt' → Q b H'
def tA (w : WA) : TA := fun σ H Q => ∃ sl rt ρ fps G k, St K C sl.sl rt σ ρ fps G H ∧ Xf K C U ρ fps G H sl.ex ∧ w sl rt k ∧ ∀ xs rt' fps' G' H' vs, RSt K C rt' ρ fps' G' H' → Nx fps.flatten G H G' H' fps'.flatten → VRs K C G' H' ρ xs vs → k xs rt' → Q vs H'
/-- a new tree, owned by nobody yet -/
structure Own (fps : List (List Addr)) (G H : Hp) (t : T) (v : V) (fp : List Addr) : Prop where
  tr : TR K C G H v t fp
  nd : fp.Nodup
  ap : ∀ a ∈ fp, a ∉ fps.flatten
  fr : ∀ a ∈ fp, G a = none
def tO (w : WO) : TE := fun σ H Q => ∃ sl rt ρ fps G k, St K C sl.sl rt σ ρ fps G H ∧ Xf K C U ρ fps G H sl.ex ∧ w sl rt k ∧ ∀ t rt' fps' fp G' H' v, RSt K C rt' ρ fps' G' H' → Nx fps.flatten G H G' H' fps'.flatten → Own K C fps' G' H' t v fp → (∀ a ∈ fp, a ∈ fps.flatten ∨ H a = none) → k t rt' → Q v H'
variable {K C}
variable {U}

theorem pe_imp {X : Cx} {e : Expr} {t t' : TE} (h : PE X e t) (i : ∀ σ H Q, t' σ H Q → t σ H Q) : PE X e t' := ⟨fun pins s σ H Q I q => h.run pins s σ H Q I (i σ H Q q)⟩
theorem pt_imp {X : Cx} {e : Expr} {t t' : TT} (h : PT X e t) (i : ∀ σ H Q, t' σ H Q → t σ H Q) : PT X e t' := ⟨fun pins s σ H Q I q => h.run pins s σ H Q I (i σ H Q q)⟩
theorem pw_imp {X : Cx} {e : Expr} {t t' : TT} (h : PW X e t) (i : ∀ σ H Q, t' σ H Q → t σ H Q) : PW X e t' := ⟨fun wh pins s σ H Q I q => h.run wh pins s σ H Q I (i σ H Q q)⟩
theorem pa_imp {X : Cx} {e : List Expr} {t t' : TA} (h : PA X e t) (i : ∀ σ H Q, t' σ H Q → t σ H Q) : PA X e t' := ⟨fun pos pins s σ H Q I q => h.run pos pins s σ H Q I (i σ H Q q)⟩

/-! names and constants -/
def wVar (i : Nat) : WE := fun sl rt k => match sl.sl[i]? with
  | some (some (.dat d)) => k (.dat d) rt
  | some (some (.ref r p)) => match tat rt r p with
    | some t => k (Val.of r p t) rt
    | none => False
  | _ => False
theorem e_var {i : Nat} : ∀ σ H Q, tE K C U (wVar i) σ H Q → tVar i σ H Q := fun σ H Q ⟨sl, rt, ρ, fps, G, k, s, xf, w, q⟩ => by
  unfold wVar at w
  split at w
  · rename_i d e
    obtain ⟨v, h1, h2⟩ := s.slot i _ e
    exact ⟨v, h1, q _ rt fps G H v s.toRSt (Nx.refl _ G H) h2 w⟩
  · rename_i r p e
    obtain ⟨v, h1, h2⟩ := s.slot i _ e
    split at w
    · rename_i t ht
      exact ⟨v, h1, q _ rt fps G H v s.toRSt (Nx.refl _ G H) (s.toRSt.val ht h2).1 w⟩
    · exact w.elim
  · exact w.elim
def wC (d : D) : WE := fun _ rt k => k (.dat d) rt
theorem e_c {v : V} {d : D} (h : ∀ G, DR K C G v d) : ∀ σ H Q, tE K C U (wC d) σ H Q → tC v σ H Q := fun σ H Q ⟨sl, rt, ρ, fps, G, k, s, xf, w, q⟩ => q (.dat d) rt fps G H v s.toRSt (Nx.refl _ G H) (h G) w
theorem we_int {X : Cx} {i : Int} {j pos} : PE X (.Constant (.int i) j pos) (tE K C U (wC (.int i))) := pe_imp pe_int (e_c fun _ => .int i)
theorem we_bl {X : Cx} {i : Bool} {j pos} : PE X (.Constant (.bool i) j pos) (tE K C U (wC (.bool i))) := pe_imp pe_bl (e_c fun _ => .bool i)
theorem we_str {X : Cx} {i : Str} {j pos} : PE X (.Constant (.str i) j pos) (tE K C U (wC (.str i))) := pe_imp pe_str (e_c fun _ => .str i)
theorem we_non {X : Cx} {j pos} : PE X (.Constant .none j pos) (tE K C U (wC .non)) := pe_imp pe_non (e_c fun _ => .non)
theorem we_var {X : Cx} {e : Expr} {i : Nat} (h : PE X e (tVar i)) : PE X e (tE K C U (wVar i)) := pe_imp h e_var
theorem we_c {X : Cx} {e : Expr} {v : V} {d : D} (h : PE X e (tC v)) (hd : ∀ G, DR K C G v d) : PE X e (tE K C U (wC d)) := pe_imp h (e_c hd)

/-! operations on values that make nothing -/
abbrev Sem2 := Val → Val → Roots → (D → Prop) → Prop
def wBin (f : Sem2) (wa wb : WE) : WE := fun sl rt k => wa sl rt fun x rt1 => wb sl rt1 fun y rt2 => f x y rt2 fun d => k (.dat d) rt2
def S2 (K : PySem.W.Frag) (C : Cs) (f : Sem2) (r : R2) : Prop := ∀ rt ρ fps G H x y v u, RSt K C rt ρ fps G H → VR K C G H ρ x v → VR K C G H ρ y u → ∀ (k : D → Prop) (Q : VK), f x y rt k → (∀ d w, k d → DR K C G w d → Q w H) → r v u H Q
theorem e_bin {f : Sem2} {r : R2} {wa wb : WE} (h : S2 K C f r) : ∀ σ H Q, tE K C U (wBin f wa wb) σ H Q → tOp r (tE K C U wa) (tE K C U wb) σ H Q := fun σ H Q ⟨sl, rt, ρ, fps, G, k, s, xf, w, q⟩ =>
  ⟨sl, rt, ρ, fps, G, _, s, xf, w, fun x rt1 fps1 G1 H1 v r1 n1 v1 w1 => ⟨sl, rt1, ρ, fps1, G1, _, s.step r1 n1 fun _ _ e => e, xf.later n1 (Pre.refl _), w1, fun y rt2 fps2 G2 H2 u r2 n2 v2 w2 =>
    h rt2 ρ fps2 G2 H2 x y v u r2 (v1.up n2 fun _ _ e => e) v2 _ Q w2 fun d w' kd dr => q (.dat d) rt2 fps2 G2 H2 w' r2 (n1.trans n2) dr kd⟩⟩
theorem OpR.or' {X : Cx} {f : Value → Value → Sem Value} {r r' : R2} (h : OpR X f r) (h' : OpR X f r') : OpR X f (fun x y H Q => r x y H Q ∨ r' x y H Q) := fun pins s σ H x y v u Q I rx ry q => q.elim (h pins s σ H x y v u Q I rx ry) (h' pins s σ H x y v u Q I rx ry)
theorem S2.l {f : Sem2} {r r' : R2} (h : S2 K C f r) : S2 K C f (fun x y H Q => r x y H Q ∨ r' x y H Q) := fun rt ρ fps G H x y v u s a b k Q w q => .inl (h rt ρ fps G H x y v u s a b k Q w q)
def sInt (c : Int → Int → Prop) (g : Int → Int → D) : Sem2 := fun x y _ k => match x, y with
  | .dat (.int i), .dat (.int j) => c i j ∧ k (g i j)
  | _, _ => False
def sInt0 (g : Int → Int → D) : Sem2 := fun x y _ k => match x, y with
  | .dat (.int i), .dat (.int j) => k (g i j)
  | _, _ => False
theorem s_int {c : Int → Int → Prop} {g : Int → Int → V} {gd : Int → Int → D} (h : ∀ G i j, DR K C G (g i j) (gd i j)) : S2 K C (sInt c gd) (rI c g) := fun rt ρ fps G H x y v u s a b k Q w q => by
  unfold sInt at w
  split at w
  · cases a
    cases b
    exact ⟨_, _, rfl, rfl, w.1, q _ _ w.2 (h G _ _)⟩
  · exact w.elim
theorem s_int0 {g : Int → Int → V} {gd : Int → Int → D} (h : ∀ G i j, DR K C G (g i j) (gd i j)) : S2 K C (sInt0 gd) (rI0 g) := fun rt ρ fps G H x y v u s a b k Q w q => by
  unfold sInt0 at w
  split at w
  · cases a
    cases b
    exact ⟨_, _, rfl, rfl, q _ _ w (h G _ _)⟩
  · exact w.elim
def sAdd : Sem2 := fun x y _ k => match x, y with
  | .dat (.int i), .dat (.int j) => k (.int (i + j))
  | .dat (.str i), .dat (.str j) => i.length + j.length ≤ sizeLine ∧ k (.str (i ++ j))
  | _, _ => False
def rAdd2 : R2 := fun x y H Q => rI0 (fun i j => .int (i + j)) x y H Q ∨ ∃ i j, x = .str i ∧ y = .str j ∧ i.length + j.length ≤ sizeLine ∧ Q (.str (i ++ j)) H
theorem s_add : S2 K C sAdd rAdd2 := fun rt ρ fps G H x y v u s a b k Q w q => by
  unfold sAdd at w
  split at w
  · cases a
    cases b
    exact .inl ⟨_, _, rfl, rfl, q _ _ w (.int _)⟩
  · cases a
    cases b
    exact .inr ⟨_, _, rfl, rfl, w.1, q _ _ w.2 (.str _)⟩
  · exact w.elim
section
variable {X : Cx} {a b : Expr} {wa wb : WE} {pos : Pos}
abbrev wAdd := wBin sAdd
abbrev wSub := wBin (sInt0 fun i j => .int (i - j))
abbrev wMul := wBin (sInt CMul fun i j => .int (i * j))
abbrev wDiv := wBin (sInt CDiv fun i j => .int (i / j))
abbrev wMod := wBin (sInt (fun _ j => 0 < j) fun i j => .int (i % j))
abbrev wPow := wBin (sInt CPow fun i j => .int (i ^ j.toNat))
abbrev wShl := wBin (sInt CPow fun i j => .int (i * 2 ^ j.toNat))
abbrev wShr := wBin (sInt (fun _ j => 0 ≤ j) fun i j => .int (i / 2 ^ j.toNat))
abbrev wAnd := wBin (sInt0 fun i j => .int (Builtin.bitAnd i j))
abbrev wOr := wBin (sInt0 fun i j => .int (Builtin.bitOr i j))
abbrev wXor := wBin (sInt0 fun i j => .int (Builtin.bitXor i j))
theorem we_add (ha : PE X a (tE K C U wa)) (hb : PE X b (tE K C U wb)) : PE X (.BinOp a .Add b pos) (tE K C U (wAdd wa wb)) := pe_imp (pe_op (OpR.or' op_add op_add_str) ha hb) (e_bin s_add)
theorem we_sub (ha : PE X a (tE K C U wa)) (hb : PE X b (tE K C U wb)) : PE X (.BinOp a .Sub b pos) (tE K C U (wSub wa wb)) := pe_imp (pe_op op_sub ha hb) (e_bin (s_int0 fun _ _ _ => .int _))
theorem we_mul (ha : PE X a (tE K C U wa)) (hb : PE X b (tE K C U wb)) : PE X (.BinOp a .Mult b pos) (tE K C U (wMul wa wb)) := pe_imp (pe_op op_mul ha hb) (e_bin (s_int fun _ _ _ => .int _))
theorem we_fdiv (ha : PE X a (tE K C U wa)) (hb : PE X b (tE K C U wb)) : PE X (.BinOp a .FloorDiv b pos) (tE K C U (wDiv wa wb)) := pe_imp (pe_op op_fdiv ha hb) (e_bin (s_int fun _ _ _ => .int _))
theorem we_mod (ha : PE X a (tE K C U wa)) (hb : PE X b (tE K C U wb)) : PE X (.BinOp a .Mod b pos) (tE K C U (wMod wa wb)) := pe_imp (pe_op op_mod ha hb) (e_bin (s_int fun _ _ _ => .int _))
theorem we_pow (ha : PE X a (tE K C U wa)) (hb : PE X b (tE K C U wb)) : PE X (.BinOp a .Pow b pos) (tE K C U (wPow wa wb)) := pe_imp (pe_op op_pow ha hb) (e_bin (s_int fun _ _ _ => .int _))
theorem we_shl (ha : PE X a (tE K C U wa)) (hb : PE X b (tE K C U wb)) : PE X (.BinOp a .LShift b pos) (tE K C U (wShl wa wb)) := pe_imp (pe_op op_shl ha hb) (e_bin (s_int fun _ _ _ => .int _))
theorem we_shr (ha : PE X a (tE K C U wa)) (hb : PE X b (tE K C U wb)) : PE X (.BinOp a .RShift b pos) (tE K C U (wShr wa wb)) := pe_imp (pe_op op_shr ha hb) (e_bin (s_int fun _ _ _ => .int _))
theorem we_and (ha : PE X a (tE K C U wa)) (hb : PE X b (tE K C U wb)) : PE X (.BinOp a .BitAnd b pos) (tE K C U (wAnd wa wb)) := pe_imp (pe_op op_and ha hb) (e_bin (s_int0 fun _ _ _ => .int _))
theorem we_or (ha : PE X a (tE K C U wa)) (hb : PE X b (tE K C U wb)) : PE X (.BinOp a .BitOr b pos) (tE K C U (wOr wa wb)) := pe_imp (pe_op op_or ha hb) (e_bin (s_int0 fun _ _ _ => .int _))
theorem we_xor (ha : PE X a (tE K C U wa)) (hb : PE X b (tE K C U wb)) : PE X (.BinOp a .BitXor b pos) (tE K C U (wXor wa wb)) := pe_imp (pe_op op_xor ha hb) (e_bin (s_int0 fun _ _ _ => .int _))
end
end
end Wv
end

section
set_option Elab.async false
set_option linter.all false
set_option maxRecDepth 100000
set_option maxHeartbeats 4000000
namespace Wv
open PySem PySem.Spec PyProof.Rows L2 Evl
section
variable {K : PySem.W.Frag} {C : Cs} {U : UX} {G H G' H' G1 H1 G2 H2 : Hp} {sl : Slots} {rt rt' : Roots} {σ : L2.St} {ρ ρ' : List Addr} {fps fps' : List (List Addr)}
theorem fol_snoc (p : List Nat) (j : Nat) : ∀ v, fol H (p ++ [j]) v = (fol H p v).bind (fol H [j]) := by
  induction p with
  | nil => exact fun v => rfl
  | cons i p ih =>
    intro v
    cases v with
    | ref a =>
      show (match H a with | some (.lst xs) => (xs[i]?).bind (fol H (p ++ [j])) | some (.ins _ _ fs) => ((fs.map Prod.snd)[i]?).bind (fol H (p ++ [j])) | some (.dK kvs) => ((kvs.map Prod.snd)[i]?).bind (fol H (p ++ [j])) | _ => none) = (match H a with | some (.lst xs) => (xs[i]?).bind (fol H p) | some (.ins _ _ fs) => ((fs.map Prod.snd)[i]?).bind (fol H p) | some (.dK kvs) => ((kvs.map Prod.snd)[i]?).bind (fol H p) | _ => none).bind (fol H [j])
      split
      · rename_i xs _
        cases xs[i]? with
        | none => rfl
        | some w => exact ih w
      · rename_i fs _
        cases (fs.map Prod.snd)[i]? with
        | none => rfl
        | some w => exact ih w
      · rename_i fs _
        cases (fs.map Prod.snd)[i]? with
        | none => rfl
        | some w => exact ih w
      · rfl
    | _ => rfl
theorem TRs.get {ts : List T} {vs : List V} {fp : List Addr} {i : Nat} {t : T} (h : TRs K C G H vs ts fp) (e : ts[i]? = some t) : ∃ v fu, vs[i]? = some v ∧ TR K C G H v t fu ∧ ∀ a ∈ fu, a ∈ fp := by
  obtain ⟨v, L, fu, R, h1, h2, h3, _⟩ := h.split e
  exact ⟨v, fu, h1, h2, fun a ha => by rw [h3]; simp [ha]⟩
theorem TR.nodeB {v : V} : ∀ {t : T} {fu : List Addr}, TR K C G H v t fu → t.isD = false → NodeV H v
  | .dat d, _, _, n => by cases n
  | .lst ts, _, h, _ => by
    cases h with
    | lst h _ => exact ⟨_, rfl, .inl ⟨_, h⟩⟩
  | .obj c ts, _, h, _ => by
    cases h with
    | obj h _ _ => exact ⟨_, rfl, .inr (.inl ⟨_, _, _, h⟩)⟩
  | .dct c ts, _, h, _ => by
    cases h with
    | dct h _ _ => exact ⟨_, rfl, .inr (.inr ⟨_, h⟩)⟩
  | .nm _ t, _, h, n => by
    cases h with
    | nm h => exact TR.nodeB (t := t) h n
theorem T.isD_of : ∀ {t : T}, (∀ d, t.strip ≠ .dat d) → t.isD = false
  | .dat d, n => absurd rfl (n d)
  | .lst _, _ => rfl
  | .obj _ _, _ => rfl
  | .dct _ _, _ => rfl
  | .nm _ t, n => T.isD_of (t := t) n
theorem TR.nodeV {v : V} {t : T} {fu : List Addr} (h : TR K C G H v t fu) (n : ∀ d, t.strip ≠ .dat d) : NodeV H v := h.nodeB (T.isD_of n)
theorem VR.of {r : Nat} {p : List Nat} {t : T} {v : V} {a : Addr} {fu : List Addr} (h1 : ρ[r]? = some a) (h2 : fol H p (.ref a) = some v) (h : TR K C G H v t fu) : VR K C G H ρ (Val.of r p t) v := VR.ofN h1 h2 h
/-- what a place is really -/
theorem RSt.get (s : RSt K C rt ρ fps G H) {r : Nat} {p : List Nat} {t : T} {v : V} (h : tat rt r p = some t) (hv : VR K C G H ρ (.ref r p) v) : ∃ a fu, ρ[r]? = some a ∧ fol H p (.ref a) = some v ∧ TR K C G H v t fu ∧ ∀ b ∈ fu, b ∈ fps.flatten := by
  obtain ⟨a, h1, h2, h3⟩ := hv
  obtain ⟨w, L, fu, R, k1, k2, k3, _⟩ := s.at h h1
  rw [h2] at k1
  cases k1
  exact ⟨a, fu, h1, h2, k2, fun b hb => by rw [k3]; simp [hb]⟩
theorem ints_dat {ns : List Int} {vs : List V} (h : DRs K C G vs (ns.map .int)) : vs = ns.map V.int := DRs.ints h
theorem TRs.dats : ∀ {ds : List D} {vs : List V} {fp : List Addr}, TRs K C G H vs (ds.map .dat) fp → DRs K C G vs ds ∧ fp = []
  | [], _, _, .nil => ⟨.nil, rfl⟩
  | d :: ds, _, _, .cons h r => by
    obtain ⟨h1, h2⟩ := TRs.dats (ds := ds) r
    cases h with
    | dat h => exact ⟨.cons h h1, by rw [h2]; rfl⟩
theorem DRs.trs : ∀ {ds : List D} {vs : List V}, DRs K C G vs ds → TRs K C G H vs (ds.map .dat) []
  | [], _, .nil => .nil
  | d :: ds, _, .cons h r => TRs.cons (fp := []) (fq := []) (.dat h) (DRs.trs r)
def dats : List T → Option (List D)
  | [] => some []
  | .dat d :: ts => (dats ts).map (d :: ·)
  | _ :: _ => none
theorem dats_map : ∀ {ts : List T} {ds : List D}, dats ts = some ds → ts = ds.map .dat
  | [], _, h => by cases h; rfl
  | .dat d :: ts, ds, h => by
    cases q : dats ts with
    | none => simp [dats, q] at h
    | some es =>
      simp [dats, q] at h
      subst h
      rw [dats_map q]
      rfl
  | .lst _ :: _, _, h => by cases h
  | .obj _ _ :: _, _, h => by cases h
  | .dct _ _ :: _, _, h => by cases h
theorem map_dats : ∀ ds : List D, dats (ds.map .dat) = some ds
  | [] => rfl
  | d :: ds => by
    show (dats (ds.map .dat)).map (d :: ·) = _
    rw [map_dats ds]
    rfl

/-! ### one place -/
def wUn (f : D → (D → Prop) → Prop) (wa : WE) : WE := fun sl rt k => wa sl rt fun x rt1 => match x with
  | .dat d => f d fun e => k (.dat e) rt1
  | _ => False
def S1 (K : PySem.W.Frag) (C : Cs) (f : D → (D → Prop) → Prop) (r : V → Hp → VK → Prop) : Prop := ∀ G H d v, Ex G H → DR K C G v d → ∀ (k : D → Prop) (Q : VK), f d k → (∀ e w, k e → DR K C G w e → Q w H) → r v H Q
theorem e_un {f : D → (D → Prop) → Prop} {r : V → Hp → VK → Prop} {wa : WE} (h : S1 K C f r) : ∀ σ H Q, tE K C U (wUn f wa) σ H Q → tUn r (tE K C U wa) σ H Q := fun σ H Q ⟨sl, rt, ρ, fps, G, k, s, xf, w, q⟩ =>
  ⟨sl, rt, ρ, fps, G, _, s, xf, w, fun x rt1 fps1 G1 H1 v r1 n1 v1 w1 => by
    cases x with
    | dat d => exact h G1 H1 d v r1.sub v1 _ Q w1 fun e w2 ke dr => q (.dat e) rt1 fps1 G1 H1 w2 r1 n1 dr ke
    | ref r p => exact w1.elim⟩
def fNeg : D → (D → Prop) → Prop := fun d k => match d with
  | .int i => k (.int (-i))
  | _ => False
def fNot : D → (D → Prop) → Prop := fun d k => match d with
  | .bool b => k (.bool (!b))
  | _ => False
abbrev wNeg := wUn fNeg
abbrev wNot := wUn fNot
section
variable {X : Cx} {a b c e : Expr} {es rest : List Expr} {wa wb wc : WE} {pos p : Pos}
theorem we_neg (ha : PE X a (tE K C U wa)) : PE X (.UnaryOp .USub a pos) (tE K C U (wNeg wa)) := pe_imp (pe_un un_neg ha) (e_un fun G H d v _ dr k Q w q => by
  unfold fNeg at w
  split at w
  · cases dr
    exact ⟨_, rfl, q _ _ w (.int _)⟩
  · exact w.elim)
theorem we_not (ha : PE X a (tE K C U wa)) : PE X (.UnaryOp .Not a pos) (tE K C U (wNot wa)) := pe_imp (pe_not ha) (e_un fun G H d v _ dr k Q w q => by
  unfold fNot at w
  split at w
  · cases dr
    exact ⟨_, rfl, q _ _ w (.bool _)⟩
  · exact w.elim)

/-! ### comparisons -/
def D.sc : D → D → Option Bool
  | .int i, .int j => some (decide (i = j))
  | .str i, .str j => some (decide (i = j))
  | .bool i, .bool j => some (decide (i = j))
  | .non, .non => some true
  | .non, .int _ => some false
  | .int _, .non => some false
  | .non, .bool _ => some false
  | .bool _, .non => some false
  | .non, .str _ => some false
  | .str _, .non => some false
  | .int _, .str _ => some false
  | .str _, .int _ => some false
  | .bool _, .str _ => some false
  | .str _, .bool _ => some false
  | _, _ => none
theorem sc_ok {x y : D} {v u : V} {b : Bool} (h : D.sc x y = some b) (hx : DR K C G v x) (hy : DR K C G u y) : scal v u = true ∧ decide (v = u) = b := by
  unfold D.sc at h
  split at h
  · cases hx; cases hy; cases h
    exact ⟨rfl, decide_eq_decide.mpr ⟨fun z => V.int.inj z, fun z => by rw [z]⟩⟩
  · cases hx; cases hy; cases h
    exact ⟨rfl, decide_eq_decide.mpr ⟨fun z => V.str.inj z, fun z => by rw [z]⟩⟩
  · cases hx; cases hy; cases h
    exact ⟨rfl, decide_eq_decide.mpr ⟨fun z => V.bl.inj z, fun z => by rw [z]⟩⟩
  all_goals first
    | (cases hx; cases hy; cases h; exact ⟨rfl, rfl⟩)
    | cases h
mutual
def D.py : D → Option PyData
  | .non => some .none
  | .bool b => some (.bool b)
  | .int i => some (.int i)
  | .str s => some (.str s)
  | .lst ds => (D.pys ds).map .list
  | .ro ds => (D.pys ds).map .list
  | .fzl _ => none
  | .tup ds => (D.pys ds).map .tuple
  | .tpx ds => (D.pys ds).map .tuple
  | .obj _ _ => none
  | .dct _ _ => none
  | .fn _ => none
  | .exn _ _ _ _ => none
  | .cst _ => none
  | .any => none
def D.pys : List D → Option (List PyData)
  | [] => some []
  | d :: ds => match d.py, D.pys ds with
    | some x, some xs => some (x :: xs)
    | _, _ => none
end
mutual
theorem DR.py (e : Ex G H) : ∀ (d : D) (v : V) (x : PyData), DR K C G v d → d.py = some x → Dp K H v x
  | .non, _, _, h, q => by cases h; cases q; exact .non
  | .bool b, _, _, h, q => by cases h; cases q; exact .bl b
  | .int b, _, _, h, q => by cases h; cases q; exact .int b
  | .str b, _, _, h, q => by cases h; cases q; exact .str b
  | .lst ds, _, x, h, q => by
    cases h with
    | lst hs r =>
      cases z : D.pys ds with
      | none => simp [D.py, z] at q
      | some xs =>
        simp [D.py, z] at q
        subst q
        exact .lst (sq_of (e _ _ hs)) (DRs.py e ds _ _ r z)
  | .fzl ds, _, x, h, q => by cases q
  | .ro ds, _, x, h, q => by
    cases h with
    | ro hs r =>
      cases z : D.pys ds with
      | none => simp [D.py, z] at q
      | some xs =>
        simp [D.py, z] at q
        subst q
        exact .lst (ex_l e hs) (DRs.py e ds _ _ r z)
  | .tup ds, _, x, h, q => by
    cases h with
    | tup hs r =>
      cases z : D.pys ds with
      | none => simp [D.py, z] at q
      | some xs =>
        simp [D.py, z] at q
        subst q
        exact .tup (ex_t e hs) (DRs.py e ds _ _ r z)
  | .tpx ds, _, x, h, q => by
    cases h with
    | tpx hs _ r =>
      cases z : D.pys ds with
      | none => simp [D.py, z] at q
      | some xs =>
        simp [D.py, z] at q
        subst q
        exact .tup (.inl (.inr ⟨_, e _ _ hs⟩)) (DRs.py e ds _ _ r z)
  | .obj _ _, _, _, _, q => by cases q
  | .dct _ _, _, _, _, q => by cases q
  | .fn _, _, _, _, q => by cases q
  | .exn _ _ _ _, _, _, _, q => by cases q
  | .cst _, _, _, _, q => by cases q
  | .any, _, _, _, q => by cases q
theorem DRs.py (e : Ex G H) : ∀ (ds : List D) (vs : List V) (xs : List PyData), DRs K C G vs ds → D.pys ds = some xs → DpAll K H vs xs
  | [], _, _, h, q => by cases h; cases q; exact .nil
  | d :: ds, _, xs, h, q => by
    cases h with
    | cons h r =>
      cases z1 : d.py with
      | none => simp [D.pys, z1] at q
      | some x =>
        cases z2 : D.pys ds with
        | none => simp [D.pys, z1, z2] at q
        | some ys =>
          simp [D.pys, z1, z2] at q
          subst q
          exact .cons (DR.py e d _ _ h z1) (DRs.py e ds _ _ r z2)
end
/-- ==, of scalars, of data -/
def sEq (neg : Bool) : Sem2 := fun x y _ k => match x, y with
  | .dat dx, .dat dy => match D.sc dx dy with
    | some b => k (.bool (if neg then !b else b))
    | none => ∃ px py, dx.py = some px ∧ dy.py = some py ∧ SeqAt.shaped px = true ∧ SeqAt.shaped py = true ∧ k (.bool (if neg then !PyData.eqv px py else PyData.eqv px py))
  | _, _ => False
theorem s_eq : S2 K C (sEq false) (fun x y H Q => rEq x y H Q ∨ rEqD K x y H Q) := fun rt ρ fps G H x y v u s a b k Q w q => by
  unfold sEq at w
  split at w
  · rename_i dx dy
    split at w
    · rename_i b' e
      obtain ⟨h1, h2⟩ := sc_ok e a b
      exact .inl ⟨h1, by rw [h2]; exact q _ _ w (.bool _)⟩
    · obtain ⟨px, py, h1, h2, h3, h4, w⟩ := w
      exact .inr ⟨px, py, DR.py s.sub _ _ _ a h1, DR.py s.sub _ _ _ b h2, h3, h4, q _ _ w (.bool _)⟩
  · exact w.elim
theorem s_ne : S2 K C (sEq true) (fun x y H Q => rNe x y H Q ∨ rNeD K x y H Q) := fun rt ρ fps G H x y v u s a b k Q w q => by
  unfold sEq at w
  split at w
  · rename_i dx dy
    split at w
    · rename_i b' e
      obtain ⟨h1, h2⟩ := sc_ok e a b
      exact .inl ⟨h1, by rw [h2]; exact q _ _ w (.bool _)⟩
    · obtain ⟨px, py, h1, h2, h3, h4, w⟩ := w
      exact .inr ⟨px, py, DR.py s.sub _ _ _ a h1, DR.py s.sub _ _ _ b h2, h3, h4, q _ _ w (.bool _)⟩
  · exact w.elim
abbrev sLt : Sem2 := sInt0 fun i j => .bool (decide (i < j))
abbrev sLe : Sem2 := sInt0 fun i j => .bool (decide (i ≤ j))
abbrev sGt : Sem2 := sInt0 fun i j => .bool (decide (j < i))
abbrev sGe : Sem2 := sInt0 fun i j => .bool (decide (j ≤ i))
def D.isNon : D → Bool
  | .non => true
  | _ => false
def sIs (neg : Bool) : Sem2 := fun x y _ k => match x, y with
  | .dat (.cst _), _ => False
  | .dat .any, _ => False
  | .dat d, .dat .non => k (.bool (if neg then !d.isNon else d.isNon))
  | .ref _ _, .dat .non => k (.bool neg)
  | _, _ => False
theorem dec_non {v : V} {d : D} (h : DR K C G v d) (n : ∀ c, d ≠ .cst c) (n2 : d ≠ .any) : decide (v = .non) = d.isNon := by
  cases h <;> first | rfl | exact absurd rfl (n _) | exact absurd rfl n2
theorem s_is : S2 K C (sIs false) (fun x y H Q => y = .non ∧ Q (.bl (decide (x = .non))) H) := fun rt ρ fps G H x y v u s a b k Q w q => by
  unfold sIs at w
  split at w
  · exact w.elim
  · exact w.elim
  · cases b
    exact ⟨rfl, by rw [dec_non a (by intro c z; subst z; simp_all) (by intro z; subst z; simp_all)]; exact q _ _ w (.bool _)⟩
  · cases b
    obtain ⟨_, _, _, _, rfl, _⟩ := a
    exact ⟨rfl, q _ _ w (.bool _)⟩
  · exact w.elim
theorem s_isnt : S2 K C (sIs true) (fun x y H Q => y = .non ∧ Q (.bl (!decide (x = .non))) H) := fun rt ρ fps G H x y v u s a b k Q w q => by
  unfold sIs at w
  split at w
  · exact w.elim
  · exact w.elim
  · cases b
    exact ⟨rfl, by rw [dec_non a (by intro c z; subst z; simp_all) (by intro z; subst z; simp_all)]; exact q _ _ w (.bool _)⟩
  · cases b
    obtain ⟨_, _, _, _, rfl, _⟩ := a
    exact ⟨rfl, q _ _ w (.bool _)⟩
  · exact w.elim
end
end
end Wv
end

section
set_option Elab.async false
set_option linter.all false
set_option maxRecDepth 100000
set_option maxHeartbeats 4000000
namespace Wv
open PySem PySem.Spec PyProof.Rows L2 Evl
section
variable {K : PySem.W.Frag} {C : Cs} {U : UX} {G H G' H' G1 H1 G2 H2 : Hp} {sl : Slots} {rt rt' : Roots} {σ : L2.St} {ρ ρ' : List Addr} {fps fps' : List (List Addr)}
variable {X : Cx} {a b c e : Expr} {es rest : List Expr} {wa wb wc : WE} {ta tb : WT} {pos p : Pos}

/-! ### compare as a value, as a test -/
theorem we_cmp {op : CmpOp} {r : R2} {f : Sem2} (ho : OpR X (compareOp op) r) (hs : S2 K C f r) (ha : PE X a (tE K C U wa)) (hb : PE X b (tE K C U wb)) (hm : behindInMarks op b = false) : PE X (.Compare a [op] [b] pos) (tE K C U (wBin f wa wb)) := pe_imp (pe_cmpR ho ha hb hm) (e_bin hs)
def wB (wa : WE) : WT := fun sl rt k => wa sl rt fun x rt1 => match x with
  | .dat (.bool b) => k b rt1
  | _ => False
theorem t_test {w : WE} : ∀ σ H Q, tT K C U (wB w) σ H Q → tE K C U w σ H fun x H' => ∃ k, x = .bl k ∧ Q k H' := fun σ H Q ⟨sl, rt, ρ, fps, G, k, s, xf, w, q⟩ =>
  ⟨sl, rt, ρ, fps, G, _, s, xf, w, fun x rt1 fps1 G1 H1 v r1 n1 v1 w1 => by
    split at w1
    · cases v1
      exact ⟨_, rfl, q _ rt1 fps1 G1 H1 r1 n1 w1⟩
    · exact w1.elim⟩
theorem wt_cmp {op : CmpOp} {r : R2} {f : Sem2} (ho : OpR X (compareOp op) r) (hs : S2 K C f r) (ha : PE X a (tE K C U wa)) (hb : PE X b (tE K C U wb)) (hm : behindInMarks op b = false) : PT X (.Compare a [op] [b] pos) (tT K C U (wB (wBin f wa wb))) :=
  pt_imp (pt_cmpR ho ha hb hm) fun σ H Q h => e_bin hs σ H _ (t_test σ H Q h)
theorem wt_val {w : WE} (h : PE X e (tE K C U w)) (he : ∀ whole, isTrue e X.env whole = (do let v ← whole; standAt e.pos; holding [v] (truthy v)) := by intro _; rfl) : PT X e (tT K C U (wB w)) := pt_imp (pt_val h he) fun σ H Q h => t_test σ H Q h
/-- both, the second without a trace -/
def wAndT (ta tb : WT) : WT := fun sl rt k => ta sl rt fun a rt1 => ∃ b, (a = true → tb sl rt1 fun b' rt2 => b' = b ∧ rt2 = rt1) ∧ k (a && b) rt1
def wOrT (ta tb : WT) : WT := fun sl rt k => ta sl rt fun a rt1 => ∃ b, (a = false → tb sl rt1 fun b' rt2 => b' = b ∧ rt2 = rt1) ∧ k (a || b) rt1
def wNotT (ta : WT) : WT := fun sl rt k => ta sl rt fun a rt1 => k (!a) rt1
theorem t_and : ∀ σ H Q, tT K C U (wAndT ta tb) σ H Q → tAnd (tT K C U ta) (tT K C U tb) σ H Q := fun σ H Q ⟨sl, rt, ρ, fps, G, k, s, xf, w, q⟩ =>
  ⟨sl, rt, ρ, fps, G, _, s, xf, w, fun a rt1 fps1 G1 H1 r1 n1 ⟨b, w1, w2⟩ => by
    cases a with
    | true => exact ⟨sl, rt1, ρ, fps1, G1, _, s.step r1 n1 fun _ _ e => e, xf.later n1 (Pre.refl _), w1 rfl, fun b' rt2 fps2 G2 H2 r2 n2 ⟨e1, e2⟩ => q b' rt2 fps2 G2 H2 r2 (n1.trans n2) (by rw [e1, e2]; exact w2)⟩
    | false => exact q false rt1 fps1 G1 H1 r1 n1 w2⟩
theorem t_or : ∀ σ H Q, tT K C U (wOrT ta tb) σ H Q → tOr (tT K C U ta) (tT K C U tb) σ H Q := fun σ H Q ⟨sl, rt, ρ, fps, G, k, s, xf, w, q⟩ =>
  ⟨sl, rt, ρ, fps, G, _, s, xf, w, fun a rt1 fps1 G1 H1 r1 n1 ⟨b, w1, w2⟩ => by
    cases a with
    | false => exact ⟨sl, rt1, ρ, fps1, G1, _, s.step r1 n1 fun _ _ e => e, xf.later n1 (Pre.refl _), w1 rfl, fun b' rt2 fps2 G2 H2 r2 n2 ⟨e1, e2⟩ => q b' rt2 fps2 G2 H2 r2 (n1.trans n2) (by rw [e1, e2]; exact w2)⟩
    | true => exact q true rt1 fps1 G1 H1 r1 n1 w2⟩
theorem wt_not (ha : PT X a (tT K C U ta)) : PT X (.UnaryOp .Not a pos) (tT K C U (wNotT ta)) := pt_imp (pt_not ha) fun σ H Q ⟨sl, rt, ρ, fps, G, k, s, xf, w, q⟩ => ⟨sl, rt, ρ, fps, G, _, s, xf, w, fun a rt1 fps1 G1 H1 r1 n1 w1 => q _ rt1 fps1 G1 H1 r1 n1 w1⟩
theorem ww_and (ha : PT X a (tT K C U ta)) (hb : PW X (.BoolOp .And (b :: rest) pos) (tT K C U tb)) : PW X (.BoolOp .And (a :: b :: rest) pos) (tT K C U (wAndT ta tb)) := pw_imp (pw_and ha hb) t_and
theorem ww_or (ha : PT X a (tT K C U ta)) (hb : PW X (.BoolOp .Or (b :: rest) pos) (tT K C U tb)) : PW X (.BoolOp .Or (a :: b :: rest) pos) (tT K C U (wOrT ta tb)) := pw_imp (pw_or ha hb) t_or
/-- .. as values -/
def wAndV (wa wb : WE) : WE := fun sl rt k => wa sl rt fun x rt1 => match x with
  | .dat (.bool a) => ∃ b, (a = true → wb sl rt1 fun y rt2 => y = .dat (.bool b) ∧ rt2 = rt1) ∧ k (.dat (.bool (a && b))) rt1
  | _ => False
def wOrV (wa wb : WE) : WE := fun sl rt k => wa sl rt fun x rt1 => match x with
  | .dat (.bool a) => ∃ b, (a = false → wb sl rt1 fun y rt2 => y = .dat (.bool b) ∧ rt2 = rt1) ∧ k (.dat (.bool (a || b))) rt1
  | _ => False
theorem e_andV : ∀ σ H Q, tE K C U (wAndV wa wb) σ H Q → tAndV (tE K C U wa) (tE K C U wb) σ H Q := fun σ H Q ⟨sl, rt, ρ, fps, G, k, s, xf, w, q⟩ =>
  ⟨sl, rt, ρ, fps, G, _, s, xf, w, fun x rt1 fps1 G1 H1 v r1 n1 v1 w1 => by
    split at w1
    · rename_i a
      obtain ⟨b, w1, w2⟩ := w1
      cases v1
      refine ⟨a, rfl, ?_⟩
      cases a with
      | true => exact ⟨sl, rt1, ρ, fps1, G1, _, s.step r1 n1 fun _ _ e => e, xf.later n1 (Pre.refl _), w1 rfl, fun y rt2 fps2 G2 H2 u r2 n2 v2 ⟨e1, e2⟩ => q y rt2 fps2 G2 H2 u r2 (n1.trans n2) v2 (by rw [e1, e2]; exact w2)⟩
      | false => exact q (.dat (.bool false)) rt1 fps1 G1 H1 _ r1 n1 (.bool _) w2
    · exact w1.elim⟩
theorem e_orV : ∀ σ H Q, tE K C U (wOrV wa wb) σ H Q → tOrV (tE K C U wa) (tE K C U wb) σ H Q := fun σ H Q ⟨sl, rt, ρ, fps, G, k, s, xf, w, q⟩ =>
  ⟨sl, rt, ρ, fps, G, _, s, xf, w, fun x rt1 fps1 G1 H1 v r1 n1 v1 w1 => by
    split at w1
    · rename_i a
      obtain ⟨b, w1, w2⟩ := w1
      cases v1
      refine ⟨a, rfl, ?_⟩
      cases a with
      | false => exact ⟨sl, rt1, ρ, fps1, G1, _, s.step r1 n1 fun _ _ e => e, xf.later n1 (Pre.refl _), w1 rfl, fun y rt2 fps2 G2 H2 u r2 n2 v2 ⟨e1, e2⟩ => q y rt2 fps2 G2 H2 u r2 (n1.trans n2) v2 (by rw [e1, e2]; exact w2)⟩
      | true => exact q (.dat (.bool true)) rt1 fps1 G1 H1 _ r1 n1 (.bool _) w2
    · exact w1.elim⟩
theorem we_andV (ha : PE X a (tE K C U wa)) (hb : PE X (.BoolOp .And (b :: rest) pos) (tE K C U wb)) : PE X (.BoolOp .And (a :: b :: rest) pos) (tE K C U (wAndV wa wb)) := pe_imp (pe_and ha hb) e_andV
theorem we_orV (ha : PE X a (tE K C U wa)) (hb : PE X (.BoolOp .Or (b :: rest) pos) (tE K C U wb)) : PE X (.BoolOp .Or (a :: b :: rest) pos) (tE K C U (wOrV wa wb)) := pe_imp (pe_or ha hb) e_orV
/-- a if t else b -/
def wIfE (t : WT) (wa wb : WE) : WE := fun sl rt k => t sl rt fun a rt1 => (a = true → wa sl rt1 k) ∧ (a = false → wb sl rt1 k)
theorem we_ifExp (hc : PT X c (tT K C U ta)) (ha : PE X a (tE K C U wa)) (hb : PE X b (tE K C U wb)) : PE X (.IfExp c a b pos) (tE K C U (wIfE ta wa wb)) := pe_imp (pe_ifExp hc ha hb) fun σ H Q ⟨sl, rt, ρ, fps, G, k, s, xf, w, q⟩ =>
  ⟨sl, rt, ρ, fps, G, _, s, xf, w, fun a rt1 fps1 G1 H1 r1 n1 w1 => by
    cases a with
    | true => exact ⟨sl, rt1, ρ, fps1, G1, k, s.step r1 n1 fun _ _ e => e, xf.later n1 (Pre.refl _), w1.1 rfl, fun x rt2 fps2 G2 H2 v r2 n2 v2 k2 => q x rt2 fps2 G2 H2 v r2 (n1.trans n2) v2 k2⟩
    | false => exact ⟨sl, rt1, ρ, fps1, G1, k, s.step r1 n1 fun _ _ e => e, xf.later n1 (Pre.refl _), w1.2 rfl, fun x rt2 fps2 G2 H2 v r2 n2 v2 k2 => q x rt2 fps2 G2 H2 v r2 (n1.trans n2) v2 k2⟩⟩
/-- a < b < c, the third without a trace -/
def wChain (f g : Sem2) (wa wb wc : WE) : WE := fun sl rt k => wa sl rt fun x rt1 => wb sl rt1 fun y rt2 => f x y rt2 fun d => ∃ p q, d = .bool p ∧ (p = true → wc sl rt2 fun z rt3 => rt3 = rt2 ∧ g y z rt3 fun d' => d' = .bool q) ∧ k (.dat (.bool (p && q))) rt2
theorem e_chain {f g : Sem2} {r r' : R2} (hf : S2 K C f r) (hg : S2 K C g r') : ∀ σ H Q, tE K C U (wChain f g wa wb wc) σ H Q → tChain r r' (tE K C U wa) (tE K C U wb) (tE K C U wc) σ H Q := fun σ H Q ⟨sl, rt, ρ, fps, G, k, s, xf, w, q⟩ =>
  ⟨sl, rt, ρ, fps, G, _, s, xf, w, fun x rt1 fps1 G1 H1 v r1 n1 v1 w1 => ⟨sl, rt1, ρ, fps1, G1, _, s.step r1 n1 fun _ _ e => e, xf.later n1 (Pre.refl _), w1, fun y rt2 fps2 G2 H2 u r2 n2 v2 w2 =>
    hf rt2 ρ fps2 G2 H2 x y v u r2 (v1.up n2 fun _ _ e => e) v2 _ _ w2 fun d w' ⟨p, q', e, w3, w4⟩ dr => by
      subst e
      cases dr
      refine ⟨p, rfl, ?_⟩
      cases p with
      | true => exact ⟨sl, rt2, ρ, fps2, G2, _, (s.step r1 n1 fun _ _ e => e).step r2 n2 fun _ _ e => e, xf.later (n1.trans n2) (Pre.refl _), w3 rfl, fun z rt3 fps3 G3 H3 w5 r3 n3 v3 ⟨e3, k3⟩ =>
          hg rt3 ρ fps3 G3 H3 y z u w5 r3 (v2.up n3 fun _ _ e => e) v3 _ _ k3 fun d' w6 e4 dr' => q (.dat d') rt3 fps3 G3 H3 w6 r3 (n1.trans (n2.trans n3)) dr' (by rw [e3, e4]; exact w4)⟩
      | false => exact q (.dat (.bool false)) rt2 fps2 G2 H2 _ r2 (n1.trans n2) (.bool _) w4⟩⟩
theorem we_chain {op op' : CmpOp} {f g : Sem2} {r r' : R2} (ho : OpR X (compareOp op) r) (ho' : OpR X (compareOp op') r') (hf : S2 K C f r) (hg : S2 K C g r') (ha : PE X a (tE K C U wa)) (hb : PE X b (tE K C U wb)) (hc : PE X c (tE K C U wc))
    (P : PE X (.Compare a [op, op'] [b, c] pos) (tChain r r' (tE K C U wa) (tE K C U wb) (tE K C U wc))) : PE X (.Compare a [op, op'] [b, c] pos) (tE K C U (wChain f g wa wb wc)) := pe_imp P (e_chain hf hg)
theorem wt_chain {op op' : CmpOp} {f g : Sem2} {r r' : R2} (hf : S2 K C f r) (hg : S2 K C g r')
    (P : PT X (.Compare a [op, op'] [b, c] pos) (tTest (tChain r r' (tE K C U wa) (tE K C U wb) (tE K C U wc)))) : PT X (.Compare a [op, op'] [b, c] pos) (tT K C U (wB (wChain f g wa wb wc))) := pt_imp P fun σ H Q h => e_chain hf hg σ H _ (t_test σ H Q h)

/-! ### argument lists -/
def wNil : WA := fun _ rt k => k [] rt
def wCons (w : WE) (r : WA) : WA := fun sl rt k => w sl rt fun x rt1 => r sl rt1 fun xs rt2 => k (x :: xs) rt2
theorem wa_nil : PA X [] (tA K C U wNil) := pa_imp pa_nil fun σ H Q ⟨sl, rt, ρ, fps, G, k, s, xf, w, q⟩ => q [] rt fps G H [] s.toRSt (Nx.refl _ G H) .nil w
theorem wa_cons {w : WE} {r : WA} (h : PE X e (tE K C U w)) (hr : PA X es (tA K C U r)) (hs : starEach (e :: es) X.env = (false, eval e X.env) :: starEach es X.env := by rfl) : PA X (e :: es) (tA K C U (wCons w r)) := pa_imp (pa_cons h hr hs) fun σ H Q ⟨sl, rt, ρ, fps, G, k, s, xf, w, q⟩ =>
  ⟨sl, rt, ρ, fps, G, _, s, xf, w, fun x rt1 fps1 G1 H1 v r1 n1 v1 w1 => ⟨sl, rt1, ρ, fps1, G1, _, s.step r1 n1 fun _ _ e => e, xf.later n1 (Pre.refl _), w1, fun xs rt2 fps2 G2 H2 vs r2 n2 v2 w2 =>
    q _ rt2 fps2 G2 H2 _ r2 (n1.trans n2) (.cons (v1.up n2 fun _ _ e => e) v2) w2⟩⟩
/-- all of them data -/
def datsV : List Val → Option (List D)
  | [] => some []
  | .dat d :: xs => (datsV xs).map (d :: ·)
  | _ :: _ => none
theorem VRs.dats : ∀ {xs : List Val} {vs : List V} {ds : List D}, VRs K C G H ρ xs vs → datsV xs = some ds → DRs K C G vs ds
  | [], _, _, .nil, e => by cases e; exact .nil
  | .dat d :: xs, _, ds, .cons h r, e => by
    cases q : datsV xs with
    | none => simp [datsV, q] at e
    | some es =>
      simp [datsV, q] at e
      subst e
      exact .cons h (VRs.dats r q)
  | .ref _ _ :: _, _, _, _, e => by cases e
/-- a new object laid as data -/
theorem RSt.laid (s : RSt K C rt ρ fps G H) {p : Addr} {o : HO} (hp : H p = none) : RSt K C rt ρ fps (upd G p o) (upd H p o) := by
  have gp : G p = none := fresh_back s.sub hp
  have ne : ∀ a ∈ fps.flatten, a ≠ p := fun a ha z => by
    obtain ⟨l, h1, h2⟩ := List.mem_flatten.mp ha
    subst z
    -- an owned object is in the heap
    have : ∀ {rt : Roots} {ρ : List Addr} {fps : List (List Addr)}, Rts K C G H rt ρ fps → ∀ a ∈ fps.flatten, H a ≠ none := by
      intro rt ρ fps r
      have tr : ∀ (t : T) (v : V) (fp : List Addr), TR K C G H v t fp → ∀ a ∈ fp, H a ≠ none := by
        intro t v fp h
        refine TR.rec (motive_1 := fun v t fp _ => ∀ a ∈ fp, H a ≠ none) (motive_2 := fun vs ts fp _ => ∀ a ∈ fp, H a ≠ none) (fun _ _ z => nomatch z) (fun h _ ih a ha => ?_) (fun h _ _ ih a ha => ?_) (fun h _ _ ih a ha => ?_) (fun _ ih => ih) (fun _ z => nomatch z) (fun _ _ i1 i2 a ha => ?_) h
        · rcases List.mem_cons.mp ha with z | z
          · rw [z, h]; exact fun q => nomatch q
          · exact ih a z
        · rcases List.mem_cons.mp ha with z | z
          · rw [z, h]; exact fun q => nomatch q
          · exact ih a z
        · rcases List.mem_cons.mp ha with z | z
          · rw [z, h]; exact fun q => nomatch q
          · exact ih a z
        · rcases List.mem_append.mp ha with z | z
          · exact i1 a z
          · exact i2 a z
      induction r with
      | nil => exact fun _ z => nomatch z
      | cons h _ ih =>
        intro a ha
        rw [List.flatten_cons] at ha
        rcases List.mem_append.mp ha with z | z
        · exact tr _ _ _ h a z
        · exact ih a z
    exact this s.root a ha hp
  refine ⟨fun a u e => ?_, s.root.stay (Ex.new gp) (fun a ha => upd_ne (ne a ha)), s.nd, fun a ha => by rw [upd_ne (ne a ha)]; exact s.fr a ha⟩
  by_cases h : a = p
  · rw [h, upd_same] at e ⊢
    exact e
  · rw [upd_ne h] at e ⊢
    exact s.sub a u e
theorem idn_new {p : Addr} {o : HO} (hp : H p = none) : Idn H (upd H p o) := by
  have up : ∀ a, H a ≠ none → upd H p o a = H a := fun a h => upd_ne fun z => h (by rw [z]; exact hp)
  refine Idn.of (fun w hw => ?_) (fun a i w hw hn => ?_)
  · obtain ⟨a, rfl, h⟩ := hw
    refine ⟨a, rfl, ?_⟩
    rcases h with ⟨xs, h⟩ | ⟨c, dx, fs, h⟩ | ⟨kvs, h⟩
    · exact .inl ⟨xs, by rw [up a (by rw [h]; exact fun z => nomatch z)]; exact h⟩
    · exact .inr (.inl ⟨c, dx, fs, by rw [up a (by rw [h]; exact fun z => nomatch z)]; exact h⟩)
    · exact .inr (.inr ⟨kvs, by rw [up a (by rw [h]; exact fun z => nomatch z)]; exact h⟩)
  · obtain ⟨v, h, rfl⟩ := hw
    have ne : H a ≠ none := fun z => by
      have h' : (match H a with | some (.lst xs) => (xs[i]?).bind (fol H []) | some (.ins _ _ fs) => ((fs.map Prod.snd)[i]?).bind (fol H []) | some (.dK kvs) => ((kvs.map Prod.snd)[i]?).bind (fol H []) | _ => none) = some v := h
      rw [z] at h'
      cases h'
    show (match upd H p o a with | some (.lst xs) => (xs[i]?).bind (fol (upd H p o) []) | some (.ins _ _ fs) => ((fs.map Prod.snd)[i]?).bind (fol (upd H p o) []) | some (.dK kvs) => ((kvs.map Prod.snd)[i]?).bind (fol (upd H p o) []) | _ => none) = some v
    rw [up a ne]
    exact h
theorem upd_none {p l : Addr} {o : HO} (h : upd H p o l = none) : H l = none := by
  by_cases e : l = p
  · rw [e, upd_same] at h
    cases h
  · rw [upd_ne e] at h
    exact h
theorem Nx.laid (s : Ex G H) {p : Addr} {o : HO} (hp : H p = none) (fp : List Addr) : Nx fp G H (upd G p o) (upd H p o) fp where
  g := Ex.new (fresh_back s hp)
  keep := fun l u h _ => by
    have ne : l ≠ p := fun z => by rw [z, hp] at h; cases h
    exact ⟨by rw [upd_ne ne]; exact h, fun g => by rw [upd_ne ne]; exact g⟩
  dom := fun l h => upd_none h
  new := fun _ h => .inl h
  idn := idn_new hp
/-- (a, b): data -/
def wTup (w : WA) : WE := fun sl rt k => w sl rt fun xs rt1 => match datsV xs with
  | some ds => ds.length ≤ 1000 ∧ k (.dat (.tup ds)) rt1
  | none => False
theorem sz_le {n m : Nat} (h : n ≤ m) (hm : m ≤ 100000 := by decide) : n ≤ sizeLine := sz_of (Nat.le_trans h hm)
theorem we_tup {x1} {w : WA} (h : PA X es (tA K C U w)) : PE X (.Tuple es x1 pos) (tE K C U (wTup w)) := pe_imp (pe_tup h) fun σ H Q ⟨sl, rt, ρ, fps, G, k, s, xf, w, q⟩ =>
  ⟨sl, rt, ρ, fps, G, _, s, xf, w, fun xs rt1 fps1 G1 H1 vs r1 n1 v1 w1 => by
    split at w1
    · rename_i ds e
      have dr := v1.dats e
      refine ⟨sz_le (by rw [dr.len]; exact w1.1), fun p hp => q (.dat (.tup ds)) rt1 fps1 _ _ _ (r1.laid hp) (n1.trans (Nx.laid r1.sub hp _)) ?_ w1.2⟩
      exact .tup (st_of upd_same) (DRs.up (Ex.new (fresh_back r1.sub hp)) _ _ dr)
    · exact w1.elim⟩
end
end Wv
end

section
set_option Elab.async false
set_option linter.all false
set_option maxRecDepth 100000
set_option maxHeartbeats 4000000
namespace Wv
open PySem PySem.Spec PyProof.Rows L2 Evl
section
variable {K : PySem.W.Frag} {C : Cs} {U : UX} {G H G' H' G1 H1 G2 H2 : Hp} {sl : Slots} {rt rt' : Roots} {σ : L2.St} {ρ ρ' : List Addr} {fps fps' : List (List Addr)}
variable {X : Cx} {a b c e : Expr} {es rest : List Expr} {wa wb wc : WE} {ta tb : WT} {pos p : Pos}

/-! ### what is owned is in the heap -/
theorem TR.inH {t : T} {v : V} {fp : List Addr} (h : TR K C G H v t fp) : ∀ a ∈ fp, H a ≠ none := by
  refine TR.rec (motive_1 := fun v t fp _ => ∀ a ∈ fp, H a ≠ none) (motive_2 := fun vs ts fp _ => ∀ a ∈ fp, H a ≠ none) (fun _ _ z => nomatch z) (fun h _ ih a ha => ?_) (fun h _ _ ih a ha => ?_) (fun h _ _ ih a ha => ?_) (fun _ ih => ih) (fun _ z => nomatch z) (fun _ _ i1 i2 a ha => ?_) h
  · rcases List.mem_cons.mp ha with z | z
    · rw [z, h]; exact fun q => nomatch q
    · exact ih a z
  · rcases List.mem_cons.mp ha with z | z
    · rw [z, h]; exact fun q => nomatch q
    · exact ih a z
  · rcases List.mem_cons.mp ha with z | z
    · rw [z, h]; exact fun q => nomatch q
    · exact ih a z
  · rcases List.mem_append.mp ha with z | z
    · exact i1 a z
    · exact i2 a z
theorem Rts.inH : ∀ {rt : Roots} {ρ : List Addr} {fps : List (List Addr)}, Rts K C G H rt ρ fps → ∀ a ∈ fps.flatten, H a ≠ none
  | _, _, _, .nil => fun _ z => nomatch z
  | _, _, _, .cons h r => fun a ha => by
    rw [List.flatten_cons] at ha
    rcases List.mem_append.mp ha with z | z
    · exact h.inH a z
    · exact Rts.inH r a z
theorem Own.inH {t : T} {v : V} {fp : List Addr} (h : Own K C fps G H t v fp) : ∀ a ∈ fp, H a ≠ none := h.tr.inH
/-- the heap grows -/
theorem RSt.grow (s : RSt K C rt ρ fps G H) (e : Ex H H') : RSt K C rt ρ fps G H' := ⟨s.sub.trans e, s.root.stay (Ex.refl G) fun a ha => by
    cases q : H a with
    | none => exact absurd q (s.root.inH a ha)
    | some o => exact e a o q, s.nd, s.fr⟩
theorem Own.grow {t : T} {v : V} {fp : List Addr} (s : Own K C fps G H t v fp) (e : Ex H H') : Own K C fps G H' t v fp := ⟨s.tr.stay (Ex.refl G) _ _ _ fun a ha => by
    cases q : H a with
    | none => exact absurd q (s.inH a ha)
    | some o => exact e a o q, s.nd, s.ap, s.fr⟩
/-- what is owned by nobody stays while a piece of the program runs -/
theorem Own.past {t : T} {v : V} {fp : List Addr} (s : Own K C fps G H t v fp) (n : Nx fps.flatten G H G' H' fps'.flatten) : Own K C fps' G' H' t v fp where
  tr := s.tr.stay n.g _ _ _ fun a ha => by
    cases q : H a with
    | none => exact absurd q (s.inH a ha)
    | some o => exact (n.keep a o q (s.ap a ha)).1
  nd := s.nd
  ap := fun a ha z => by
    rcases n.new a z with y | y
    · exact s.ap a ha y
    · exact s.inH a ha y
  fr := fun a ha => by
    cases q : H a with
    | none => exact absurd q (s.inH a ha)
    | some o => exact (n.keep a o q (s.ap a ha)).2 (s.fr a ha)
theorem Nx.grow {fp : List Addr} {p : Addr} {o : HO} (hp : H p = none) : Nx fp G H G (upd H p o) fp where
  g := Ex.refl G
  keep := fun l u h _ => ⟨Ex.new hp l u h, fun g => g⟩
  dom := fun l h => upd_none h
  new := fun _ h => .inl h
  idn := idn_new hp
/-- a new list of what is owned -/
theorem RSt.newL (s : RSt K C rt ρ fps G H) {p : Addr} {vs : List V} {ts : List T} {fp : List Addr} (hp : H p = none) (r : TRs K C G H vs ts fp) (nd : fp.Nodup) (ap : ∀ a ∈ fp, a ∉ fps.flatten) (fr : ∀ a ∈ fp, G a = none) (ih : ∀ a ∈ fp, H a ≠ none) :
    RSt K C rt ρ fps G (upd H p (.lst vs)) ∧ Own K C fps G (upd H p (.lst vs)) (.lst ts) (.ref p) (p :: fp) := by
  refine ⟨s.grow (Ex.new hp), .lst upd_same (TRs.stay (Ex.refl G) _ _ _ r fun a ha => upd_ne fun z => ih a ha (by rw [z]; exact hp)), ?_, fun a ha => ?_, fun a ha => ?_⟩
  · exact List.nodup_cons.mpr ⟨fun z => ih p z hp, nd⟩
  · rcases List.mem_cons.mp ha with z | z
    · exact fun y => s.root.inH a y (by rw [z]; exact hp)
    · exact ap a z
  · rcases List.mem_cons.mp ha with z | z
    · rw [z]; exact fresh_back s.sub hp
    · exact fr a z
/-- what is owned by nobody becomes data -/
theorem RSt.frz (s : RSt K C rt ρ fps G H) {t : T} {v : V} {fp : List Addr} (o : Own K C fps G H t v fp) : RSt K C rt ρ fps (mix G H fp) H ∧ DR K C (mix G H fp) v t.toD := by
  have eg := mix_ex (G := G) (H := H) o.fr
  refine ⟨⟨mix_sub s.sub, s.root.stay eg fun _ _ => rfl, s.nd, fun a ha => ?_⟩, o.tr.frz eg _ _ _ fun a ha => mix_in ha⟩
  rw [mix_out fun z => o.ap a z ha]
  exact s.fr a ha
theorem Nx.frz {fp fu : List Addr} {t : T} (n : Nx fp G H G' H' fps.flatten) (fr : ∀ a ∈ fu, G' a = none) (new : ∀ a ∈ fu, a ∈ fp ∨ H a = none) : Nx fp G H (mix G' H' fu) H' fps.flatten where
  g := n.g.trans (mix_ex fr)
  keep := fun l o h z => by
    obtain ⟨h1, g1⟩ := n.keep l o h z
    refine ⟨h1, fun g => ?_⟩
    rw [mix_out fun y => by
      rcases new l y with q | q
      · exact z q
      · rw [q] at h; cases h]
    exact g1 g
  dom := n.dom
  new := n.new
  idn := n.idn
/-- a new thing taken as data -/
def wFrz (w : WO) : WE := fun sl rt k => w sl rt fun t rt1 => k (.dat t.toD) rt1
theorem e_frz {w : WO} : ∀ σ H Q, tE K C U (wFrz w) σ H Q → tO K C U w σ H Q := fun σ H Q ⟨sl, rt, ρ, fps, G, k, s, xf, w, q⟩ =>
  ⟨sl, rt, ρ, fps, G, _, s, xf, w, fun t rt1 fps1 fp G1 H1 v r1 n1 o1 new w1 => by
    obtain ⟨r2, d⟩ := r1.frz o1
    exact q (.dat t.toD) rt1 fps1 _ H1 v r2 (n1.frz (t := t) o1.fr new) d w1⟩
theorem we_frz {w : WO} (h : PE X e (tO K C U w)) : PE X e (tE K C U (wFrz w)) := pe_imp h e_frz
/-- data as a tree -/
def wLift (w : WE) : WO := fun sl rt k => w sl rt fun x rt1 => match x with
  | .dat d => k (.dat d) rt1
  | _ => False
theorem Own.dat {v : V} {d : D} (h : DR K C G v d) : Own K C fps G H (.dat d) v [] := ⟨.dat h, List.nodup_nil, fun _ z => (nomatch z), fun _ z => (nomatch z)⟩
theorem o_lift {w : WE} : ∀ σ H Q, tO K C U (wLift w) σ H Q → tE K C U w σ H Q := fun σ H Q ⟨sl, rt, ρ, fps, G, k, s, xf, w, q⟩ =>
  ⟨sl, rt, ρ, fps, G, _, s, xf, w, fun x rt1 fps1 G1 H1 v r1 n1 v1 w1 => by
    cases x with
    | dat d => exact q _ rt1 fps1 [] G1 H1 v r1 n1 (Own.dat v1) (fun _ z => nomatch z) w1
    | ref _ _ => exact w1.elim⟩
theorem wo_lift {w : WE} (h : PE X e (tE K C U w)) : PE X e (tO K C U (wLift w)) := pe_imp h o_lift
/-- a root that is held by a name becomes data -/
def wFz (wa : WE) : WE := fun sl rt k => wa sl rt fun x rt1 => match x with
  | .dat d => k (.dat d) rt1
  | .ref r [] => match rt1[r]? with
    | some t => k (.dat t.toD) (rt1.set r (.dat t.toD))
    | none => False
  | _ => False
theorem e_fz : ∀ σ H Q, tE K C U (wFz wa) σ H Q → tE K C U wa σ H Q := fun σ H Q ⟨sl, rt, ρ, fps, G, k, s, xf, w, q⟩ =>
  ⟨sl, rt, ρ, fps, G, _, s, xf, w, fun x rt1 fps1 G1 H1 v r1 n1 v1 w1 => by
    split at w1
    · exact q _ rt1 fps1 G1 H1 v r1 n1 v1 w1
    · rename_i r
      split at w1
      · rename_i t ht
        obtain ⟨a, h1, h2, h3⟩ := v1
        cases Option.some.inj h2
        obtain ⟨a', L, fu, R, k1, k2, k3, k4⟩ := r1.root.split ht
        rw [h1] at k1
        cases k1
        have nd := r1.nd
        rw [k3] at nd
        have fr : ∀ b ∈ fu, G1 b = none := fun b hb => r1.fr b (by rw [k3]; simp [hb])
        have eg := mix_ex (G := G1) (H := H1) fr
        obtain ⟨fps2, y1, y2⟩ := k4 (mix G1 H1 fu) H1 (.dat t.toD) [] eg (fun _ _ => rfl) (.dat (k2.frz eg _ _ _ fun b hb => mix_in hb))
        have sub2 : ∀ b ∈ fps2.flatten, b ∈ fps1.flatten ∧ b ∉ fu := fun b hb => by
          rw [y2] at hb
          rw [k3]
          have nd2 := List.nodup_append.mp nd
          have nd3 := List.nodup_append.mp nd2.2.1
          rcases List.mem_append.mp hb with z | z
          · exact ⟨by simp [z], fun y => nd2.2.2 b z b (by simp [y]) rfl⟩
          · have z : b ∈ R := by simpa using z
            exact ⟨by simp [z], fun y => nd3.2.2 b y b z rfl⟩
        have nd' : fps2.flatten.Nodup := by
          rw [y2]
          refine List.Nodup.sublist ?_ nd
          exact List.Sublist.append (List.Sublist.refl L) (List.Sublist.append (List.nil_sublist fu) (List.Sublist.refl R))
        refine q (.dat t.toD) _ fps2 (mix G1 H1 fu) H1 _ ⟨mix_sub r1.sub, y1, nd', fun b hb => ?_⟩ ?_ (k2.frz eg _ _ _ fun b hb => mix_in hb) w1
        · rw [mix_out (sub2 b hb).2]
          exact r1.fr b (sub2 b hb).1
        · refine n1.trans ⟨eg, fun l o h z => ⟨h, fun g => ?_⟩, fun _ h => h, fun l h => .inl (sub2 l h).1, Idn.refl _⟩
          rw [mix_out fun y => z (by rw [k3]; simp [y])]
          exact g
      · exact w1.elim
    · exact w1.elim⟩
theorem we_fz (h : PE X e (tE K C U wa)) : PE X e (tE K C U (wFz wa)) := pe_imp h e_fz

/-! ### lists made -/
/-- [a, b] of data -/
def wLst (w : WA) : WO := fun sl rt k => w sl rt fun xs rt1 => match datsV xs with
  | some ds => ds.length ≤ 1000 ∧ k (.lst (ds.map .dat)) rt1
  | none => False
theorem wo_lst {w : WA} (h : PA X es (tA K C U w)) : PE X (.List es pos) (tO K C U (wLst w)) := pe_imp (pe_lst h) fun σ H Q ⟨sl, rt, ρ, fps, G, k, s, xf, w, q⟩ =>
  ⟨sl, rt, ρ, fps, G, _, s, xf, w, fun xs rt1 fps1 G1 H1 vs r1 n1 v1 w1 => by
    split at w1
    · rename_i ds e
      have dr := v1.dats e
      refine ⟨sz_le (by rw [dr.len]; exact w1.1), fun p hp => ?_⟩
      obtain ⟨r2, o2⟩ := r1.newL hp (dr.trs (H := H1)) List.nodup_nil (fun _ z => nomatch z) (fun _ z => nomatch z) (fun _ z => nomatch z)
      exact q _ rt1 fps1 _ G1 _ _ r2 (n1.trans (Nx.grow hp)) o2 (fun b hb => by
        have : b = p := by simpa using hb
        rw [this]
        exact .inr (n1.dom p hp)) w1.2
    · exact w1.elim⟩
/-- a list that is there: as data or owned, of data alone -/
def listOf (x : Val) (rt : Roots) : Option (List D) := match x with
  | .dat (.lst ds) => some ds
  | .dat (.ro ds) => some ds
  | .dat (.fzl ds) => some ds
  | .ref r p => match tat rt r p with
    | some (.lst ts) => dats ts
    | _ => none
  | _ => none
theorem RSt.listOf (s : RSt K C rt ρ fps G H) {x : Val} {v : V} {ds : List D} (h : listOf x rt = some ds) (hv : VR K C G H ρ x v) : ∃ a xs, v = .ref a ∧ SqL K H a xs ∧ DRs K C G xs ds := by
  unfold Wv.listOf at h
  split at h
  · cases h
    cases hv with
    | lst h r => exact ⟨_, _, rfl, sq_of (s.sub _ _ h), r⟩
  · cases h
    cases hv with
    | ro h r => exact ⟨_, _, rfl, ex_l s.sub h, r⟩
  · cases h
    cases hv with
    | fzl h r => exact ⟨_, _, rfl, .inl (.inr ⟨_, s.sub _ _ h⟩), r⟩
  · split at h
    · rename_i ts ht
      obtain ⟨a, fu, _, _, k, _⟩ := s.get ht hv
      cases k with
      | lst h2 r =>
        have e := dats_map h
        rw [e] at r
        exact ⟨_, _, rfl, sq_of h2, (TRs.dats r).1⟩
    · cases h
  · cases h
/-- a list or a tuple of data -/
def seqOf (x : Val) (rt : Roots) : Option (List D) := match x with
  | .dat (.tup ds) => some ds
  | .dat (.tpx ds) => some ds
  | _ => listOf x rt
theorem RSt.seqOf (s : RSt K C rt ρ fps G H) {x : Val} {v : V} {ds : List D} (h : seqOf x rt = some ds) (hv : VR K C G H ρ x v) : ∃ a xs, v = .ref a ∧ (SqL K H a xs ∨ SqT K H a xs) ∧ DRs K C G xs ds := by
  unfold Wv.seqOf at h
  split at h
  · cases h
    cases hv with
    | tup h r => exact ⟨_, _, rfl, .inr (ex_t s.sub h), r⟩
  · cases h
    cases hv with
    | tpx h _ r => exact ⟨_, _, rfl, .inr (ex_t s.sub (.inl (.inr ⟨_, h⟩))), r⟩
  · obtain ⟨a, xs, h1, h2, h3⟩ := s.listOf h hv
    exact ⟨a, xs, h1, .inl h2, h3⟩
/-- a call of a built-in with values that makes nothing -/
abbrev SemA := List Val → Roots → (D → Prop) → Prop
def wCB (f : SemA) (w : WA) : WE := fun sl rt k => w sl rt fun xs rt1 => f xs rt1 fun d => k (.dat d) rt1
def SA (K : PySem.W.Frag) (C : Cs) (f : SemA) (r : List V → Hp → VK → Prop) : Prop := ∀ rt ρ fps G H xs vs, RSt K C rt ρ fps G H → VRs K C G H ρ xs vs → ∀ (k : D → Prop) (Q : VK), f xs rt k → (∀ d w, k d → DR K C G w d → Q w H) → r vs H Q
theorem e_cb {f : SemA} {r : List V → Hp → VK → Prop} {w : WA} (h : SA K C f r) : ∀ σ H Q, tE K C U (wCB f w) σ H Q → tCB r (tA K C U w) σ H Q := fun σ H Q ⟨sl, rt, ρ, fps, G, k, s, xf, w, q⟩ =>
  ⟨sl, rt, ρ, fps, G, _, s, xf, w, fun xs rt1 fps1 G1 H1 vs r1 n1 v1 w1 => h rt1 ρ fps1 G1 H1 xs vs r1 v1 _ Q w1 fun d w2 kd dr => q (.dat d) rt1 fps1 G1 H1 w2 r1 n1 dr kd⟩
/-- len -/
def fLen : SemA := fun xs rt k => match xs with
  | [.dat (.str z)] => z.length ≤ sizeLine ∧ k (.int z.length)
  | [x] => match x with
    | .ref r p => match tat rt r p with
      | some (.lst ts) => k (.int ts.length)
      | _ => False
    | _ => match seqOf x rt with
      | some ds => k (.int ds.length)
      | none => False
  | _ => False
theorem sa_len : SA K C fLen (fun xs H Q => ∃ x n, xs = [x] ∧ LenV K x H n ∧ Q (.int n) H) := fun rt ρ fps G H xs vs s v k Q w q => by
  unfold fLen at w
  split at w
  · cases v with
    | cons h r =>
      cases r
      cases h
      exact ⟨_, _, rfl, ⟨w.1, rfl⟩, q _ _ w.2 (.int _)⟩
  · cases v with
    | cons h r =>
      cases r
      split at w
      · split at w
        · rename_i ts ht
          obtain ⟨a, fu, _, _, k2, _⟩ := s.get ht h
          cases k2 with
          | lst h2 r2 => exact ⟨_, _, rfl, .inl ⟨_, sq_of h2, (TRs.len r2).symm⟩, q _ _ w (.int _)⟩
        · exact w.elim
      · split at w
        · rename_i ds e
          obtain ⟨a, xs, rfl, h2, h3⟩ := s.seqOf e h
          refine ⟨_, _, rfl, ?_, q _ _ w (.int _)⟩
          rcases h2 with h2 | h2
          · exact .inl ⟨xs, h2, h3.len.symm⟩
          · exact .inr ⟨xs, h2, h3.len.symm⟩
        · exact w.elim
  · exact w.elim
/-- int(x) of an int, a bool -/
def fInt : SemA := fun xs _ k => match xs with
  | [.dat (.int i)] => k (.int i)
  | [.dat (.bool b)] => k (.int (if b = true then 1 else 0))
  | _ => False
theorem sa_int : SA K C fInt (fun xs H Q => (∃ i, xs = [.int i] ∧ Q (.int i) H) ∨ ∃ k, xs = [.bl k] ∧ Q (.int (if k then 1 else 0)) H) := fun rt ρ fps G H xs vs s v k Q w q => by
  unfold fInt at w
  split at w
  · cases v with
    | cons h r =>
      cases r
      cases h
      exact .inl ⟨_, rfl, q _ _ w (.int _)⟩
  · cases v with
    | cons h r =>
      cases r
      cases h
      exact .inr ⟨_, rfl, q _ _ w (.int _)⟩
  · exact w.elim
def fMax : SemA := fun xs _ k => match xs with
  | [.dat (.int i), .dat (.int j)] => k (.int (if j > i then j else i))
  | _ => False
def fMin : SemA := fun xs _ k => match xs with
  | [.dat (.int i), .dat (.int j)] => k (.int (if j < i then j else i))
  | _ => False
theorem sa_max : SA K C fMax (fun xs H Q => ∃ i j, xs = [.int i, .int j] ∧ Q (.int (if j > i then j else i)) H) := fun rt ρ fps G H xs vs s v k Q w q => by
  unfold fMax at w
  split at w
  · cases v with
    | cons h r =>
      cases r with
      | cons h' r =>
        cases r
        cases h
        cases h'
        exact ⟨_, _, rfl, q _ _ w (.int _)⟩
  · exact w.elim
theorem sa_min : SA K C fMin (fun xs H Q => ∃ i j, xs = [.int i, .int j] ∧ Q (.int (if j < i then j else i)) H) := fun rt ρ fps G H xs vs s v k Q w q => by
  unfold fMin at w
  split at w
  · cases v with
    | cons h r =>
      cases r with
      | cons h' r =>
        cases r
        cases h
        cases h'
        exact ⟨_, _, rfl, q _ _ w (.int _)⟩
  · exact w.elim
/-- sum of ints -/
def fSum : SemA := fun xs rt k => match xs with
  | [x] => ∃ ns : List Int, listOf x rt = some (ns.map .int) ∧ k (.int ns.sum)
  | _ => False
theorem sa_sum : SA K C fSum (rSum K) := fun rt ρ fps G H xs vs s v k Q w q => by
  unfold fSum at w
  split at w
  · cases v with
    | cons h r =>
      cases r
      obtain ⟨ns, e, w⟩ := w
      obtain ⟨a, xs, rfl, h2, h3⟩ := s.listOf e h
      rw [DRs.ints h3] at h2
      exact ⟨a, ns, rfl, h2, q _ _ w (.int _)⟩
  · exact w.elim
def fAll : SemA := fun xs rt k => match xs with
  | [x] => ∃ ns : List Bool, listOf x rt = some (ns.map .bool) ∧ k (.bool (ns.all id))
  | _ => False
theorem sa_all : SA K C fAll (rAll K) := fun rt ρ fps G H xs vs s v k Q w q => by
  unfold fAll at w
  split at w
  · cases v with
    | cons h r =>
      cases r
      obtain ⟨ns, e, w⟩ := w
      obtain ⟨a, xs, rfl, h2, h3⟩ := s.listOf e h
      rw [DRs.bools h3] at h2
      exact ⟨a, ns, rfl, h2, q _ _ w (.bool _)⟩
  · exact w.elim
/-- list(x) -/
def wListOf (w : WA) : WO := fun sl rt k => w sl rt fun xs rt1 => match xs with
  | [x] => ∃ ds, seqOf x rt1 = some ds ∧ k (.lst (ds.map .dat)) rt1
  | _ => False
theorem o_listOf {w : WA} : ∀ σ H Q, tO K C U (wListOf w) σ H Q → tCB (fun xs H Q => ∃ p ys, xs = [.ref p] ∧ (SqL K H p ys ∨ SqT K H p ys) ∧ ∀ l, H l = none → Q (.ref l) (upd H l (.lst ys))) (tA K C U w) σ H Q := fun σ H Q ⟨sl, rt, ρ, fps, G, k, s, xf, w, q⟩ =>
  ⟨sl, rt, ρ, fps, G, _, s, xf, w, fun xs rt1 fps1 G1 H1 vs r1 n1 v1 w1 => by
    split at w1
    · obtain ⟨ds, e, w1⟩ := w1
      cases v1 with
      | cons h r =>
        cases r
        obtain ⟨a, xs, rfl, h2, h3⟩ := r1.seqOf e h
        refine ⟨a, xs, rfl, h2, fun p hp => ?_⟩
        obtain ⟨r2, o2⟩ := r1.newL hp (h3.trs (H := H1)) List.nodup_nil (fun _ z => nomatch z) (fun _ z => nomatch z) (fun _ z => nomatch z)
        exact q _ rt1 fps1 _ G1 _ _ r2 (n1.trans (Nx.grow hp)) o2 (fun b hb => by
          have : b = p := by simpa using hb
          rw [this]
          exact .inr (n1.dom p hp)) w1
    · exact w1.elim⟩
/-- tuple(x): data -/
def wTupOf (w : WA) : WE := fun sl rt k => w sl rt fun xs rt1 => match xs with
  | [x] => ∃ ds, seqOf x rt1 = some ds ∧ k (.dat (.tup ds)) rt1
  | _ => False
theorem e_tupOf {w : WA} : ∀ σ H Q, tE K C U (wTupOf w) σ H Q → tCB (fun xs H Q => ∃ p ys, xs = [.ref p] ∧ ((SqL K H p ys ∧ ∀ l, H l = none → Q (.ref l) (upd H l (.tup ys))) ∨ (SqT K H p ys ∧ Q (.ref p) H))) (tA K C U w) σ H Q := fun σ H Q ⟨sl, rt, ρ, fps, G, k, s, xf, w, q⟩ =>
  ⟨sl, rt, ρ, fps, G, _, s, xf, w, fun xs rt1 fps1 G1 H1 vs r1 n1 v1 w1 => by
    split at w1
    · obtain ⟨ds, e, w1⟩ := w1
      · cases v1 with
        | cons h r =>
          cases r
          unfold Wv.seqOf at e
          split at e
          · cases e
            cases h with
            | tup h2 r => exact ⟨_, _, rfl, .inr ⟨ex_t r1.sub h2, q (.dat (.tup ds)) rt1 fps1 G1 H1 _ r1 n1 (.tup h2 r) w1⟩⟩
          · cases e
            cases h with
            | tpx h2 _ r => exact ⟨_, _, rfl, .inr ⟨ex_t r1.sub (.inl (.inr ⟨_, h2⟩)), q (.dat (.tup ds)) rt1 fps1 G1 H1 _ r1 n1 (.tup (.inl (.inr ⟨_, h2⟩)) r) w1⟩⟩
          · obtain ⟨a, xs, rfl, h2, h3⟩ := r1.listOf e h
            refine ⟨a, xs, rfl, .inl ⟨h2, fun p hp => q (.dat (.tup ds)) rt1 fps1 _ _ _ (r1.laid hp) (n1.trans (Nx.laid r1.sub hp _)) ?_ w1⟩⟩
            exact .tup (st_of upd_same) (DRs.up (Ex.new (fresh_back r1.sub hp)) _ _ h3)
    · exact w1.elim⟩
/-- a[i] -/
def wIdx (wa wb : WE) : WE := fun sl rt k => wa sl rt fun x rt1 => wb sl rt1 fun y rt2 => match y with
  | .dat (.int n) => match x with
    | .dat (.str z) => z.length ≤ sizeLine ∧ ∃ c, atI z.cps.toList n = some c ∧ k (.dat (.str ⟨#[c]⟩)) rt2
    | .dat d => match seqOf (.dat d) rt2 with
      | some ds => ∃ d, atI ds n = some d ∧ k (.dat d) rt2
      | none => False
    | .ref r p => match tat rt2 r p with
      | some (.lst ts) => ∃ j u, ixN ts.length n = some j ∧ ts[j]? = some u ∧ k (Val.of r (p ++ [j]) u) rt2
      | _ => False
  | _ => False
theorem atI_get {xs : List V} {ds : List D} {n : Int} {d : D} (r : DRs K C G xs ds) (h : atI ds n = some d) : ∃ v, atI xs n = some v ∧ DR K C G v d := by
  unfold atI at h ⊢
  rw [r.len]
  cases q : ixN ds.length n with
  | none => rw [q] at h; cases h
  | some j =>
    rw [q] at h
    exact r.get h
theorem e_idx : ∀ σ H Q, tE K C U (wIdx wa wb) σ H Q → tOp (rIx K) (tE K C U wa) (tE K C U wb) σ H Q := fun σ H Q ⟨sl, rt, ρ, fps, G, k, s, xf, w, q⟩ =>
  ⟨sl, rt, ρ, fps, G, _, s, xf, w, fun x rt1 fps1 G1 H1 v r1 n1 v1 w1 => ⟨sl, rt1, ρ, fps1, G1, _, s.step r1 n1 fun _ _ e => e, xf.later n1 (Pre.refl _), w1, fun y rt2 fps2 G2 H2 u r2 n2 v2 w2 => by
    have v1 := v1.up n2 fun _ _ e => e
    split at w2
    · rename_i n
      cases v2
      split at w2
      · cases v1
        obtain ⟨hz, c, hc, w2⟩ := w2
        exact .inr (.inr ⟨_, n, c, rfl, rfl, hz, hc, q (.dat (.str ⟨#[c]⟩)) rt2 fps2 G2 H2 _ r2 (n1.trans n2) (DR.str _) w2⟩)
      · split at w2
        · rename_i ds e
          obtain ⟨d, hd, w2⟩ := w2
          obtain ⟨a, xs, rfl, h2, h3⟩ := r2.seqOf e v1
          obtain ⟨z, hz, hr⟩ := atI_get h3 hd
          rcases h2 with h2 | h2
          · exact .inl ⟨a, xs, n, z, rfl, rfl, h2, hz, q (.dat d) rt2 fps2 G2 H2 _ r2 (n1.trans n2) hr w2⟩
          · exact .inr (.inl ⟨a, xs, n, z, rfl, rfl, h2, hz, q (.dat d) rt2 fps2 G2 H2 _ r2 (n1.trans n2) hr w2⟩)
        · exact w2.elim
      · rename_i r p
        split at w2
        · rename_i ts ht
          obtain ⟨j, u, hj, hu, w2⟩ := w2
          obtain ⟨a, fu, k1, k2, k3, _⟩ := r2.get ht v1
          cases k3 with
          | lst h2 r3 =>
            obtain ⟨z, fz, z1, z2, _⟩ := r3.get hu
            refine .inl ⟨_, _, n, z, rfl, rfl, sq_of h2, ?_, q _ rt2 fps2 G2 H2 z r2 (n1.trans n2) (VR.of k1 ?_ z2) w2⟩
            · unfold atI
              rw [TRs.len r3, hj]
              exact z1
            · rw [fol_snoc, k2]
              show (match H2 _ with | some (.lst xs) => (xs[j]?).bind (fol H2 []) | some (.ins _ _ fs) => ((fs.map Prod.snd)[j]?).bind (fol H2 []) | some (.dK kvs) => ((kvs.map Prod.snd)[j]?).bind (fol H2 []) | _ => none) = some z
              rw [h2]
              show (_[j]?).bind (fol H2 []) = some z
              rw [z1]
              rfl
        · exact w2.elim
    · exact w2.elim⟩⟩
theorem we_idx (ha : PE X a (tE X.K C U wa)) (hb : PE X b (tE X.K C U wb)) (hs : PlainIx b) : PE X (.Subscript a b pos) (tE X.K C U (wIdx wa wb)) := pe_imp (pe_ix (r := rIx X.K) ix_seq ha hb hs) e_idx
end
end Wv
end

section
set_option Elab.async false
set_option linter.all false
set_option maxRecDepth 100000
set_option maxHeartbeats 4000000
namespace Wv
open PySem PySem.Spec PyProof.Rows L2 Evl

structure WEnds where
  nx : Slots → Roots → Prop
  rt : Val → Roots → Prop := fun _ _ => False
  ro : T → Roots → Prop := fun _ _ => False
  bk : Slots → Roots → Prop := fun _ _ => False
  ct : Slots → Roots → Prop := fun _ _ => False
  ex : Exn → Slots → Roots → Prop := fun _ _ _ => False
abbrev WS := WEnds → Slots → Roots → Prop
/-- where a piece of the program may end -/
structure Fin (K : PySem.W.Frag) (C : Cs) (U : UX) (ρ : List Addr) (fps : List (List Addr)) (G H : Hp) (Z : WEnds) (D : Ends) : Prop where
  nx : ∀ sl' rt' σ' ρ' fps' G' H', St K C sl' rt' σ' ρ' fps' G' H' → Nx fps.flatten G H G' H' fps'.flatten → Pre ρ ρ' → Z.nx sl' rt' → D.nx σ' H'
  rt : ∀ x rt' ρ' fps' G' H' v, RSt K C rt' ρ' fps' G' H' → Nx fps.flatten G H G' H' fps'.flatten → Pre ρ ρ' → VR K C G' H' ρ' x v → Z.rt x rt' → D.rt v H'
  ro : ∀ t rt' ρ' fps' fp G' H' v, RSt K C rt' ρ' fps' G' H' → Nx fps.flatten G H G' H' fps'.flatten → Pre ρ ρ' → Own K C fps' G' H' t v fp → (∀ a ∈ fp, a ∈ fps.flatten ∨ H a = none) → Z.ro t rt' → D.rt v H'
  bk : ∀ sl' rt' σ' ρ' fps' G' H', St K C sl' rt' σ' ρ' fps' G' H' → Nx fps.flatten G H G' H' fps'.flatten → Pre ρ ρ' → Z.bk sl' rt' → D.bk σ' H'
  ct : ∀ sl' rt' σ' ρ' fps' G' H', St K C sl' rt' σ' ρ' fps' G' H' → Nx fps.flatten G H G' H' fps'.flatten → Pre ρ ρ' → Z.ct sl' rt' → D.ct σ' H'
  xf : Xf K C U ρ fps G H Z.ex
section
variable {K : PySem.W.Frag} {C : Cs} {U : UX} {G H G' H' G1 H1 G2 H2 : Hp} {sl : Slots} {rt rt' : Roots} {σ : L2.St} {ρ ρ' ρ1 : List Addr} {fps fps' fps1 : List (List Addr)}
variable {X : Cx} {a b c e : Expr} {es rest : List Expr} {wa wb wc : WE} {ta tb : WT} {pos p : Pos} {Z : WEnds} {E : Ends} {st : Stmt} {sts : List Stmt} {u z : WS}
theorem Fin.later (f : Fin K C U ρ fps G H Z E) (n : Nx fps.flatten G H G1 H1 fps1.flatten) (p : Pre ρ ρ1) : Fin K C U ρ1 fps1 G1 H1 Z E where
  nx := fun sl' rt' σ' ρ' fps' G' H' s n' p' => f.nx sl' rt' σ' ρ' fps' G' H' s (n.trans n') (p.trans p')
  rt := fun x rt' ρ' fps' G' H' v s n' p' => f.rt x rt' ρ' fps' G' H' v s (n.trans n') (p.trans p')
  ro := fun t rt' ρ' fps' fp G' H' v s n' p' o h => f.ro t rt' ρ' fps' fp G' H' v s (n.trans n') (p.trans p') o fun a ha => (h a ha).elim (fun q => n.new a q) fun q => .inr (n.dom a q)
  bk := fun sl' rt' σ' ρ' fps' G' H' s n' p' => f.bk sl' rt' σ' ρ' fps' G' H' s (n.trans n') (p.trans p')
  ct := fun sl' rt' σ' ρ' fps' G' H' s n' p' => f.ct sl' rt' σ' ρ' fps' G' H' s (n.trans n') (p.trans p')
  xf := f.xf.later n p
variable (K C)
variable (U)
def tS (w : WS) : TS := fun D σ H => ∃ Z sl rt ρ fps G, St K C sl rt σ ρ fps G H ∧ w Z sl rt ∧ Fin K C U ρ fps G H Z D
variable {K C}
variable {U}
theorem ps_imp {t t' : TS} (h : PS X st t) (i : ∀ D σ H, t' D σ H → t D σ H) : PS X st t' := ⟨fun pins s σ H D I q => h.run pins s σ H D I (i D σ H q)⟩
theorem pss_imp {t t' : TS} (h : PSs X sts t) (i : ∀ D σ H, t' D σ H → t D σ H) : PSs X sts t' := ⟨fun pins s σ H D I q => h.run pins s σ H D I (i D σ H q)⟩
theorem pre_len (p : Pre ρ ρ') : ρ.length ≤ ρ'.length := by
  cases h : ρ.length with
  | zero => omega
  | succ n =>
    have := p n (ρ[n]'(by omega)) (List.getElem?_eq_getElem (by omega))
    have := (List.getElem?_eq_some_iff.mp this).1
    omega

/-! ### blocks -/
def wSeq (u z : WS) : WS := fun Z sl rt => u { Z with nx := z Z } sl rt
/-- with a place told between -/
def wCut (u z : WS) : WS := fun Z sl rt => ∃ N : Slots → Roots → Prop, u { Z with nx := N } sl rt ∧ ∀ sl' rt', N sl' rt' → z Z sl' rt'
def wNext : WS := fun Z sl rt => Z.nx sl rt
theorem Fin.seq (f : Fin K C U ρ fps G H Z E) (N : Slots → Roots → Prop) (h : ∀ sl' rt', N sl' rt' → z Z sl' rt') : Fin K C U ρ fps G H { Z with nx := N } { E with nx := tS K C U z E } :=
  ⟨fun sl' rt' σ' ρ' fps' G' H' s n p hn => ⟨Z, sl', rt', ρ', fps', G', s, h sl' rt' hn, f.later n p⟩, f.rt, f.ro, f.bk, f.ct, f.xf⟩
theorem wss_nil : PSs X [] (tS K C U wNext) := pss_imp pss_nil fun D σ H ⟨Z, sl, rt, ρ, fps, G, s, w, f⟩ => f.nx sl rt σ ρ fps G H s (Nx.refl _ _ _) (Pre.refl _) w
theorem wss_cons (h1 : PS X st (tS K C U u)) (h2 : PSs X sts (tS K C U z)) : PSs X (st :: sts) (tS K C U (wSeq u z)) := pss_imp (pss_cons h1 h2) fun D σ H ⟨Z, sl, rt, ρ, fps, G, s, w, f⟩ => ⟨_, sl, rt, ρ, fps, G, s, w, f.seq _ fun _ _ h => h⟩
theorem wss_cut (h1 : PS X st (tS K C U u)) (h2 : PSs X sts (tS K C U z)) : PSs X (st :: sts) (tS K C U (wCut u z)) := pss_imp (pss_cons h1 h2) fun D σ H ⟨Z, sl, rt, ρ, fps, G, s, ⟨N, w, h⟩, f⟩ => ⟨_, sl, rt, ρ, fps, G, s, w, f.seq N h⟩
theorem wss_one (h1 : PS X st (tS K C U u)) : PSs X [st] (tS K C U u) := pss_one h1
theorem ws_pass : PS X (.Pass pos) (tS K C U wNext) := ps_imp ps_pass fun D σ H ⟨Z, sl, rt, ρ, fps, G, s, w, f⟩ => f.nx sl rt σ ρ fps G H s (Nx.refl _ _ _) (Pre.refl _) w
theorem ws_doc {x j pos'} : PS X (.Expr (.Constant (.str x) j pos) pos') (tS K C U wNext) := ps_imp ps_doc fun D σ H ⟨Z, sl, rt, ρ, fps, G, s, w, f⟩ => f.nx sl rt σ ρ fps G H s (Nx.refl _ _ _) (Pre.refl _) w
def wBreak : WS := fun Z sl rt => Z.bk sl rt
def wCont : WS := fun Z sl rt => Z.ct sl rt
theorem ws_break : PS X (.Break pos) (tS K C U wBreak) := ps_imp ps_break fun D σ H ⟨Z, sl, rt, ρ, fps, G, s, w, f⟩ => f.bk sl rt σ ρ fps G H s (Nx.refl _ _ _) (Pre.refl _) w
theorem ws_continue : PS X (.Continue pos) (tS K C U wCont) := ps_imp ps_continue fun D σ H ⟨Z, sl, rt, ρ, fps, G, s, w, f⟩ => f.ct sl rt σ ρ fps G H s (Nx.refl _ _ _) (Pre.refl _) w

/-! ### names -/
theorem get_set {α : Type} {l : List α} {i j : Nat} {a b : α} (h : (l.set i a)[j]? = some b) : (i = j ∧ a = b) ∨ (i ≠ j ∧ l[j]? = some b) := by
  by_cases e : i = j
  · left
    subst e
    refine ⟨rfl, ?_⟩
    by_cases hl : i < l.length
    · rw [List.getElem?_set_self hl] at h
      exact Option.some.inj h
    · rw [List.getElem?_eq_none (by rw [List.length_set]; omega)] at h
      cases h
  · right
    rw [List.getElem?_set_ne e] at h
    exact ⟨e, h⟩
theorem St.set (s : St K C sl rt σ ρ fps G H) {i : Nat} {x : Val} {v : V} (h : VR K C G H ρ x v) : St K C (sl.set i (some x)) rt (σ.set i (some v)) ρ fps G H where
  toRSt := s.toRSt
  len := by rw [List.length_set, List.length_set, s.len]
  slot := fun j y e => by
    rcases get_set e with ⟨rfl, q⟩ | ⟨n, q⟩
    · cases q
      refine ⟨v, ?_, h⟩
      have hl : i < sl.length := by
        by_cases z : i < sl.length
        · exact z
        · rw [List.getElem?_eq_none (by rw [List.length_set]; omega)] at e
          cases e
      exact List.getElem?_set_self (by rw [s.len]; exact hl)
    · obtain ⟨w, h1, h2⟩ := s.slot j y q
      exact ⟨w, by rw [List.getElem?_set_ne n]; exact h1, h2⟩
def wAsg (i : Nat) (w : WE) : WS := fun Z sl rt => w ⟨sl, Z.ex⟩ rt fun x rt1 => Z.nx (sl.set i (some x)) rt1
theorem s_asg {i : Nat} {w : WE} : ∀ D σ H, tS K C U (wAsg i w) D σ H → tAsg (tE K C U w) (gName i) D σ H := fun D σ H ⟨Z, sl, rt, ρ, fps, G, s, w, f⟩ =>
  ⟨⟨sl, Z.ex⟩, rt, ρ, fps, G, _, s, f.xf, w, fun x rt1 fps1 G1 H1 v r1 n1 v1 w1 => f.nx _ _ _ ρ fps1 G1 H1 ((s.step r1 n1 fun _ _ e => e).set v1) n1 (Pre.refl _) w1⟩
def wNew (i : Nat) (w : WO) : WS := fun Z sl rt => w ⟨sl, Z.ex⟩ rt fun t rt1 => match t.strip with
  | .dat d => Z.nx (sl.set i (some (.dat d))) rt1
  | _ => Z.nx (sl.set i (some (.ref rt1.length []))) (rt1 ++ [t])
theorem RSt.app (s : RSt K C rt ρ fps G H) {t : T} {a : Addr} {fp : List Addr} (o : Own K C fps G H t (.ref a) fp) : RSt K C (rt ++ [t]) (ρ ++ [a]) (fps ++ [fp]) G H where
  sub := s.sub
  root := Rts.app o.tr s.root
  nd := by
    rw [List.flatten_append]
    simp only [List.flatten_cons, List.flatten_nil, List.append_nil]
    exact List.nodup_append.mpr ⟨s.nd, o.nd, fun x hx y hy z => o.ap y hy (by rw [← z]; exact hx)⟩
  fr := fun x hx => by
    rw [List.flatten_append] at hx
    simp only [List.flatten_cons, List.flatten_nil, List.append_nil] at hx
    rcases List.mem_append.mp hx with z | z
    · exact s.fr x z
    · exact o.fr x z
theorem St.new (s : St K C sl rt σ ρ fps G H) {i : Nat} {t : T} {v : V} {fp : List Addr} (o : Own K C fps G H t v fp) (n : ∀ d, t.strip ≠ .dat d) : ∃ a, v = .ref a ∧ St K C (sl.set i (some (.ref rt.length []))) (rt ++ [t]) (σ.set i (some v)) (ρ ++ [a]) (fps ++ [fp]) G H := by
  obtain ⟨a, rfl, hn⟩ := o.tr.nodeV n
  refine ⟨a, rfl, ?_⟩
  have r := s.toRSt.app o
  have s2 : St K C sl (rt ++ [t]) σ (ρ ++ [a]) (fps ++ [fp]) G H := s.step r (Nx.refl fps.flatten G H) (Pre.app ρ [a])
  refine s2.set ⟨a, ?_, rfl, ⟨a, rfl, hn⟩⟩
  rw [← (s.root.lens).1]
  simp
theorem new_flat {fp : List Addr} (n : Nx fps.flatten G H G' H' fps'.flatten) (new : ∀ a ∈ fp, a ∈ fps.flatten ∨ H a = none) : Nx fps.flatten G H G' H' (fps' ++ [fp]).flatten := ⟨n.g, n.keep, n.dom, fun l hl => by
    rw [List.flatten_append] at hl
    simp only [List.flatten_cons, List.flatten_nil, List.append_nil] at hl
    rcases List.mem_append.mp hl with z | z
    · exact n.new l z
    · exact new l z, n.idn⟩
theorem s_new {i : Nat} {w : WO} : ∀ D σ H, tS K C U (wNew i w) D σ H → tAsg (tO K C U w) (gName i) D σ H := fun D σ H ⟨Z, sl, rt, ρ, fps, G, s, w, f⟩ =>
  ⟨⟨sl, Z.ex⟩, rt, ρ, fps, G, _, s, f.xf, w, fun t rt1 fps1 fp G1 H1 v r1 n1 o1 new w1 => by
    have s1 := s.step r1 n1 fun _ _ e => e
    cases q : t.strip with
    | dat d =>
      rw [q] at w1
      have z := o1.tr.strip
      rw [q] at z
      cases z with
      | dat h => exact f.nx _ _ _ ρ fps1 G1 H1 (s1.set (x := .dat d) h) n1 (Pre.refl _) w1
    | lst ts =>
      rw [q] at w1
      obtain ⟨a, rfl, s2⟩ := s1.new (i := i) o1 (by rw [q]; intro d z; cases z)
      exact f.nx _ _ _ _ _ G1 H1 s2 (new_flat n1 new) (Pre.app ρ [a]) w1
    | obj c ts =>
      rw [q] at w1
      obtain ⟨a, rfl, s2⟩ := s1.new (i := i) o1 (by rw [q]; intro d z; cases z)
      exact f.nx _ _ _ _ _ G1 H1 s2 (new_flat n1 new) (Pre.app ρ [a]) w1
    | dct ks ts =>
      rw [q] at w1
      obtain ⟨a, rfl, s2⟩ := s1.new (i := i) o1 (by rw [q]; intro d z; cases z)
      exact f.nx _ _ _ _ _ G1 H1 s2 (new_flat n1 new) (Pre.app ρ [a]) w1
    | nm a t' => exact absurd q (T.strip_nm t)⟩
theorem ws_asg {i : Nat} {w : WE} (h : PS X st (tAsg (tE K C U w) (gName i))) : PS X st (tS K C U (wAsg i w)) := ps_imp h s_asg
theorem ws_new {i : Nat} {w : WO} (h : PS X st (tAsg (tO K C U w) (gName i))) : PS X st (tS K C U (wNew i w)) := ps_imp h s_new
/-- names bound by a target -/
abbrev Tg := D → Slots → (Slots → Prop) → Prop
def TgOk (K : PySem.W.Frag) (C : Cs) (g : TG) (tg : Tg) : Prop := ∀ d v sl rt σ ρ fps G H (k : Slots → Prop) (Q : L2.St → Hp → Prop), St K C sl rt σ ρ fps G H → DR K C G v d → tg d sl k → (∀ sl2 σ2, k sl2 → St K C sl2 rt σ2 ρ fps G H → Q σ2 H) → g v σ H Q
def tgName (j : Nat) : Tg := fun d sl k => k (sl.set j (some (.dat d)))
theorem tg_name {j : Nat} : TgOk K C (gName j) (tgName j) := fun d v sl rt σ ρ fps G H k Q s h w q => q _ _ w (s.set (x := .dat d) h)
def setAll : List Nat → List D → Slots → Slots
  | j :: js, d :: ds, sl => setAll js ds (sl.set j (some (.dat d)))
  | _, _, sl => sl
def gAll : List Nat → TGs
  | [] => gNil
  | j :: js => gCons (gName j) (gAll js)
theorem gall : ∀ {js : List Nat} {ds : List D} {vs : List V} {sl : Slots} {σ : L2.St} {Q : L2.St → Hp → Prop}, St K C sl rt σ ρ fps G H → DRs K C G vs ds → ds.length = js.length → (∀ σ2, St K C (setAll js ds sl) rt σ2 ρ fps G H → Q σ2 H) → gAll js vs σ H Q
  | [], [], _, sl, σ, Q, s, .nil, _, q => ⟨rfl, q σ s⟩
  | j :: js, d :: ds, _, sl, σ, Q, s, .cons h r, e, q => ⟨_, _, rfl, gall (s.set (x := .dat d) h) r (by simpa using e) q⟩
  | [], _ :: _, _, _, _, _, _, _, e, _ => by cases e
  | _ :: _, [], _, _, _, _, _, _, e, _ => by cases e
def tgTup (js : List Nat) : Tg := fun d sl k => match d with
  | .tup ds => ds.length = js.length ∧ k (setAll js ds sl)
  | .tpx ds => ds.length = js.length ∧ k (setAll js ds sl)
  | _ => False
theorem tg_tup {js : List Nat} {n : Nat} (hn : n = js.length) : TgOk K C (gTup K n (gAll js)) (tgTup js) := fun d v sl rt σ ρ fps G H k Q s h w q => by
  unfold tgTup at w
  split at w
  · cases h with
    | tup h2 r => exact ⟨_, _, rfl, ex_t s.sub h2, by rw [r.len, w.1, hn], gall s r w.1 fun σ2 s2 => q _ σ2 w.2 s2⟩
  · cases h with
    | tpx h2 _ r => exact ⟨_, _, rfl, ex_t s.sub (.inl (.inr ⟨_, h2⟩)), by rw [r.len, w.1, hn], gall s r w.1 fun σ2 s2 => q _ σ2 w.2 s2⟩
  · exact w.elim
def wAsgT (tg : Tg) (w : WE) : WS := fun Z sl rt => w ⟨sl, Z.ex⟩ rt fun x rt1 => match x with
  | .dat d => tg d sl fun sl2 => Z.nx sl2 rt1
  | _ => False
theorem s_asgT {g : TG} {tg : Tg} {w : WE} (hg : TgOk K C g tg) : ∀ D σ H, tS K C U (wAsgT tg w) D σ H → tAsg (tE K C U w) g D σ H := fun D σ H ⟨Z, sl, rt, ρ, fps, G, s, w, f⟩ =>
  ⟨⟨sl, Z.ex⟩, rt, ρ, fps, G, _, s, f.xf, w, fun x rt1 fps1 G1 H1 v r1 n1 v1 w1 => by
    cases x with
    | dat d => exact hg d v sl rt1 σ ρ fps1 G1 H1 _ _ (s.step r1 n1 fun _ _ e => e) v1 w1 fun sl2 σ2 h s2 => f.nx sl2 rt1 σ2 ρ fps1 G1 H1 s2 n1 (Pre.refl _) h
    | ref _ _ => exact w1.elim⟩
theorem ws_asgT {g : TG} {tg : Tg} {w : WE} (hg : TgOk K C g tg) (h : PS X st (tAsg (tE K C U w) g)) : PS X st (tS K C U (wAsgT tg w)) := ps_imp h (s_asgT hg)

/-! ### ends -/
def wRet (w : WE) : WS := fun Z sl rt => w ⟨sl, Z.ex⟩ rt fun x rt1 => Z.rt x rt1
def wRetO (w : WO) : WS := fun Z sl rt => w ⟨sl, Z.ex⟩ rt fun t rt1 => Z.ro t rt1
theorem ws_ret {w : WE} (h : PE X e (tE K C U w)) : PS X (.Return (some e) pos) (tS K C U (wRet w)) := ps_imp (ps_ret h) fun D σ H ⟨Z, sl, rt, ρ, fps, G, s, w, f⟩ =>
  ⟨⟨sl, Z.ex⟩, rt, ρ, fps, G, _, s, f.xf, w, fun x rt1 fps1 G1 H1 v r1 n1 v1 w1 => f.rt x rt1 ρ fps1 G1 H1 v r1 n1 (Pre.refl _) v1 w1⟩
theorem ws_retO {w : WO} (h : PE X e (tO K C U w)) : PS X (.Return (some e) pos) (tS K C U (wRetO w)) := ps_imp (ps_ret h) fun D σ H ⟨Z, sl, rt, ρ, fps, G, s, w, f⟩ =>
  ⟨⟨sl, Z.ex⟩, rt, ρ, fps, G, _, s, f.xf, w, fun t rt1 fps1 fp G1 H1 v r1 n1 o1 new w1 => f.ro t rt1 ρ fps1 fp G1 H1 v r1 n1 (Pre.refl _) o1 new w1⟩
def wRetN : WS := fun Z sl rt => Z.rt (.dat .non) rt
theorem ws_retN : PS X (.Return none pos) (tS K C U wRetN) := ps_imp ps_retN fun D σ H ⟨Z, sl, rt, ρ, fps, G, s, w, f⟩ => f.rt (.dat .non) rt ρ fps G H .non s.toRSt (Nx.refl _ _ _) (Pre.refl _) .non w
def wDrop (w : WE) : WS := fun Z sl rt => w ⟨sl, Z.ex⟩ rt fun _ rt1 => Z.nx sl rt1
theorem ws_expr {w : WE} (h : PE X e (tE K C U w)) (hs : swapsWith e none pos.line X.env = pure false := by rfl) : PS X (.Expr e pos) (tS K C U (wDrop w)) := ps_imp (ps_expr h hs) fun D σ H ⟨Z, sl, rt, ρ, fps, G, s, w, f⟩ =>
  ⟨⟨sl, Z.ex⟩, rt, ρ, fps, G, _, s, f.xf, w, fun x rt1 fps1 G1 H1 v r1 n1 v1 w1 => f.nx sl rt1 σ ρ fps1 G1 H1 (s.step r1 n1 fun _ _ e => e) n1 (Pre.refl _) w1⟩
def wIf (c : WT) (u v : WS) : WS := fun Z sl rt => c ⟨sl, Z.ex⟩ rt fun b rt1 => (b = true → u Z sl rt1) ∧ (b = false → v Z sl rt1)
theorem ws_if {cnd : Expr} {sa sb : List Stmt} {tc : WT} {u v : WS} (hc : PT X cnd (tT K C U tc)) (ha : PSs X sa (tS K C U u)) (hb : PSs X sb (tS K C U v)) : PS X (.If cnd sa sb pos) (tS K C U (wIf tc u v)) := ps_imp (ps_if hc ha hb) fun D σ H ⟨Z, sl, rt, ρ, fps, G, s, w, f⟩ =>
  ⟨⟨sl, Z.ex⟩, rt, ρ, fps, G, _, s, f.xf, w, fun b rt1 fps1 G1 H1 r1 n1 w1 => by
    have s1 := s.step r1 n1 fun _ _ e => e
    cases b with
    | true => exact ⟨Z, sl, rt1, ρ, fps1, G1, s1, w1.1 rfl, f.later n1 (Pre.refl _)⟩
    | false => exact ⟨Z, sl, rt1, ρ, fps1, G1, s1, w1.2 rfl, f.later n1 (Pre.refl _)⟩⟩
def wAug (i : Nat) (g : Int → Int → Int) (w : WE) : WS := fun Z sl rt => match sl[i]? with
  | some (some (.dat (.int m))) => w ⟨sl, Z.ex⟩ rt fun y rt1 => match y with
    | .dat (.int n) => Z.nx (sl.set i (some (.dat (.int (g m n))))) rt1
    | _ => False
  | _ => False
theorem s_aug {i : Nat} {g : Int → Int → Int} {w : WE} : ∀ D σ H, tS K C U (wAug i g w) D σ H → tAug i (tE K C U w) (ipI g) D σ H := fun D σ H ⟨Z, sl, rt, ρ, fps, G, s, w, f⟩ => by
  unfold wAug at w
  split at w
  · rename_i m e
    obtain ⟨v, h1, h2⟩ := s.slot i _ e
    cases h2
    refine ⟨_, h1, ⟨sl, Z.ex⟩, rt, ρ, fps, G, _, s, f.xf, w, fun y rt1 fps1 G1 H1 u r1 n1 v1 w1 => ?_⟩
    split at w1
    · cases v1
      exact ⟨m, _, rfl, rfl, f.nx _ _ _ ρ fps1 G1 H1 ((s.step r1 n1 fun _ _ e => e).set (x := .dat (.int _)) (DR.int _)) n1 (Pre.refl _) w1⟩
    · exact w1.elim
  · exact w.elim
theorem ws_aug {i : Nat} {g : Int → Int → Int} {w : WE} (h : PS X st (tAug i (tE K C U w) (ipI g))) : PS X st (tS K C U (wAug i g w)) := ps_imp h s_aug

/-! ### writing into what is owned -/
theorem idn_lst {b : Addr} {xs xs' : List V} (hb : H b = some (.lst xs)) (k : ∀ (i : Nat) x, xs[i]? = some x → NodeV H x → xs'[i]? = some x) : Idn H (upd H b (.lst xs')) := by
  refine Idn.of (fun w hw => ?_) (fun a i w hw hn => ?_)
  · obtain ⟨a, rfl, h⟩ := hw
    refine ⟨a, rfl, ?_⟩
    by_cases z : a = b
    · exact .inl ⟨xs', by rw [z, upd_same]⟩
    · rw [upd_ne z]
      exact h
  · obtain ⟨v, h, rfl⟩ := hw
    by_cases z : a = b
    · subst z
      have h' : (match H a with | some (.lst xs) => (xs[i]?).bind (fol H []) | some (.ins _ _ fs) => ((fs.map Prod.snd)[i]?).bind (fol H []) | some (.dK kvs) => ((kvs.map Prod.snd)[i]?).bind (fol H []) | _ => none) = some v := h
      rw [hb] at h'
      have h2 : (xs[i]?).bind (fol H []) = some v := h'
      show (match upd H a (.lst xs') a with | some (.lst xs) => (xs[i]?).bind (fol (upd H a (.lst xs')) []) | some (.ins _ _ fs) => ((fs.map Prod.snd)[i]?).bind (fol (upd H a (.lst xs')) []) | some (.dK kvs) => ((kvs.map Prod.snd)[i]?).bind (fol (upd H a (.lst xs')) []) | _ => none) = some v
      rw [upd_same]
      show (xs'[i]?).bind (fol (upd H a (.lst xs')) []) = some v
      cases q : xs[i]? with
      | none => rw [q] at h2; cases h2
      | some y =>
        rw [q] at h2
        cases Option.some.inj h2
        rw [k i v q hn]
        rfl
    · show (match upd H b (.lst xs') a with | some (.lst xs) => (xs[i]?).bind (fol (upd H b (.lst xs')) []) | some (.ins _ _ fs) => ((fs.map Prod.snd)[i]?).bind (fol (upd H b (.lst xs')) []) | some (.dK kvs) => ((kvs.map Prod.snd)[i]?).bind (fol (upd H b (.lst xs')) []) | _ => none) = some v
      rw [upd_ne z]
      exact h
/-- another content at a place -/
theorem RSt.write (s : RSt K C rt ρ fps G H) {r : Nat} {p : List Nat} {t t' : T} {a b : Addr} {o : HO} {fn : List Addr} (h : tat rt r p = some t) (ha : ρ[r]? = some a) (hf : fol H p (.ref a) = some (.ref b)) (nt : ∀ d, t ≠ .dat d)
    (idn : Idn H (upd H b o)) (hn : ∀ fu, TR K C G H (.ref b) t fu → b ∈ fu ∧ (fu.Nodup → (∀ x ∈ fn, x ∉ fu) → ∃ fu', TR K C G (upd H b o) (.ref b) t' fu' ∧ fu'.Perm (fu ++ fn)))
    (nd : fn.Nodup) (ap : ∀ x ∈ fn, x ∉ fps.flatten) (fr : ∀ x ∈ fn, G x = none) : ∃ fps', RSt K C (rt.modify r (T.put t' p)) ρ fps' G (upd H b o) ∧ (∀ x ∈ fps'.flatten, x ∈ fps.flatten ∨ x ∈ fn) ∧ b ∈ fps.flatten := by
  obtain ⟨w, L, fu, R, k1, k2, k3, k4⟩ := s.at h ha
  rw [hf] at k1
  cases k1
  obtain ⟨hb, hn⟩ := hn fu k2
  have nd0 := s.nd
  rw [k3] at nd0
  have nd1 := List.nodup_append.mp nd0
  have nd2 := List.nodup_append.mp nd1.2.1
  obtain ⟨fu', q1, q2⟩ := hn nd2.1 fun x hx z => ap x hx (by rw [k3]; simp [z])
  have hbF : b ∈ fps.flatten := by rw [k3]; simp [hb]
  obtain ⟨fps', y1, y2⟩ := k4 G (upd H b o) t' fu' (Ex.refl G) (fun x hx => upd_ne fun z => by
    subst z
    rcases List.mem_append.mp hx with y | y
    · exact nd1.2.2 x y x (by simp [hb]) rfl
    · exact nd2.2.2 x hb x y rfl) q1
  have mem : ∀ x ∈ fps'.flatten, x ∈ fps.flatten ∨ x ∈ fn := fun x hx => by
    rw [y2] at hx
    rw [k3]
    rcases List.mem_append.mp hx with y | y
    · exact .inl (by simp [y])
    · rcases List.mem_append.mp y with y | y
      · rcases List.mem_append.mp (q2.mem_iff.mp y) with y | y
        · exact .inl (by simp [y])
        · exact .inr y
      · exact .inl (by simp [y])
  refine ⟨fps', ⟨fun x u e => ?_, y1, ?_, fun x hx => ?_⟩, mem, hbF⟩
  · have : x ≠ b := fun z => by rw [z, s.fr b hbF] at e; cases e
    rw [upd_ne this]
    exact s.sub x u e
  · rw [y2]
    have pm : (L ++ (fu' ++ R)).Perm ((L ++ (fu ++ R)) ++ fn) := by
      have h1 : (fu' ++ R).Perm ((fu ++ R) ++ fn) := by
        have : (fu' ++ R).Perm ((fu ++ fn) ++ R) := List.Perm.append_right R q2
        refine this.trans ?_
        rw [List.append_assoc, List.append_assoc]
        exact List.Perm.append_left fu List.perm_append_comm
      have := List.Perm.append_left L h1
      rw [← List.append_assoc L] at this
      rw [List.append_assoc] 
      rw [List.append_assoc] at this
      exact this
    refine pm.nodup_iff.mpr ?_
    rw [← k3]
    exact List.nodup_append.mpr ⟨s.nd, nd, fun x hx y hy z => ap y hy (by rw [← z]; exact hx)⟩
  · rcases mem x hx with z | z
    · exact s.fr x z
    · exact fr x z
theorem Nx.write {b : Addr} {o : HO} {fp : List Addr} (hb : b ∈ fps.flatten) (hH : H b ≠ none) (idn : Idn H (upd H b o)) (mem : ∀ x ∈ fp, x ∈ fps.flatten ∨ x ∈ fps'.flatten) : Nx fps.flatten G H G (upd H b o) fps.flatten where
  g := Ex.refl G
  keep := fun l u h z => ⟨by rw [upd_ne fun y => z (by rw [y]; exact hb)]; exact h, fun g => g⟩
  dom := fun l h => upd_none h
  new := fun _ h => .inl h
  idn := idn
end
end Wv
end

section
set_option Elab.async false
set_option linter.all false
set_option maxRecDepth 100000
set_option maxHeartbeats 4000000
namespace Wv
open PySem PySem.Spec PyProof.Rows L2 Evl
section
variable {K : PySem.W.Frag} {C : Cs} {U : UX} {G H G' H' G1 H1 G2 H2 : Hp} {sl sl' : Slots} {rt rt' : Roots} {σ : L2.St} {ρ ρ' ρ1 : List Addr} {fps fps' fps1 : List (List Addr)}
variable {X : Cx} {a b c e : Expr} {es rest : List Expr} {wa wb wc : WE} {ta tb : WT} {pos p : Pos} {Z : WEnds} {E : Ends} {st : Stmt} {sts : List Stmt} {u z : WS}
theorem TRs.app : ∀ {ts : List T} {vs : List V} {fp : List Addr} {us : List T} {ws : List V} {fq : List Addr}, TRs K C G H vs ts fp → TRs K C G H ws us fq → TRs K C G H (vs ++ ws) (ts ++ us) (fp ++ fq)
  | _, _, _, _, _, _, .nil, h => h
  | _, _, _, _, _, _, .cons (fp := fp) (fq := fq) h r, h' => by
    rw [List.append_assoc]
    exact .cons h (TRs.app r h')
/-- xs.append(e) -/
def wApp (wx : WE) (w : WO) : WS := fun Z sl rt => wx ⟨sl, Z.ex⟩ rt fun x rt1 => match x with
  | .ref r p => match tat rt1 r p with
    | some (.lst _) => w ⟨sl, Z.ex⟩ rt1 fun t rt2 => match tat rt2 r p with
      | some (.lst ts) => ts.length < 40000 ∧ Z.nx sl (rt2.modify r (T.put (.lst (ts ++ [t])) p))
      | _ => False
    | _ => False
  | _ => False
theorem s_app {wx : WE} {w : WO} : ∀ D σ H, tS K C U (wApp wx w) D σ H → tDrop (tBM K "list" rAppend (tE K C U wx) (tCons (tO K C U w) tNil)) D σ H := fun D σ H ⟨Z, sl, rt, ρ, fps, G, s, w, f⟩ =>
  ⟨⟨sl, Z.ex⟩, rt, ρ, fps, G, _, s, f.xf, w, fun x rt1 fps1 G1 H1 v r1 n1 v1 w1 => by
    split at w1
    · rename_i r p
      split at w1
      · rename_i ts0 ht0
        obtain ⟨a, fu, k1, k2, k3, _⟩ := r1.get ht0 v1
        cases k3 with
        | @lst b xs0 _ fq0 hb0 tr0 =>
          refine ⟨.inl ⟨rfl, xs0, sq_of hb0⟩, ⟨sl, Z.ex⟩, rt1, ρ, fps1, G1, _, s.step r1 n1 fun _ _ e => e, f.xf.later n1 (Pre.refl _), w1, fun t rt2 fps2 fp G2 H2 y r2 n2 o2 new w2 => ?_⟩
          have v2 := v1.up n2 fun _ _ e => e
          split at w2
          · rename_i ts ht
            obtain ⟨a', fu, z1, z2, z3, _⟩ := r2.get ht v2
            cases z3 with
            | @lst _ xs _ fq hb tr =>
              have idn : Idn H2 (upd H2 b (.lst (xs ++ [y]))) := idn_lst hb fun i q hq _ => by
                rw [List.getElem?_append_left (List.getElem?_eq_some_iff.mp hq).1]
                exact hq
              have inH := o2.inH
              obtain ⟨fps3, r3, mem, hbF⟩ := r2.write (t' := .lst (ts ++ [t])) (fn := fp) ht z1 z2 (by intro d q; cases q) idn (fun fu hfu => by
                cases hfu with
                | @lst _ xs' _ fq' hb' tr' =>
                  rw [hb] at hb'
                  cases hb'
                  refine ⟨List.mem_cons_self, fun nd dis => ?_⟩
                  have nb := (List.nodup_cons.mp nd).1
                  refine ⟨b :: (fq' ++ (fp ++ [])), .lst upd_same (TRs.app (TRs.stay (Ex.refl _) _ _ _ tr' fun q hq => upd_ne fun z => nb (by rw [← z]; exact hq)) (.cons (TR.stay (Ex.refl _) _ _ _ o2.tr fun q hq => upd_ne fun z => dis q hq (by rw [z]; exact List.mem_cons_self)) .nil)), ?_⟩
                  rw [List.append_nil]
                  exact List.Perm.refl _) o2.nd o2.ap o2.fr
              refine ⟨b, xs, y, rfl, rfl, hb, sz_lt (by rw [TRs.len tr]; omega), ?_⟩
              have nW : Nx fps2.flatten G2 H2 G2 (upd H2 b (.lst (xs ++ [y]))) fps2.flatten := Nx.write (fps' := fps2) hbF (by rw [hb]; exact fun q => nomatch q) idn (fp := []) (fun _ q => nomatch q)
              have n3 := (n1.trans n2).trans nW
              have n4 : Nx fps.flatten G H G2 (upd H2 b (.lst (xs ++ [y]))) fps3.flatten := ⟨n3.g, n3.keep, n3.dom, fun l hl => by
                rcases mem l hl with q | q
                · exact n3.new l q
                · exact (new l q).elim (fun y => n1.new l y) fun y => .inr (n1.dom l y), n3.idn⟩
              exact f.nx sl _ σ ρ fps3 G2 _ (s.step r3 n4 fun _ _ e => e) n4 (Pre.refl _) w2.2
          · exact w2.elim
      · exact w1.elim
    · exact w1.elim⟩
theorem ws_app {wx : WE} {w : WO} (h : PS X st (tDrop (tBM K "list" rAppend (tE K C U wx) (tCons (tO K C U w) tNil)))) : PS X st (tS K C U (wApp wx w)) := ps_imp h s_app
/-- what may be overwritten -/
def leafT : T → Bool
  | .dat .non => true
  | .dat (.bool _) => true
  | .dat (.int _) => true
  | .dat (.str _) => true
  | .dat (.fzl _) => true
  | _ => false
theorem leaf_ok {t : T} {v : V} {fu : List Addr} (h : leafT t = true) (r : TR K C G H v t fu) : (∃ d, t = .dat d) ∧ fu = [] ∧ ∀ H', Ex G H' → ¬ NodeV H' v := by
  unfold leafT at h
  split at h
  all_goals first
    | (cases r with
       | dat q =>
         cases q with
         | fzl hG _ =>
           refine ⟨⟨_, rfl⟩, rfl, fun H' e n => ?_⟩
           obtain ⟨a, z, n⟩ := n
           cases z
           rw [e _ _ hG] at n
           rcases n with ⟨_, n⟩ | ⟨_, _, _, n⟩ | ⟨_, n⟩ <;> cases n)
    | (cases r with
       | dat q =>
         cases q
         exact ⟨⟨_, rfl⟩, rfl, fun _ _ ⟨a, z, _⟩ => nomatch z⟩)
    | cases h
theorem TRs.set : ∀ {ts : List T} {vs : List V} {fp : List Addr} {j : Nat} {t : T} {v : V} {d : D}, TRs K C G H vs ts fp → ts[j]? = some t → leafT t = true → DR K C G v d → TRs K C G H (vs.set j v) (ts.set j (.dat d)) fp
  | _, _, _, _, _, _, _, .nil, e, _, _ => by simp at e
  | _, _, _, 0, _, _, _, .cons (fp := fp) (fq := fq) h r, e, l, d => by
    cases Option.some.inj e
    obtain ⟨_, hf, _⟩ := leaf_ok l h
    subst hf
    exact TRs.cons (fp := []) (.dat d) r
  | _, _, _, j + 1, _, _, _, .cons h r, e, l, d => .cons h (TRs.set (j := j) r e l d)
/-- xs[i] = e -/
def wSetI (w : WE) (wx wi : WE) : WS := fun Z sl rt => w ⟨sl, Z.ex⟩ rt fun y rt1 => wx ⟨sl, Z.ex⟩ rt1 fun x rt2 => wi ⟨sl, Z.ex⟩ rt2 fun n rt3 => match y with
  | .dat d => match x, n with
    | .ref r p, .dat (.int n) => match tat rt3 r p with
      | some (.lst ts) => ∃ j u, ixN ts.length n = some j ∧ ts[j]? = some u ∧ leafT u = true ∧ Z.nx sl (rt3.modify r (T.put (.lst (ts.set j (.dat d))) p))
      | _ => False
    | _, _ => False
  | _ => False
theorem s_setI {w wx wi : WE} : ∀ D σ H, tS K C U (wSetI w wx wi) D σ H → tAsg (tE K C U w) (gSub (tE K C U wx) (tE K C U wi) rSetL) D σ H := fun D σ H ⟨Z, sl, rt, ρ, fps, G, s, w, f⟩ =>
  ⟨⟨sl, Z.ex⟩, rt, ρ, fps, G, _, s, f.xf, w, fun y rt1 fps1 G1 H1 vy r1 n1 v1 w1 => ⟨⟨sl, Z.ex⟩, rt1, ρ, fps1, G1, _, s.step r1 n1 fun _ _ e => e, f.xf.later n1 (Pre.refl _), w1, fun x rt2 fps2 G2 H2 vx r2 n2 v2 w2 =>
    ⟨⟨sl, Z.ex⟩, rt2, ρ, fps2, G2, _, s.step r2 (n1.trans n2) fun _ _ e => e, f.xf.later (n1.trans n2) (Pre.refl _), w2, fun n rt3 fps3 G3 H3 vn r3 n3 v3 w3 => by
      split at w3
      · rename_i d
        split at w3
        · rename_i r p n
          split at w3
          · rename_i ts ht
            obtain ⟨j, u, hj, hu, hl, w3⟩ := w3
            have v2 := v2.up n3 fun _ _ e => e
            have v1 : DR K C G3 vy d := DR.up (n2.trans n3).g d vy v1
            cases v3
            obtain ⟨a, fu, z1, z2, z3, _⟩ := r3.get ht v2
            cases z3 with
            | @lst b xs _ fq hb tr =>
              obtain ⟨vo, fo, q1, q2, _⟩ := tr.get hu
              have idn : Idn H3 (upd H3 b (.lst (xs.set j vy))) := idn_lst hb fun i q hq nq => by
                by_cases z : j = i
                · subst z
                  rw [q1] at hq
                  cases hq
                  exact absurd nq ((leaf_ok hl q2).2.2 _ r3.sub)
                · rw [List.getElem?_set_ne z]
                  exact hq
              obtain ⟨fps4, r4, mem, hbF⟩ := r3.write (t' := .lst (ts.set j (.dat d))) (fn := []) ht z1 z2 (by intro d q; cases q) idn (fun fu hfu => by
                cases hfu with
                | @lst _ xs' _ fq' hb' tr' =>
                  rw [hb] at hb'
                  cases hb'
                  refine ⟨List.mem_cons_self, fun nd dis => ?_⟩
                  have nb := (List.nodup_cons.mp nd).1
                  refine ⟨b :: fq', .lst upd_same (TRs.set (TRs.stay (Ex.refl _) _ _ _ tr' fun q hq => upd_ne fun z => nb (by rw [← z]; exact hq)) hu hl v1), ?_⟩
                  rw [List.append_nil]) List.nodup_nil (fun _ q => nomatch q) (fun _ q => nomatch q)
              refine ⟨b, xs, n, j, rfl, rfl, hb, by rw [TRs.len tr]; exact hj, ?_⟩
              have nW : Nx fps3.flatten G3 H3 G3 (upd H3 b (.lst (xs.set j vy))) fps3.flatten := Nx.write (fps' := fps3) hbF (by rw [hb]; exact fun q => nomatch q) idn (fp := []) (fun _ q => nomatch q)
              have n4 := (n1.trans (n2.trans n3)).trans nW
              have n5 : Nx fps.flatten G H G3 (upd H3 b (.lst (xs.set j vy))) fps4.flatten := n4.less fun l hl => by
                rcases mem l hl with q | q
                · exact q
                · cases q
              exact f.nx sl _ σ ρ fps4 G3 _ (s.step r4 n5 fun _ _ e => e) n5 (Pre.refl _) w3
          · exact w3.elim
        · exact w3.elim
      · exact w3.elim⟩⟩⟩
theorem ws_setI {w wx wi : WE} (h : PS X st (tAsg (tE K C U w) (gSub (tE K C U wx) (tE K C U wi) rSetL))) : PS X st (tS K C U (wSetI w wx wi)) := ps_imp h s_setI

/-! ### forgetting -/
def Less (m : Nat) (sl' sl : Slots) : Prop := sl'.length = sl.length ∧ ∀ (i : Nat) x, sl'[i]? = some (some x) → sl[i]? = some (some x) ∧ ∀ r p, x = .ref r p → r < m
def Fg (n : Nat) (P : Slots → Roots → Prop) (sl : Slots) (rt : Roots) : Prop := P sl rt ∨ ∃ sl' m, n ≤ m ∧ Less m sl' sl ∧ P sl' (rt.take m)
theorem Rts.take : ∀ {rt : Roots} {ρ : List Addr} {fps : List (List Addr)} (m : Nat), Rts K C G H rt ρ fps → Rts K C G H (rt.take m) (ρ.take m) (fps.take m)
  | _, _, _, 0, _ => .nil
  | _, _, _, m + 1, .nil => .nil
  | _, _, _, m + 1, .cons h r => .cons h (Rts.take m r)
theorem flat_take (m : Nat) : ∀ a ∈ (fps.take m).flatten, a ∈ fps.flatten := fun a ha => by
  obtain ⟨l, h1, h2⟩ := List.mem_flatten.mp ha
  exact List.mem_flatten.mpr ⟨l, List.mem_of_mem_take h1, h2⟩
theorem RSt.take (s : RSt K C rt ρ fps G H) (m : Nat) : RSt K C (rt.take m) (ρ.take m) (fps.take m) G H :=
  ⟨s.sub, s.root.take m, by
    have h := s.nd
    rw [← List.take_append_drop m fps, List.flatten_append] at h
    exact (List.nodup_append.mp h).1, fun a ha => s.fr a (flat_take m a ha)⟩
theorem St.take (s : St K C sl rt σ ρ fps G H) {m : Nat} (l : Less m sl' sl) : St K C sl' (rt.take m) σ (ρ.take m) (fps.take m) G H where
  toRSt := s.toRSt.take m
  len := s.len.trans l.1.symm
  slot := fun i x e => by
    obtain ⟨h1, h2⟩ := l.2 i x e
    obtain ⟨v, k1, k2⟩ := s.slot i x h1
    refine ⟨v, k1, ?_⟩
    cases x with
    | dat d => exact k2
    | ref r p =>
      obtain ⟨a, q1, q2, q3⟩ := k2
      refine ⟨a, ?_, q2, q3⟩
      rw [List.getElem?_take_of_lt (h2 r p rfl)]
      exact q1
theorem Fg.back {n : Nat} {P : Slots → Roots → Prop} (h : Fg n P sl rt') (s : St K C sl rt' σ ρ' fps' G' H') (nx : Nx fps.flatten G H G' H' fps'.flatten) (pr : Pre ρ ρ') (hn : ρ.length ≤ n) : ∃ sl2 rt2 ρ2 fps2, St K C sl2 rt2 σ ρ2 fps2 G' H' ∧ Nx fps.flatten G H G' H' fps2.flatten ∧ Pre ρ ρ2 ∧ P sl2 rt2 := by
  rcases h with h | ⟨sl2, m, hm, l, h⟩
  · exact ⟨sl, rt', ρ', fps', s, nx, pr, h⟩
  · refine ⟨sl2, _, _, _, s.take l, nx.less (flat_take m), fun i a e => ?_, h⟩
    have hi : i < ρ.length := (List.getElem?_eq_some_iff.mp e).1
    rw [List.getElem?_take_of_lt (by omega)]
    exact pr i a e

/-! ### loops -/
def wWhile (c : WT) (body : WS) : WS := fun Z sl rt => ∃ I : Nat → Slots → Roots → Prop, (∃ m, I m sl rt) ∧ ∀ m sl' rt', I m sl' rt' → c ⟨sl', Z.ex⟩ rt' fun b rt1 =>
  (b = true → body { Z with nx := Fg rt.length (fun s r => ∃ m', m' < m ∧ I m' s r), ct := Fg rt.length (fun s r => ∃ m', m' < m ∧ I m' s r), bk := Z.nx } sl' rt1) ∧ (b = false → Z.nx sl' rt1)
theorem s_while {c : WT} {body : WS} : ∀ D σ H, tS K C U (wWhile c body) D σ H → tWhile (tT K C U c) (tS K C U body) D σ H := fun D σ H ⟨Z, sl, rt, ρ, fps, G, s, ⟨I, ⟨m0, i0⟩, w⟩, f⟩ => by
  have hl : ρ.length = rt.length := s.root.lens.1
  refine ⟨fun m σ' H' => ∃ sl' rt' ρ' fps' G', I m sl' rt' ∧ St K C sl' rt' σ' ρ' fps' G' H' ∧ Nx fps.flatten G H G' H' fps'.flatten ∧ Pre ρ ρ', ⟨m0, sl, rt, ρ, fps, G, i0, s, Nx.refl _ _ _, Pre.refl _⟩, fun m σ' H' ⟨sl', rt', ρ', fps', G', hi, s', n', p'⟩ => ?_⟩
  refine ⟨⟨sl', Z.ex⟩, rt', ρ', fps', G', _, s', f.xf.later n' p', w m sl' rt' hi, fun b rt1 fps1 G1 H1 r1 n1 w1 => ?_⟩
  have s1 := s'.step r1 n1 fun _ _ e => e
  cases b with
  | true =>
    refine ⟨fun σ2 H2 => ∃ sl2 rt2 ρ2 fps2 G2, (∃ m', m' < m ∧ I m' sl2 rt2) ∧ St K C sl2 rt2 σ2 ρ2 fps2 G2 H2 ∧ Nx fps.flatten G H G2 H2 fps2.flatten ∧ Pre ρ ρ2, fun σ2 H2 ⟨sl2, rt2, ρ2, fps2, G2, ⟨m', h1, h2⟩, q⟩ => ⟨m', h1, sl2, rt2, ρ2, fps2, G2, h2, q⟩, ?_⟩
    refine ⟨_, sl', rt1, ρ', fps1, G1, s1, w1.1 rfl, ⟨?_, ?_, ?_, ?_, ?_, f.xf.later (n'.trans n1) p'⟩⟩
    · intro sl2 rt2 σ2 ρ2 fps2 G2 H2 s2 n2 p2 h
      have h : Fg rt.length (fun s r => ∃ m', m' < m ∧ I m' s r) sl2 rt2 := h
      obtain ⟨sl3, rt3, ρ3, fps3, s3, n3, p3, h3⟩ := Fg.back (ρ := ρ) (n := rt.length) h s2 ((n'.trans n1).trans n2) (p'.trans p2) (by omega)
      exact ⟨sl3, rt3, ρ3, fps3, G2, h3, s3, n3, p3⟩
    · exact (f.later (n'.trans n1) p').rt
    · exact (f.later (n'.trans n1) p').ro
    · exact (f.later (n'.trans n1) p').nx
    · intro sl2 rt2 σ2 ρ2 fps2 G2 H2 s2 n2 p2 h
      have h : Fg rt.length (fun s r => ∃ m', m' < m ∧ I m' s r) sl2 rt2 := h
      obtain ⟨sl3, rt3, ρ3, fps3, s3, n3, p3, h3⟩ := Fg.back (ρ := ρ) (n := rt.length) h s2 ((n'.trans n1).trans n2) (p'.trans p2) (by omega)
      exact ⟨sl3, rt3, ρ3, fps3, G2, h3, s3, n3, p3⟩
  | false => exact f.nx sl' rt1 σ' ρ' fps1 G1 H1 s1 (n'.trans n1) p' (w1.2 rfl)
theorem ws_while {cnd : Expr} {body : List Stmt} {tc : WT} {wb : WS} (hp : PassesOwn (model X.prog X.w) X.A X.env X.xe) (hc : PT X cnd (tT K C U tc)) (hb : PSs X body (tS K C U wb)) : PS X (.While cnd body [] pos) (tS K C U (wWhile tc wb)) := ps_imp (ps_while hp hc hb) s_while

/-! ### what is walked -/
abbrev WI := Cxt → Roots → (List D → Roots → Prop) → Prop
/-- the turn's value bears its datum; perhaps in a new tuple -/
def YD (K : PySem.W.Frag) (C : Cs) (G : Hp) (d : D) (H2 : Hp) (v : V) (H3 : Hp) : Prop := (H3 = H2 ∧ DR K C G v d) ∨ ∃ p xs ds, H2 p = none ∧ H3 = upd H2 p (.tup xs) ∧ v = .ref p ∧ d = .tup ds ∧ DRs K C G xs ds
variable (K C)
variable (U)
def tI (w : WI) : TI := fun σ H R => ∃ sl rt ρ fps G k, St K C sl.sl rt σ ρ fps G H ∧ Xf K C U ρ fps G H sl.ex ∧ w sl rt k ∧ ∀ ds rt' fps' G' H' J, RSt K C rt' ρ fps' G' H' → Nx fps.flatten G H G' H' fps'.flatten →
  (∃ Gd Y, Walk J ds.length Gd Y ∧ (∀ H2, Ex G' H2 → Gd H2) ∧ ∀ i d H2 v H3, ds[i]? = some d → Ex G' H2 → Y i H2 v H3 → YD K C G' d H2 v H3) → k ds rt' → R J H'
variable {K C}
variable {U}
theorem pi_imp {tg it : Expr} {t t' : TI} (h : PI X tg it t) (i : ∀ σ H Q, t' σ H Q → t σ H Q) : PI X tg it t' := ⟨fun pins s σ H R I q => h.run pins s σ H R I (i σ H R q)⟩
/-- range(n), range(a, b) -/
def wRng1 (w : WA) : WI := fun sl rt k => w sl rt fun xs rt1 => match xs with
  | [.dat (.int n)] => n ≤ 100000 ∧ -100000 ≤ n ∧ k ((List.range n.toNat).map fun i => .int (i : Nat)) rt1
  | _ => False
def wRng2 (w : WA) : WI := fun sl rt k => w sl rt fun xs rt1 => match xs with
  | [.dat (.int a), .dat (.int b)] => (-100000000 ≤ a ∧ a ≤ 100000000) ∧ (-100000000 ≤ b ∧ b ≤ 100000000) ∧ k ((List.range (b - a).toNat).map fun i => .int (a + (i : Nat))) rt1
  | _ => False
theorem i_rng1 {w : WA} : ∀ σ H Q, tI K C U (wRng1 w) σ H Q → iRng1 (tA K C U w) σ H Q := fun σ H Q ⟨sl, rt, ρ, fps, G, k, s, xf, w, q⟩ =>
  ⟨sl, rt, ρ, fps, G, _, s, xf, w, fun xs rt1 fps1 G1 H1 vs r1 n1 v1 w1 => by
    split at w1
    · cases v1 with
      | cons h r =>
        cases r
        cases h
        rename_i n
        refine ⟨n, rfl, by omega, by omega, q _ rt1 fps1 G1 H1 _ r1 n1 ⟨fun _ => True, YFn fun i => .int ((0 : Int) + (i : Nat)), ?_, fun _ _ => trivial, fun i d H2 v H3 hd _ y => ?_⟩ w1.2.2⟩
        · rw [List.length_map, List.length_range]
          exact walk_range
        · obtain ⟨y1, y2⟩ := y
          rw [List.getElem?_map] at hd
          by_cases hi : i < n.toNat
          · rw [List.getElem?_range hi] at hd
            cases hd
            subst y2
            refine .inl ⟨y1, ?_⟩
            have : (0 : Int) + (i : Nat) = (i : Nat) := Int.zero_add _
            show DR K C G1 (.int ((0 : Int) + (i : Nat))) (.int (i : Nat))
            rw [this]
            exact .int _
          · rw [List.getElem?_eq_none (by rw [List.length_range]; omega)] at hd
            cases hd
    · exact w1.elim⟩
theorem i_rng2 {w : WA} : ∀ σ H Q, tI K C U (wRng2 w) σ H Q → iRng2 (tA K C U w) σ H Q := fun σ H Q ⟨sl, rt, ρ, fps, G, k, s, xf, w, q⟩ =>
  ⟨sl, rt, ρ, fps, G, _, s, xf, w, fun xs rt1 fps1 G1 H1 vs r1 n1 v1 w1 => by
    split at w1
    · rename_i a b
      cases v1 with
      | cons h r =>
        cases r with
        | cons h2 r =>
        cases r
        cases h
        cases h2
        refine ⟨a, b, rfl, by omega, q _ rt1 fps1 G1 H1 _ r1 n1 ⟨fun _ => True, YFn fun i => .int (a + (i : Nat)), ?_, fun _ _ => trivial, fun i d H2 v H3 hd _ y => ?_⟩ w1.2.2⟩
        · rw [List.length_map, List.length_range]
          exact walk_range
        · obtain ⟨y1, y2⟩ := y
          rw [List.getElem?_map] at hd
          by_cases hi : i < (b - a).toNat
          · rw [List.getElem?_range hi] at hd
            cases hd
            subst y2
            exact .inl ⟨y1, .int _⟩
          · rw [List.getElem?_eq_none (by rw [List.length_range]; omega)] at hd
            cases hd
    · exact w1.elim⟩
theorem wi_rng1 {tg e : Expr} {w : WA} (h : PI X tg e (iRng1 (tA K C U w))) : PI X tg e (tI K C U (wRng1 w)) := pi_imp h i_rng1
theorem wi_rng2 {tg e : Expr} {w : WA} (h : PI X tg e (iRng2 (tA K C U w))) : PI X tg e (tI K C U (wRng2 w)) := pi_imp h i_rng2
/-- a list, a tuple, of data -/
def wItL (w : WE) : WI := fun sl rt k => w sl rt fun x rt1 => match x with
  | .dat (.lst ds) => k ds rt1
  | .dat (.ro ds) => k ds rt1
  | _ => False
def wItT (w : WE) : WI := fun sl rt k => w sl rt fun x rt1 => match x with
  | .dat (.tup ds) => k ds rt1
  | _ => False
theorem i_lst {w : WE} : ∀ σ H Q, tI K C U (wItL w) σ H Q → iList K (tE K C U w) σ H Q := fun σ H Q ⟨sl, rt, ρ, fps, G, k, s, xf, w, q⟩ =>
  ⟨sl, rt, ρ, fps, G, _, s, xf, w, fun x rt1 fps1 G1 H1 v r1 n1 v1 w1 => by
    have main : ∀ a xs ds, SqL K G1 a xs → DRs K C G1 xs ds → k ds rt1 → v = .ref a → ∃ a, v = .ref a ∧ (∃ xs, SqL K H1 a xs) ∧ Q (Itl K a) H1 := fun a xs ds h2 r hk e => by
      refine ⟨a, e, ⟨xs, ex_l r1.sub h2⟩, q ds rt1 fps1 G1 H1 _ r1 n1 ⟨fun H => SqL K H a xs, YAt xs, by rw [← r.len]; exact walk_list, fun H2 e2 => ex_l e2 h2, fun i d H2 v H3 hd _ y => ?_⟩ hk⟩
      obtain ⟨y1, y2⟩ := y
      obtain ⟨w, h3, h4⟩ := r.get hd
      rw [h3] at y2
      cases y2
      exact .inl ⟨y1, h4⟩
    split at w1
    · cases v1 with
      | lst h r => exact main _ _ _ (sq_of h) r w1 rfl
    · cases v1 with
      | ro h r => exact main _ _ _ h r w1 rfl
    · exact w1.elim⟩
theorem i_tup {w : WE} : ∀ σ H Q, tI K C U (wItT w) σ H Q → iTup K (tE K C U w) σ H Q := fun σ H Q ⟨sl, rt, ρ, fps, G, k, s, xf, w, q⟩ =>
  ⟨sl, rt, ρ, fps, G, _, s, xf, w, fun x rt1 fps1 G1 H1 v r1 n1 v1 w1 => by
    split at w1
    · cases v1 with
      | @tup a xs _ h2 r =>
        refine ⟨_, rfl, ⟨_, ex_t r1.sub h2⟩, q _ rt1 fps1 G1 H1 _ r1 n1 ⟨fun H => SqT K H a xs, YAt xs, by rw [← r.len]; exact walk_tup, fun H2 e2 => ex_t e2 h2, fun i d H2 v H3 hd _ y => ?_⟩ w1⟩
        obtain ⟨y1, y2⟩ := y
        obtain ⟨w, h3, h4⟩ := r.get hd
        rw [h3] at y2
        cases y2
        exact .inl ⟨y1, h4⟩
    · exact w1.elim⟩
theorem wi_list {tg e : Expr} {w : WE} (h : PE X e (tE X.K C U w)) : PI X tg e (tI X.K C U (wItL w)) := pi_imp (pi_list h) i_lst
theorem wi_tup {tg e : Expr} {w : WE} (h : PE X e (tE X.K C U w)) : PI X tg e (tI X.K C U (wItT w)) := pi_imp (pi_tup h) i_tup
/-- a turn's value: as data of a larger heap -/
theorem YD.step {d : D} {v : V} {H3 : Hp} (y : YD K C G d H v H3) (s : St K C sl rt σ ρ fps G' H) (e : Ex G G') : ∃ G3, St K C sl rt σ ρ fps G3 H3 ∧ Nx fps.flatten G' H G3 H3 fps.flatten ∧ DR K C G3 v d := by
  rcases y with ⟨rfl, h⟩ | ⟨p, xs, ds, hp, rfl, rfl, rfl, r⟩
  · exact ⟨G', s, Nx.refl _ _ _, DR.up e _ _ h⟩
  · have n := Nx.laid (o := .tup xs) s.sub hp fps.flatten
    exact ⟨_, s.step (s.toRSt.laid hp) n fun _ _ e => e, n, .tup (st_of upd_same) (DRs.up (e.trans (Ex.new (fresh_back s.sub hp))) _ _ r)⟩
def wFor (it : WI) (tg : Tg) (body : WS) : WS := fun Z sl rt => it ⟨sl, Z.ex⟩ rt fun ds rt1 => ∃ I : Nat → Slots → Roots → Prop, I 0 sl rt1 ∧
  (∀ i d sl' rt', ds[i]? = some d → I i sl' rt' → tg d sl' fun sl2 => body { Z with nx := Fg rt.length (I (i + 1)), ct := Fg rt.length (I (i + 1)), bk := Z.nx } sl2 rt') ∧ ∀ sl' rt', I ds.length sl' rt' → Z.nx sl' rt'
theorem s_for {it : WI} {g : TG} {tg : Tg} {body : WS} (hg : TgOk K C g tg) : ∀ D σ H, tS K C U (wFor it tg body) D σ H → tFor (tI K C U it) g (tS K C U body) D σ H := fun D σ H ⟨Z, sl, rt, ρ, fps, G, s, w, f⟩ =>
  ⟨⟨sl, Z.ex⟩, rt, ρ, fps, G, _, s, f.xf, w, fun ds rt1 fps1 G1 H1 J r1 n1 ⟨Gd, Y, wk, hGd, hY⟩ ⟨I, i0, it, fin⟩ => by
    have hl : ρ.length = rt.length := s.root.lens.1
    refine for_it wk (fun i σ' H' => ∃ sl' rt' ρ' fps' G', I i sl' rt' ∧ St K C sl' rt' σ' ρ' fps' G' H' ∧ Nx fps.flatten G H G' H' fps'.flatten ∧ Pre ρ ρ' ∧ Ex G1 G') ⟨sl, rt1, ρ, fps1, G1, i0, s.step r1 n1 fun _ _ e => e, n1, Pre.refl _, Ex.refl _⟩ (fun i σ' H' _ ⟨sl', rt', ρ', fps', G', _, s', _, _, e'⟩ => hGd H' (e'.trans s'.sub)) (fun i v σ' H' H3 hi ⟨sl', rt', ρ', fps', G', hI, s', n', p', e'⟩ y => ?_) fun σ' H' ⟨sl', rt', ρ', fps', G', hI, s', n', p', _⟩ => f.nx sl' rt' σ' ρ' fps' G' H' s' n' p' (fin sl' rt' hI)
    have hd : ds[i]? = some ds[i] := List.getElem?_eq_getElem hi
    obtain ⟨G3, s3, n3, d3⟩ := YD.step (hY i _ H' v H3 hd (e'.trans s'.sub) y) s' e'
    refine hg _ v sl' rt' σ' ρ' fps' G3 H3 _ _ s3 d3 (it i _ sl' rt' hd hI) fun sl2 σ2 hb s2 => ?_
    refine ⟨_, sl2, rt', ρ', fps', G3, s2, hb, ⟨?_, ?_, ?_, ?_, ?_, f.xf.later (n'.trans n3) p'⟩⟩
    · intro sl4 rt4 σ4 ρ4 fps4 G4 H4 s4 n4 p4 h
      obtain ⟨sl5, rt5, ρ5, fps5, s5, n5, p5, h5⟩ := Fg.back (ρ := ρ) (n := rt.length) h s4 ((n'.trans n3).trans n4) (p'.trans p4) (by omega)
      exact ⟨sl5, rt5, ρ5, fps5, G4, h5, s5, n5, p5, e'.trans (n3.g.trans n4.g)⟩
    · exact (f.later (n'.trans n3) p').rt
    · exact (f.later (n'.trans n3) p').ro
    · exact (f.later (n'.trans n3) p').nx
    · intro sl4 rt4 σ4 ρ4 fps4 G4 H4 s4 n4 p4 h
      obtain ⟨sl5, rt5, ρ5, fps5, s5, n5, p5, h5⟩ := Fg.back (ρ := ρ) (n := rt.length) h s4 ((n'.trans n3).trans n4) (p'.trans p4) (by omega)
      exact ⟨sl5, rt5, ρ5, fps5, G4, h5, s5, n5, p5, e'.trans (n3.g.trans n4.g)⟩⟩
theorem ws_for {it : WI} {g : TG} {tg : Tg} {wb : WS} (hg : TgOk K C g tg) (h : PS X st (tFor (tI K C U it) g (tS K C U wb))) : PS X st (tS K C U (wFor it tg wb)) := ps_imp h (s_for hg)
end
end Wv
end

section
set_option Elab.async false
set_option linter.all false
set_option maxRecDepth 100000
set_option maxHeartbeats 4000000
namespace Wv
open PySem PySem.Spec PyProof.Rows L2 Evl
section
variable {K : PySem.W.Frag} {C : Cs} {U : UX} {G H G' H' G1 H1 G2 H2 : Hp} {sl sl' : Slots} {rt rt' : Roots} {σ : L2.St} {ρ ρ' ρ1 : List Addr} {fps fps' fps1 : List (List Addr)}

/-! ### places handed to a callee -/
abbrev Pl := Nat × List Nat
/-- the roots of these values, each once -/
def rdd : List Nat → List Val → List Nat
  | rs, [] => rs
  | rs, .dat _ :: xs => rdd rs xs
  | rs, .ref r _ :: xs => rdd (if rs.contains r then rs else rs ++ [r]) xs
def plc (xs : List Val) : List Pl := (rdd [] xs).map fun r => (r, [])
/-- the values as the callee sees them: its roots are these -/
def renV (rs : List Nat) : Val → Val
  | .dat d => .dat d
  | .ref r p => .ref (rs.idxOf r) p
def ren (xs : List Val) : List Val := xs.map (renV (rdd [] xs))
def getR (rt : Roots) : List Pl → Option (List T)
  | [] => some []
  | (r, p) :: ps => match tatN rt r p, getR rt ps with
    | some t, some ts => some (t :: ts)
    | _, _ => none
def putR (rt : Roots) : List Pl → List T → Roots
  | (r, p) :: ps, t :: ts => (putR rt ps ts).modify r (T.put t p)
  | _, _ => rt
def dst : List Pl → Bool
  | [] => true
  | (r, _) :: ps => ps.all (fun q => r != q.1) && dst ps
theorem mod_get {α : Type} (l : List α) (r : Nat) (f : α → α) (i : Nat) : (l.modify r f)[i]? = if r = i then (l[i]?).map f else l[i]? := by
  rw [List.getElem?_modify]
  split <;> simp_all
theorem over_over (f g h : T → T) : ∀ t : T, (∀ u, T.over f (g u) = h u) → T.over f (T.over g t) = T.over h t
  | .dat d, e => e _
  | .lst _, e => e _
  | .obj _ _, e => e _
  | .dct _ _, e => e _
  | .nm a t, e => congrArg (T.nm a) (over_over f g h t e)
theorem over_strip (f : T → T) (u : T) : T.over f u.strip = f u.strip := by
  cases q : u.strip with
  | dat d => rfl
  | lst ts => rfl
  | obj c ts => rfl
  | dct ks ts => rfl
  | nm a t => exact absurd q (T.strip_nm u)
theorem over_ext (f g : T → T) : ∀ t : T, (∀ d, f (.dat d) = g (.dat d)) → (∀ ts, f (.lst ts) = g (.lst ts)) → (∀ c ts, f (.obj c ts) = g (.obj c ts)) → (∀ ks ts, f (.dct ks ts) = g (.dct ks ts)) → T.over f t = T.over g t
  | .dat d, h, _, _, _ => h d
  | .lst ts, _, h, _, _ => h ts
  | .obj c ts, _, _, h, _ => h c ts
  | .dct c ts, _, _, _, h => h c ts
  | .nm a t, h1, h2, h3, h4 => congrArg (T.nm a) (over_ext f g t h1 h2 h3 h4)
theorem put_put (u v : T) : ∀ (p : List Nat) (t : T), T.put u p (T.put v p t) = T.put u p t
  | [], t => over_over _ _ _ t fun _ => over_strip _ v
  | i :: p, .nm a t => congrArg (T.nm a) (put_put u v (i :: p) t)
  | i :: p, .dat d => by simp [T.put, T.over, T.kids]
  | i :: p, .lst ts => by
    cases q : ts[i]? with
    | none => simp [T.put, T.over, T.kids, q]
    | some x =>
      have hi' : i < ts.length := (List.getElem?_eq_some_iff.mp q).1
      simp only [T.put, T.over, T.kids, q, T.withKids]
      rw [List.getElem?_set_self hi']
      simp only [put_put u v p x, List.set_set]
  | i :: p, .obj c ts => by
    cases q : ts[i]? with
    | none => simp [T.put, T.over, T.kids, q]
    | some x =>
      have hi' : i < ts.length := (List.getElem?_eq_some_iff.mp q).1
      simp only [T.put, T.over, T.kids, q, T.withKids]
      rw [List.getElem?_set_self hi']
      simp only [put_put u v p x, List.set_set]
  | i :: p, .dct c ts => by
    cases q : ts[i]? with
    | none => simp [T.put, T.over, T.kids, q]
    | some x =>
      have hi' : i < ts.length := (List.getElem?_eq_some_iff.mp q).1
      simp only [T.put, T.over, T.kids, q, T.withKids]
      rw [List.getElem?_set_self hi']
      simp only [put_put u v p x, List.set_set]
theorem tat_mod (rt : Roots) (r : Nat) (f : T → T) (i : Nat) (p : List Nat) (h : r ≠ i) : tatN (rt.modify r f) i p = tatN rt i p := by
  unfold tatN
  rw [mod_get, if_neg h]
theorem getR_mod (rt : Roots) (r : Nat) (f : T → T) : ∀ ps : List Pl, (ps.all fun q => r != q.1) = true → getR (rt.modify r f) ps = getR rt ps
  | [], _ => rfl
  | (i, p) :: ps, h => by
    simp only [List.all_cons, Bool.and_eq_true] at h
    have h1 : r ≠ i := bne_iff_ne.mp h.1
    show (match tatN (rt.modify r f) i p, getR (rt.modify r f) ps with | some t, some ts => some (t :: ts) | _, _ => none) = _
    rw [tat_mod rt r f i p h1, getR_mod rt r f ps h.2]
    rfl
theorem putR_mod (rt : Roots) (r : Nat) (f : T → T) : ∀ (ps : List Pl) (ts : List T), (ps.all fun q => r != q.1) = true → putR (rt.modify r f) ps ts = (putR rt ps ts).modify r f
  | [], _, _ => by simp [putR]
  | _ :: _, [], _ => by simp [putR]
  | (i, p) :: ps, t :: ts, h => by
    simp only [List.all_cons, Bool.and_eq_true] at h
    have h1 : r ≠ i := bne_iff_ne.mp h.1
    show (putR (rt.modify r f) ps ts).modify i (T.put t p) = ((putR rt ps ts).modify i (T.put t p)).modify r f
    rw [putR_mod rt r f ps ts h.2]
    refine List.ext_getElem? fun j => ?_
    simp only [mod_get]
    by_cases e1 : i = j
    · by_cases e2 : r = j
      · exact absurd (e2.trans e1.symm) h1
      · simp [e1, e2]
    · by_cases e2 : r = j <;> simp [e1, e2]
theorem putR_at (rt : Roots) (r : Nat) : ∀ (ps : List Pl) (ts : List T), (ps.all fun q => r != q.1) = true → (putR rt ps ts)[r]? = rt[r]?
  | [], _, _ => by simp [putR]
  | _ :: _, [], _ => by simp [putR]
  | (i, p) :: ps, t :: ts, h => by
    simp only [List.all_cons, Bool.and_eq_true] at h
    have h1 : r ≠ i := bne_iff_ne.mp h.1
    show ((putR rt ps ts).modify i (T.put t p))[r]? = _
    rw [mod_get, if_neg fun z => h1 z.symm]
    exact putR_at rt r ps ts h.2
theorem Rts.at (s : Rts K C G H rt ρ fps) {r : Nat} {p : List Nat} {t : T} {a : Addr} (h : tatN rt r p = some t) (ha : ρ[r]? = some a) : ∃ w L fu R, fol H p (.ref a) = some w ∧ TR K C G H w t fu ∧ fps.flatten = L ++ (fu ++ R) ∧
    ∀ (G' H' : Hp) (t' : T) (fu' : List Addr), Ex G G' → (∀ a ∈ L ++ R, H' a = H a) → TR K C G' H' w t' fu' → ∃ fps', Rts K C G' H' (rt.modify r (T.put t' p)) ρ fps' ∧ fps'.flatten = L ++ (fu' ++ R) := by
  unfold tatN at h
  cases q : rt[r]? with
  | none => rw [q] at h; cases h
  | some u =>
    rw [q] at h
    obtain ⟨b, L, fu, R, h1, h2, h3, h4⟩ := s.split q
    rw [ha] at h1
    cases h1
    obtain ⟨w, L2, fu2, R2, k1, k2, k3, k4⟩ := h2.node h
    refine ⟨w, L ++ L2, fu2, R2 ++ R, k1, k2, by rw [h3, k3]; simp, fun G' H' t' fu' eg st h' => ?_⟩
    have e : rt.modify r (T.put t' p) = rt.set r (T.put t' p u) := by
      refine List.ext_getElem? fun i => ?_
      rw [mod_get, List.getElem?_set]
      by_cases z : r = i
      · subst z
        have := (List.getElem?_eq_some_iff.mp q).1
        have e2 : rt[r] = u := by rw [List.getElem?_eq_getElem this] at q; exact Option.some.inj q
        simp [this, e2]
      · simp [z]
    rw [e]
    obtain ⟨fps', y1, y2⟩ := h4 G' H' (T.put t' p u) (L2 ++ (fu' ++ R2)) eg (fun b hb => st b (by rcases List.mem_append.mp hb with y | y <;> simp [y])) (k4 G' H' t' fu' eg (fun b hb => st b (by rcases List.mem_append.mp hb with y | y <;> simp [y])) h')
    exact ⟨fps', y1, by rw [y2]; simp⟩
theorem over_any : ∀ t : T, (T.over (fun _ => (T.dat .any).strip) t).strip = .dat .any
  | .dat _ => rfl
  | .lst _ => rfl
  | .obj _ _ => rfl
  | .dct _ _ => rfl
  | .nm _ t => over_any t
theorem put_at : ∀ (p : List Nat) (u0 t : T), T.at p u0 = some t → ∃ X, T.at p (T.put (.dat .any) p u0) = some X ∧ X.strip = .dat .any
  | [], u0, _, _ => ⟨_, rfl, over_any u0⟩
  | i :: p, .nm a t0, t, h => put_at (i :: p) t0 t h
  | i :: p, .dat d, t, h => by simp [T.at, T.kids] at h
  | i :: p, .lst ts, t, h => by
    cases q : ts[i]? with
    | none => simp [T.at, T.kids, q] at h
    | some x =>
      have hx : T.at p x = some t := by simpa [T.at, T.kids, q] using h
      have hi' : i < ts.length := (List.getElem?_eq_some_iff.mp q).1
      simp only [T.put, T.over, T.kids, q, T.withKids, T.at]
      rw [List.getElem?_set_self hi']
      exact put_at p x t hx
  | i :: p, .obj c ts, t, h => by
    cases q : ts[i]? with
    | none => simp [T.at, T.kids, q] at h
    | some x =>
      have hx : T.at p x = some t := by simpa [T.at, T.kids, q] using h
      have hi' : i < ts.length := (List.getElem?_eq_some_iff.mp q).1
      simp only [T.put, T.over, T.kids, q, T.withKids, T.at]
      rw [List.getElem?_set_self hi']
      exact put_at p x t hx
  | i :: p, .dct c ts, t, h => by
    cases q : ts[i]? with
    | none => simp [T.at, T.kids, q] at h
    | some x =>
      have hx : T.at p x = some t := by simpa [T.at, T.kids, q] using h
      have hi' : i < ts.length := (List.getElem?_eq_some_iff.mp q).1
      simp only [T.put, T.over, T.kids, q, T.withKids, T.at]
      rw [List.getElem?_set_self hi']
      exact put_at p x t hx
/-- the trees at these places, taken out and put back -/
theorem Rts.borrow : ∀ {ps : List Pl} {rt : Roots} {fps : List (List Addr)} {ts : List T} {bs : List Addr}, Rts K C G H rt ρ fps → dst ps = true → getR rt ps = some ts → Paired (fun (q : Pl) b => ∃ a, ρ[q.1]? = some a ∧ fol H q.2 (.ref a) = some (.ref b) ∧ NodeV H (.ref b)) ps bs →
    ∃ fpsc rst, Rts K C G H ts bs fpsc ∧ fps.flatten.Perm (fpsc.flatten ++ rst) ∧ ∀ (G' H' : Hp) (ts' : List T) (fpsc' : List (List Addr)), Ex G G' → Idn H H' → (∀ a ∈ rst, H' a = H a) → Rts K C G' H' ts' bs fpsc' → ∃ fps', Rts K C G' H' (putR rt ps ts') ρ fps' ∧ fps'.flatten.Perm (fpsc'.flatten ++ rst)
  | [], rt, fps, ts, [], s, _, e, .nil => by
    cases e
    refine ⟨[], fps.flatten, .nil, by simp, fun G' H' ts' fpsc' eg _ st r => ?_⟩
    cases r
    exact ⟨fps, s.stay eg st, by simp⟩
  | (r, p) :: ps, rt, fps, ts, b :: bs, s, d, e, .cons ⟨a, ha, hf, hn⟩ hp => by
    simp only [dst, Bool.and_eq_true] at d
    simp only [getR] at e
    cases q1 : tatN rt r p with
    | none => rw [q1] at e; cases e
    | some t =>
      cases q2 : getR rt ps with
      | none => rw [q1, q2] at e; cases e
      | some us =>
        rw [q1, q2] at e
        cases e
        obtain ⟨w, L, fu, R, k1, k2, k3, k4⟩ := s.at q1 ha
        rw [hf] at k1
        cases k1
        obtain ⟨fps1, y1, y2⟩ := k4 G H (.dat .any) [] (Ex.refl G) (fun _ _ => rfl) (.dat (.any _))
        have ge := getR_mod rt r (T.put (.dat .any) p) ps d.1
        obtain ⟨fpsc, rst, i1, i2, i3⟩ := Rts.borrow (ps := ps) y1 d.2 (ge.trans q2) hp
        refine ⟨fu :: fpsc, rst, .cons k2 i1, ?_, fun G' H' ts' fpsc' eg idn st rc => ?_⟩
        · rw [k3]
          have h1 : (L ++ (fu ++ R)).Perm (fu ++ (L ++ R)) := by
            rw [← List.append_assoc, ← List.append_assoc]
            exact List.Perm.append_right R List.perm_append_comm
          refine h1.trans ?_
          rw [List.flatten_cons, List.append_assoc]
          refine List.Perm.append_left fu ?_
          rw [y2] at i2
          simpa using i2
        · cases rc with
          | @cons t' _ fu' ts'' _ fpsc'' h' rc =>
            obtain ⟨fps2, z1, z2⟩ := i3 G' H' ts'' fpsc'' eg idn st rc
            obtain ⟨X, hat, hX⟩ : ∃ X, tatN (putR (rt.modify r (T.put (.dat .any) p)) ps ts'') r p = some X ∧ X.strip = .dat .any := by
              unfold tatN
              rw [putR_at _ r ps ts'' d.1, mod_get, if_pos rfl]
              unfold tatN at q1
              cases q3 : rt[r]? with
              | none => rw [q3] at q1; cases q1
              | some u0 =>
                rw [q3] at q1
                have q1 : T.at p u0 = some t := q1
                show ∃ X, T.at p (T.put (.dat .any) p u0) = some X ∧ _
                exact put_at p u0 t q1
            obtain ⟨w2, L2, fu2, R2, m1, m2, m3, m4⟩ := z1.at hat ha
            have m0 := (idn p _ _ hf hn).1
            rw [m0] at m1
            cases m1
            obtain ⟨fps3, n1, n2⟩ := m4 G' H' t' fu' (Ex.refl _) (fun _ _ => rfl) h'
            refine ⟨fps3, ?_, ?_⟩
            · have e2 : (putR (rt.modify r (T.put (.dat .any) p)) ps ts'').modify r (T.put t' p) = putR rt ((r, p) :: ps) (t' :: ts'') := by
                rw [putR_mod rt r _ ps ts'' d.1]
                show _ = (putR rt ps ts'').modify r (T.put t' p)
                refine List.ext_getElem? fun j => ?_
                simp only [mod_get]
                by_cases e1 : r = j
                · simp only [e1, if_true, Option.map_map]
                  congr 1
                  funext x
                  exact put_put _ _ _ _
                · simp [e1]
              rw [← e2]
              exact n1
            · rw [n2]
              have e3 : fu2 = [] := by
                have m2 := m2.strip
                rw [hX] at m2
                cases m2
                rfl
              subst e3
              have h1 : (L2 ++ (fu' ++ R2)).Perm (fu' ++ (L2 ++ R2)) := by
                rw [← List.append_assoc, ← List.append_assoc]
                exact List.Perm.append_right R2 List.perm_append_comm
              refine h1.trans ?_
              rw [List.flatten_cons, List.append_assoc]
              refine List.Perm.append_left fu' ?_
              rw [m3] at z2
              simpa using z2

/-! ### defs -/
abbrev CW := List Val → Roots → (T → Roots → Prop) → (Exn → Roots → Prop) → Prop
variable (K C)
def spW (cw : CW) : Sp := fun vs H Q E => ∃ G ρ fps args rt k kx, RSt K C rt ρ fps G H ∧ VRs K C G H ρ args vs ∧ cw args rt k kx ∧
  (∀ t rt' fps' fp G' H' v, RSt K C rt' ρ fps' G' H' → Nx fps.flatten G H G' H' fps'.flatten → Own K C fps' G' H' t v fp → (∀ a ∈ fp, a ∈ fps.flatten ∨ H a = none) → k t rt' → Q v H') ∧
  ∀ x rt' fps' G' H' cls d, RSt K C rt' ρ fps' G' H' → Nx fps.flatten G H G' H' fps'.flatten → XR K C H G' H' x cls d → kx x rt' → E cls d H'
variable {K C}
/-- what a call of w's def gives: n more slots than parameters -/
def cwOf (m n : Nat) (w : WS) : CW := fun args rt k kx => args.length = m ∧ w
  { nx := fun _ rt' => k (.dat .non) (rt'.take rt.length)
    rt := fun x rt' => match x with
      | .dat d => k (.dat d) (rt'.take rt.length)
      | .ref r [] => rt.length ≤ r ∧ match rt'[r]? with
        | some t => k t (rt'.take rt.length)
        | none => False
      | _ => False
    ro := fun t rt' => k t (rt'.take rt.length)
    ex := fun x _ rt' => kx x (rt'.take rt.length) } (args.map some ++ List.replicate n none) rt
theorem pre_take (p : Pre ρ ρ') : ρ'.take ρ.length = ρ := by
  refine List.ext_getElem? fun i => ?_
  by_cases h : i < ρ.length
  · rw [List.getElem?_take_of_lt h, p i ρ[i] (List.getElem?_eq_getElem h), List.getElem?_eq_getElem h]
  · have h1 : ρ[i]? = none := List.getElem?_eq_none (by omega)
    have h2 : (ρ'.take ρ.length)[i]? = none := List.getElem?_eq_none (by rw [List.length_take]; omega)
    rw [h1, h2]
/-- the reading at a def's entry -/
theorem w_enter {N ps : List Str} {n : Nat} {body : WS} {vs : List V} {Q : VK} {E : XK} (hn : N.length = ps.length + n) (h : spW K C (cwOf ps.length n body) vs H Q E) : tS K C (fun c d _ H => E c d H) body { nx := fun _ H' => Q .non H', rt := Q } (L2.start N vs) H := by
  obtain ⟨G, ρ, fps, args, rt, k', kx, r, va, ⟨h1, w⟩, q, qx⟩ := h
  have hl := r.root.lens.1
  refine ⟨_, _, rt, ρ, fps, G, ⟨r, ?_, ?_⟩, w, ⟨?_, ?_, ?_, ?_, ?_, ?_⟩⟩
  · unfold L2.start
    simp only [List.length_append, List.length_map, List.length_replicate]
    rw [va.len, h1]
    omega
  · intro i x e
    by_cases hi : i < args.length
    · rw [List.getElem?_append_left (by rw [List.length_map]; exact hi), List.getElem?_map] at e
      cases e2 : args[i]? with
      | none => rw [e2] at e; cases e
      | some y =>
        rw [e2] at e
        cases e
        obtain ⟨v, h2, h3⟩ := va.get e2
        refine ⟨v, ?_, h3⟩
        unfold L2.start
        rw [List.getElem?_append_left (by rw [List.length_map, va.len]; exact hi), List.getElem?_map, h2]
        rfl
    · rw [List.getElem?_append_right (by rw [List.length_map]; omega), List.getElem?_replicate] at e
      split at e <;> cases e
  · intro sl' rt' σ' ρ' fps' G' H' s' n' p' h
    have r2 := s'.toRSt.take ρ.length
    rw [pre_take p', hl] at r2
    exact q (.dat .non) _ _ [] G' H' .non r2 (n'.less (flat_take _)) (Own.dat .non) (fun _ z => nomatch z) h
  · intro x rt' ρ' fps' G' H' v s' n' p' vr h
    have r2 := s'.take ρ.length
    rw [pre_take p', hl] at r2
    dsimp only at h
    split at h
    · exact q _ _ _ [] G' H' v r2 (n'.less (flat_take _)) (Own.dat vr) (fun _ z => nomatch z) h
    · rename_i r
      obtain ⟨h2, h⟩ := h
      split at h
      · rename_i t ht
        obtain ⟨a, z1, z2, z3⟩ := vr
        cases Option.some.inj z2
        -- the root apart from the first ones
        have hd : rt' = rt'.take rt.length ++ rt'.drop rt.length := (List.take_append_drop _ _).symm
        obtain ⟨fr, hfr⟩ : ∃ fr, fps'[r]? = some fr := ⟨_, List.getElem?_eq_getElem (by rw [s'.root.lens.2]; exact (List.getElem?_eq_some_iff.mp ht).1)⟩
        have tr : ∀ {rt : Roots} {ρ : List Addr} {fps : List (List Addr)} {r : Nat} {t : T} {a : Addr} {fr : List Addr}, Rts K C G' H' rt ρ fps → rt[r]? = some t → ρ[r]? = some a → fps[r]? = some fr → TR K C G' H' (.ref a) t fr := by
          intro rt ρ fps r t a fr h
          induction h generalizing r with
          | nil => intro e; simp at e
          | cons h _ ih =>
            intro e1 e2 e3
            cases r with
            | zero => cases Option.some.inj e1; cases Option.some.inj e2; cases Option.some.inj e3; exact h
            | succ r => exact ih e1 e2 e3
        have nd := s'.nd
        rw [← List.take_append_drop rt.length fps', List.flatten_append] at nd
        have nd := List.nodup_append.mp nd
        have inD : ∀ a ∈ fr, a ∈ (fps'.drop rt.length).flatten := fun a ha => List.mem_flatten.mpr ⟨fr, by
          refine List.mem_of_getElem? (i := r - rt.length) ?_
          rw [List.getElem?_drop]
          rw [show rt.length + (r - rt.length) = r by omega]
          exact hfr, ha⟩
        refine q t _ _ fr G' H' _ r2 (n'.less (flat_take _)) ⟨tr s'.root ht z1 hfr, ?_, fun a ha z => nd.2.2 a z a (inD a ha) rfl, fun a ha => s'.fr a ?_⟩ (fun a ha => n'.new a ?_) h
        · have : fr.Sublist fps'.flatten := List.sublist_flatten_of_mem (List.mem_of_getElem? hfr)
          exact List.Nodup.sublist this s'.nd
        · exact List.mem_flatten.mpr ⟨fr, List.mem_of_getElem? hfr, ha⟩
        · exact List.mem_flatten.mpr ⟨fr, List.mem_of_getElem? hfr, ha⟩
      · exact h.elim
    · exact h.elim
  · intro t rt' ρ' fps' fp G' H' v s' n' p' o new h
    have r2 := s'.take ρ.length
    rw [pre_take p', hl] at r2
    exact q t _ _ fp G' H' v r2 (n'.less (flat_take _)) ⟨o.tr, o.nd, fun a ha z => o.ap a ha (flat_take _ a z), o.fr⟩ new h
  · exact fun _ _ _ _ _ _ _ _ _ _ h => h.elim
  · exact fun _ _ _ _ _ _ _ _ _ _ h => h.elim
  · intro x sl' rt' σ' ρ' fps' G' H' cls d s' n' p' xr h
    have r2 := s'.toRSt.take ρ.length
    rw [pre_take p', hl] at r2
    exact qx x _ _ G' H' cls d r2 (n'.less (flat_take _)) xr h
theorem spW_len {ps : List Str} {n : Nat} {body : WS} {vs : List V} {Q : VK} {E : XK} (h : spW K C (cwOf ps.length n body) vs H Q E) : vs.length = ps.length := by
  obtain ⟨G, ρ, fps, args, rt, k, kx, r, v, ⟨h1, _⟩, _⟩ := h
  rw [v.len, h1]
/-- a def that may let errors out -/
theorem ok_W {P : Program} {w : World} {mg : Str → Option Value} {base : Heap} {x qual : Str} {st : Stmt} {f : Addr} {fd : FuncData} {N ps : List Str} {k n : Nat} {body : WS}
    (F : Fun K x qual st f fd) (S : FnScope N ps (defScope st)) (hn : N.length = ps.length + n)
    (der : ∀ (cdv : Value) (A : Around) (outer : List Env) (s : Shared) (H : Hp) (E : XK), Room k (A.deeper (envOfC qual (defScope st) s.heap.objs.size f cdv)) → L2N.Takes (cxOf (L2N.CX P w) P w K mg base N qual (defScope st) f cdv A outer s H E) (fun c d _ H => E c d H) →
      PSs (cxOf (L2N.CX P w) P w K mg base N qual (defScope st) f cdv A outer s H E) (defBody st) (tS K C (fun c d _ H => E c d H) body)) :
    FnOk P w K mg base (L2N.CX P w) (k + 1) f fd ps (spW K C (cwOf ps.length n body)) := by
  obtain ⟨oc, od, kV, doc, pm, an, cdv, ct, osl, rfl, lk, hcd⟩ := F.ex
  exact fn_of lk hcd S (fun vs H Q E h => spW_len h) fun A outer s H vs Q E hr h => ⟨_, der cdv A outer s H E hr (L2N.takes_of rfl rfl rfl rfl), w_enter hn h⟩
/-- a def that lets none out -/
theorem ok_W0 {P : Program} {w : World} {mg : Str → Option Value} {base : Heap} {x qual : Str} {st : Stmt} {f : Addr} {fd : FuncData} {N ps : List Str} {k n : Nat} {body : WS}
    (F : Fun K x qual st f fd) (S : FnScope N ps (defScope st)) (hn : N.length = ps.length + n)
    (der : ∀ (cdv : Value) (A : Around) (outer : List Env) (s : Shared) (H : Hp) (E : XK), Room k (A.deeper (envOfC qual (defScope st) s.heap.objs.size f cdv)) → L2N.Takes (cxOf CX0 P w K mg base N qual (defScope st) f cdv A outer s H E).nox (fun _ _ _ _ => False) →
      PSs (cxOf CX0 P w K mg base N qual (defScope st) f cdv A outer s H E).nox (defBody st) (tS K C (fun _ _ _ _ => False) body)) :
    FnOk P w K mg base CX0 (k + 1) f fd ps (fun vs H Q _ => spW K C (cwOf ps.length n body) vs H Q fun _ _ _ => False) := by
  refine F.ok S (fun vs H Q E h => spW_len h) (fun cdv A outer s H vs Q E hr h => ⟨_, der cdv A outer s H E hr (fun u s' x => ?_), w_enter hn h⟩)
  obtain ⟨_, _, _, _, _, _, _, _, _, _, _, _, _, _, _, _, z⟩ := x
  exact z.elim
end
end Wv
end

section
set_option Elab.async false
set_option linter.all false
set_option maxRecDepth 100000
set_option maxHeartbeats 4000000
namespace Wv
open PySem PySem.Spec PyProof.Rows L2 Evl
section
variable {K : PySem.W.Frag} {C : Cs} {U : UX} {G H G' H' G1 H1 G2 H2 : Hp} {sl sl' : Slots} {rt rt' : Roots} {σ : L2.St} {ρ ρ' ρ1 : List Addr} {fps fps' fps1 : List (List Addr)}
variable {X : Cx} {CX : CXT} {a b c e o : Expr} {es rest : List Expr} {wa wb wc : WE} {pos p apos : Pos} {Z : WEnds} {E : L2.St → XK} {st : Stmt} {k : Nat} {f Ca : Addr} {fd : FuncData} {ps : List Str} {sp : Sp} {x m : Str} {ta : TE} {t : TA} {ds : List Value}
theorem rdd_mem : ∀ (xs : List Val) (rs : List Nat), (∀ r ∈ rs, r ∈ rdd rs xs) ∧ ∀ r p, Val.ref r p ∈ xs → r ∈ rdd rs xs
  | [], rs => ⟨fun _ h => h, fun _ _ h => nomatch h⟩
  | .dat d :: xs, rs => by
    obtain ⟨h1, h2⟩ := rdd_mem xs rs
    refine ⟨h1, fun r p h => ?_⟩
    rcases List.mem_cons.mp h with z | z
    · cases z
    · exact h2 r p z
  | .ref i q :: xs, rs => by
    obtain ⟨h1, h2⟩ := rdd_mem xs (if rs.contains i then rs else rs ++ [i])
    refine ⟨fun r h => h1 r ?_, fun r p h => ?_⟩
    · split
      · exact h
      · simp [h]
    · rcases List.mem_cons.mp h with z | z
      · injection z with z1 z2
        subst z1
        refine h1 r ?_
        split
        · rename_i c
          simpa using c
        · simp
      · exact h2 r p z
theorem node_root {p : List Nat} {a : Addr} {v : V} (h : fol H p (.ref a) = some v) (n : NodeV H v) : NodeV H (.ref a) := by
  cases p with
  | nil => cases Option.some.inj h; exact n
  | cons j p =>
    have h : (match H a with | some (.lst xs) => (xs[j]?).bind (fol H p) | some (.ins _ _ fs) => ((fs.map Prod.snd)[j]?).bind (fol H p) | some (.dK kvs) => ((kvs.map Prod.snd)[j]?).bind (fol H p) | _ => none) = some v := h
    split at h
    · rename_i xs hb
      exact ⟨a, rfl, .inl ⟨xs, hb⟩⟩
    · rename_i c dx fs hb
      exact ⟨a, rfl, .inr (.inl ⟨c, dx, fs, hb⟩)⟩
    · rename_i kvs hb
      exact ⟨a, rfl, .inr (.inr ⟨kvs, hb⟩)⟩
    · cases h
theorem VRs.mem : ∀ {xs : List Val} {vs : List V}, VRs K C G H ρ xs vs → ∀ x ∈ xs, ∃ v, VR K C G H ρ x v
  | _, _, .nil => fun _ h => nomatch h
  | _, _, .cons h r => fun x hx => by
    rcases List.mem_cons.mp hx with z | z
    · subst z; exact ⟨_, h⟩
    · exact VRs.mem r x z
theorem rdd_only : ∀ (xs : List Val) (rs : List Nat), ∀ r ∈ rdd rs xs, r ∈ rs ∨ ∃ p, Val.ref r p ∈ xs
  | [], rs => fun _ h => .inl h
  | .dat d :: xs, rs => fun r h => by
    rcases rdd_only xs rs r h with z | ⟨p, z⟩
    · exact .inl z
    · exact .inr ⟨p, List.mem_cons_of_mem _ z⟩
  | .ref i q :: xs, rs => fun r h => by
    rcases rdd_only xs _ r h with z | ⟨p, z⟩
    · split at z
      · exact .inl z
      · rcases List.mem_append.mp z with y | y
        · exact .inl y
        · have : r = i := by simpa using y
          subst this
          exact .inr ⟨q, List.mem_cons_self⟩
    · exact .inr ⟨p, List.mem_cons_of_mem _ z⟩
theorem vr_ren {xs : List Val} {vs : List V} (h : VRs K C G H ρ xs vs) : ∃ bs, Paired (fun (q : Pl) b => ∃ a, ρ[q.1]? = some a ∧ fol H q.2 (.ref a) = some (.ref b) ∧ NodeV H (.ref b)) (plc xs) bs ∧ VRs K C G H bs (ren xs) vs := by
  have each : ∀ rs : List Nat, (∀ r ∈ rs, ∃ a, ρ[r]? = some a ∧ NodeV H (.ref a)) → ∃ bs, Paired (fun (q : Pl) b => ∃ a, ρ[q.1]? = some a ∧ fol H q.2 (.ref a) = some (.ref b) ∧ NodeV H (.ref b)) (rs.map fun r => (r, [])) bs ∧ ∀ r ∈ rs, ∃ a, ρ[r]? = some a ∧ bs[rs.idxOf r]? = some a := by
    intro rs
    induction rs with
    | nil => exact fun _ => ⟨[], .nil, fun _ z => nomatch z⟩
    | cons r rs ih =>
      intro h
      obtain ⟨bs, h1, h2⟩ := ih fun x hx => h x (List.mem_cons_of_mem _ hx)
      obtain ⟨a, ha, hn⟩ := h r List.mem_cons_self
      refine ⟨a :: bs, .cons ⟨a, ha, rfl, hn⟩ h1, fun x hx => ?_⟩
      by_cases e : r = x
      · subst e
        exact ⟨a, ha, by simp⟩
      · rcases List.mem_cons.mp hx with z | z
        · exact absurd z.symm e
        · obtain ⟨b, k1, k2⟩ := h2 x z
          refine ⟨b, k1, ?_⟩
          rw [List.idxOf_cons]
          have : (r == x) = false := by simpa using e
          rw [this]
          exact k2
  have hroot : ∀ r ∈ rdd [] xs, ∃ a, ρ[r]? = some a ∧ NodeV H (.ref a) := fun r hr => by
    rcases rdd_only xs [] r hr with z | ⟨p, z⟩
    · cases z
    · obtain ⟨v, a, h1, h2, h3⟩ := h.mem _ z
      exact ⟨a, h1, node_root h2 h3⟩
  obtain ⟨bs, h1, h2⟩ := each _ hroot
  refine ⟨bs, h1, ?_⟩
  have gen : ∀ {ys : List Val} {us : List V}, VRs K C G H ρ ys us → (∀ r p, Val.ref r p ∈ ys → r ∈ rdd [] xs) → VRs K C G H bs (ys.map (renV (rdd [] xs))) us := by
    intro ys us hy
    induction hy with
    | nil => exact fun _ => .nil
    | @cons x v ys us hx _ ih =>
      intro hm
      refine .cons ?_ (ih fun r p hr => hm r p (List.mem_cons_of_mem _ hr))
      cases x with
      | dat d => exact hx
      | ref r p =>
        obtain ⟨a, k1, k2, k3⟩ := hx
        obtain ⟨b, q1, q2⟩ := h2 r (hm r p List.mem_cons_self)
        rw [k1] at q1
        cases q1
        exact ⟨a, q2, k2, k3⟩
  exact gen h fun r p hr => (rdd_mem xs []).2 r p hr
/-- behind a callee: the caller's own state -/
theorem borrowed {xs : List Val} {vs : List V} {ts : List T} (r : RSt K C rt ρ fps G H) (v : VRs K C G H ρ xs vs) (hd : dst (plc xs) = true) (hg : getR rt (plc xs) = some ts) : ∃ bs fpsc, RSt K C ts bs fpsc G H ∧ VRs K C G H bs (ren xs) vs ∧ (∀ a ∈ fpsc.flatten, a ∈ fps.flatten) ∧
    ∀ ts' fpsc' G' H', RSt K C ts' bs fpsc' G' H' → Nx fpsc.flatten G H G' H' fpsc'.flatten → ∃ fps', RSt K C (putR rt (plc xs) ts') ρ fps' G' H' ∧ Nx fps.flatten G H G' H' fps'.flatten ∧ ∀ fp : List Addr, (∀ a ∈ fp, a ∉ fpsc'.flatten) → (∀ a ∈ fp, a ∈ fpsc.flatten ∨ H a = none) → ∀ a ∈ fp, a ∉ fps'.flatten := by
  obtain ⟨bs, h1, h2⟩ := vr_ren v
  obtain ⟨fpsc, rst, i1, i2, i3⟩ := r.root.borrow hd hg h1
  have nd := i2.nodup_iff.mp r.nd
  have nd1 := List.nodup_append.mp nd
  have mem : ∀ a, a ∈ fps.flatten ↔ a ∈ fpsc.flatten ++ rst := fun a => i2.mem_iff
  refine ⟨bs, fpsc, ⟨r.sub, i1, nd1.1, fun a ha => r.fr a ((mem a).mpr (by simp [ha]))⟩, h2, fun a ha => (mem a).mpr (by simp [ha]), fun ts' fpsc' G' H' r' n' => ?_⟩
  have rin : ∀ a ∈ rst, H a ≠ none := fun a ha => r.root.inH a ((mem a).mpr (by simp [ha]))
  have rout : ∀ a ∈ rst, a ∉ fpsc.flatten := fun a ha z => nd1.2.2 a z a ha rfl
  have rkeep : ∀ a ∈ rst, H' a = H a ∧ G' a = none := fun a ha => by
    cases z : H a with
    | none => exact absurd z (rin a ha)
    | some o =>
      obtain ⟨k1, k2⟩ := n'.keep a o z (rout a ha)
      exact ⟨k1, k2 (r.fr a ((mem a).mpr (by simp [ha])))⟩
  have dis : ∀ a ∈ rst, a ∉ fpsc'.flatten := fun a ha z => by
    rcases n'.new a z with y | y
    · exact rout a ha y
    · exact rin a ha y
  obtain ⟨fps', z1, z2⟩ := i3 G' H' ts' fpsc' n'.g n'.idn (fun a ha => (rkeep a ha).1) r'.root
  have mem' : ∀ a, a ∈ fps'.flatten ↔ a ∈ fpsc'.flatten ++ rst := fun a => z2.mem_iff
  refine ⟨fps', ⟨r'.sub, z1, z2.nodup_iff.mpr (List.nodup_append.mpr ⟨r'.nd, nd1.2.1, fun a ha b hb e => dis b hb (by rw [← e]; exact ha)⟩), fun a ha => ?_⟩, ⟨n'.g, fun l u h z => ?_, n'.dom, fun l hl => ?_, n'.idn⟩, fun fp h1 h2 a ha z => ?_⟩
  · rcases List.mem_append.mp ((mem' a).mp ha) with y | y
    · exact r'.fr a y
    · exact (rkeep a y).2
  · exact n'.keep l u h fun y => z ((mem l).mpr (by simp [y]))
  · rcases List.mem_append.mp ((mem' l).mp hl) with y | y
    · rcases n'.new l y with x | x
      · exact .inl ((mem l).mpr (by simp [x]))
      · exact .inr x
    · exact .inl ((mem l).mpr (by simp [y]))
  · rcases List.mem_append.mp ((mem' a).mp z) with y | y
    · exact h1 a ha y
    · rcases h2 a ha with x | x
      · exact rout a y x
      · exact rin a y x
/-- a def is called: its promise from where the caller stands -/
theorem sp_use {cw : CW} {xs : List Val} {vs : List V} {ts : List T} {k : T → Roots → Prop} {kx : Exn → Roots → Prop} {Q : VK} {E : XK} (r : RSt K C rt ρ fps G H) (v : VRs K C G H ρ xs vs) (hd : dst (plc xs) = true) (hg : getR rt (plc xs) = some ts)
    (w : cw (ren xs) ts (fun t ts' => k t (putR rt (plc xs) ts')) fun x ts' => kx x (putR rt (plc xs) ts')) (q : ∀ t rt' fps' fp G' H' v, RSt K C rt' ρ fps' G' H' → Nx fps.flatten G H G' H' fps'.flatten → Own K C fps' G' H' t v fp → (∀ a ∈ fp, a ∈ fps.flatten ∨ H a = none) → k t rt' → Q v H')
    (qx : ∀ x rt' fps' G' H' cls d, RSt K C rt' ρ fps' G' H' → Nx fps.flatten G H G' H' fps'.flatten → XR K C H G' H' x cls d → kx x rt' → E cls d H') : spW K C cw vs H Q E := by
  obtain ⟨bs, fpsc, b1, b2, b3, b4⟩ := borrowed r v hd hg
  refine ⟨G, bs, fpsc, ren xs, ts, _, _, b1, b2, w, ?_, ?_⟩
  · intro t ts' fpsc' fp G' H' v r' n' o' new hk
    obtain ⟨fps', z1, z2, z3⟩ := b4 ts' fpsc' G' H' r' n'
    exact q t _ fps' fp G' H' v z1 z2 ⟨o'.tr, o'.nd, z3 fp o'.ap new, o'.fr⟩ (fun a ha => (new a ha).imp (b3 a) id) hk
  · intro x ts' fpsc' G' H' cls d r' n' xr hk
    obtain ⟨fps', z1, z2, z3⟩ := b4 ts' fpsc' G' H' r' n'
    exact qx x _ fps' G' H' cls d z1 z2 xr hk
/-- f(..) -/
def wCall (cw : CW) (w : WA) : WO := fun sl rt k => w sl rt fun xs rt1 => dst (plc xs) = true ∧ match getR rt1 (plc xs) with
  | some ts => cw (ren xs) ts (fun t ts' => k t (putR rt1 (plc xs) ts')) fun x ts' => sl.ex x sl.sl (putR rt1 (plc xs) ts')
  | none => False
theorem o_call {cw : CW} {w : WA} : ∀ σ H Q, tO K C U (wCall cw w) σ H Q → tCallS (spW K C cw) (fun σ cls d H => U cls d σ H) (tA K C U w) σ H Q := fun σ H Q ⟨sl, rt, ρ, fps, G, k, s, xf, w, q⟩ =>
  ⟨sl, rt, ρ, fps, G, _, s, xf, w, fun xs rt1 fps1 G1 H1 vs r1 n1 v1 ⟨hd, w1⟩ => by
    split at w1
    · rename_i ts ht
      exact sp_use r1 v1 hd ht w1 (fun t rt' fps' fp G' H' v r' n' o' new hk => q t rt' fps' fp G' H' v r' (n1.trans n') o' (fun a ha => (new a ha).elim (fun y => n1.new a y) fun y => .inr (n1.dom a y)) hk)
        fun x rt' fps' G' H' cls d r' n' xr hk => xf x _ rt' σ ρ fps' G' H' cls d (s.step r' (n1.trans n') fun _ _ e => e) (n1.trans n') (Pre.refl _) (xr.early n1.dom) hk
    · exact w1.elim⟩
theorem o_call0 {cw : CW} : ∀ σ H Q, tO K C U (wCall cw wNil) σ H Q → tCallS (spW K C cw) (fun σ cls d H => U cls d σ H) tNil σ H Q := fun σ H Q ⟨sl, rt, ρ, fps, G, k, s, xf, ⟨hd, w1⟩, q⟩ => by
  exact sp_use (xs := []) (ts := []) (k := fun t rt' => k t rt') (kx := fun x rt' => sl.ex x sl.sl rt') s.toRSt .nil rfl rfl w1 (fun t rt' fps' fp G' H' v r' n' o' new hk => q t rt' fps' fp G' H' v r' n' o' new hk)
    fun x rt' fps' G' H' cls d r' n' xr hk => xf x _ rt' σ ρ fps' G' H' cls d (s.step r' n' fun _ _ e => e) n' (Pre.refl _) xr hk
theorem pe_callS0 (F : FnOk X.prog X.w X.K X.mg X.base CX k f fd ps sp) (hr : Room k X.A) (hg : Gl X x) (hm : X.mg x = some (.ref f)) (hk : PySem.W.keepIn X.K (.ref f) = true) (hb : Binds X.K fd ps []) (hx : ∀ σ, PassesAt CX X σ (E σ))
    (hdb : (x == ("__debug__" : Str)) = false := by decide) : PE X (.Call (.Name x p) [] [] pos) (tCallS sp E tNil) := by
  refine ⟨fun pins s σ H Q I h => ?_⟩
  refine wpAny_Call_Name_kw (ld_glob I hg hm ?_ hdb)
  exact PySem.W.callWith_K0 I.kIn hk (run_fnSD (us := []) (dvs := []) (ds := []) F hr hb .nil (hx σ) I .nil h)
theorem wo_call {cw : CW} {w : WA} (h : PE X e (tCallS (spW K C cw) (fun σ cls d H => U cls d σ H) (tA K C U w))) : PE X e (tO K C U (wCall cw w)) := pe_imp h o_call
theorem wo_call0 {cw : CW} (h : PE X e (tCallS (spW K C cw) (fun σ cls d H => U cls d σ H) tNil)) : PE X e (tO K C U (wCall cw wNil)) := pe_imp h o_call0
def tMethX (C : Addr) (m : Str) (sp : Sp) (E : L2.St → XK) (ta : TE) (t : TA) : TE := fun σ H Q => ta σ H fun x H1 => ∃ a dx fs, x = .ref a ∧ H1 a = some (.ins C dx fs) ∧ fs.lookup m = none ∧ t σ H1 fun vs H2 => sp (x :: vs) H2 Q (E σ)
theorem pe_methX {pl : PySem.Sem Bool} (he : PE X o ta) (c : Cls X.K Ca) (hm : Meth X.K Ca m f) (F : FnOk X.prog X.w X.K X.mg X.base CX k f fd ps sp) (hr : Room k X.A) (hb : Binds X.K fd ps []) (hx : ∀ σ, PassesAt CX X σ (E σ)) (ha : PA X (e :: es) t)
    (hst : starEach (e :: es) X.env = (false, eval e X.env) :: starEach es X.env := by rfl) (hpl : (backTo pos (starEach es X.env)).any (·.1) = false := by rfl)
    (ht : eval (.Call (.Attribute o m apos) (e :: es) [] pos) X.env = (do
      let ov ← eval o X.env
      standAt apos.atName
      let (f, first) ← holding [ov] (getMethod ov m pl)
      callWith pos f first (backTo pos (starEach (e :: es) X.env)) (backToKw pos (keywordEach [] X.env))) := by rfl) :
    PE X (.Call (.Attribute o m apos) (e :: es) [] pos) (tMethX Ca m sp E ta t) := by
  refine ⟨fun pins s σ H Q I h => ?_⟩
  refine PySem.W.methodCall_KW (pl := pl) (thn (he.run pins s σ H _ I h) fun u s1 ⟨x, H1, I1, rx, a, dx, fs, ex, ea, l, q⟩ => ?_) ht
  subst ex
  obtain rfl : u = Value.ref a := rx
  refine getmeth_ok I1 ea c hm l ?_
  refine PySem.W.callWith_K (first := [.ref a]) (h₀ := X.base) I.ok.mod.kin hm.kp (thn (ha.run pos pins s1 σ H1 _ I1 q) fun us s2 ⟨vs, H2, I2, r, q2⟩ => ⟨I2.kIn, ?_⟩) hst hpl
  exact run_fnSD (us := .ref a :: us) (vs := .ref a :: vs) (dvs := []) (ds := []) F hr hb .nil (hx σ) I2 (.cons rfl r) (by simpa using q2)
theorem pe_methX0 {pl : PySem.Sem Bool} (he : PE X o ta) (c : Cls X.K Ca) (hm : Meth X.K Ca m f) (F : FnOk X.prog X.w X.K X.mg X.base CX k f fd ps sp) (hr : Room k X.A) (hb : Binds X.K fd ps []) (hx : ∀ σ, PassesAt CX X σ (E σ))
    (ht : eval (.Call (.Attribute o m apos) [] [] pos) X.env = (do
      let ov ← eval o X.env
      standAt apos.atName
      let (f, first) ← holding [ov] (getMethod ov m pl)
      callWith pos f first (backTo pos (starEach [] X.env)) (backToKw pos (keywordEach [] X.env))) := by rfl) :
    PE X (.Call (.Attribute o m apos) [] [] pos) (tMethX Ca m sp E ta tNil) := by
  refine ⟨fun pins s σ H Q I h => ?_⟩
  refine PySem.W.methodCall_KW (pl := pl) (thn (he.run pins s σ H _ I h) fun u s1 ⟨x, H1, I1, rx, a, dx, fs, ex, ea, l, q⟩ => ?_) ht
  subst ex
  obtain rfl : u = Value.ref a := rx
  refine getmeth_ok I1 ea c hm l ?_
  exact PySem.W.callWith_K0 (first := [.ref a]) I1.kIn hm.kp (run_fnSD (us := [.ref a]) (vs := [.ref a]) (dvs := []) (ds := []) F hr hb .nil (hx σ) I1 (.cons rfl .nil) q)

/-! ### objects -/
theorem Rts.unapp : ∀ {rt : Roots} {t : T} {ρ : List Addr} {a : Addr} {fps : List (List Addr)}, Rts K C G H (rt ++ [t]) (ρ ++ [a]) fps → rt.length = ρ.length → ∃ fps0 fq, fps = fps0 ++ [fq] ∧ Rts K C G H rt ρ fps0 ∧ TR K C G H (.ref a) t fq
  | [], t, [], a, _, .cons h .nil, _ => ⟨[], _, rfl, .nil, h⟩
  | u :: rt, t, b :: ρ, a, _, .cons h r, e => by
    obtain ⟨fps0, fq, e1, h1, h2⟩ := Rts.unapp r (by simpa using e)
    exact ⟨_ :: fps0, fq, by rw [e1]; rfl, .cons h h1, h2⟩
  | [], _, _ :: _, _, _, _, e => by cases e
  | _ :: _, _, [], _, _, _, e => by cases e
theorem getR_lt {ps : List Pl} {ts : List T} : getR rt ps = some ts → ∀ q ∈ ps, q.1 < rt.length := by
  induction ps generalizing ts with
  | nil => exact fun _ _ z => nomatch z
  | cons q ps ih =>
    obtain ⟨r, p⟩ := q
    intro h
    simp only [getR] at h
    split at h
    · rename_i t us h1 h2
      intro q hq
      rcases List.mem_cons.mp hq with z | z
      · subst z
        unfold tatN at h1
        cases y : rt[r]? with
        | none => rw [y] at h1; cases h1
        | some u => exact (List.getElem?_eq_some_iff.mp y).1
      · exact ih h2 q z
    · cases h
theorem getR_app {ps : List Pl} {ts : List T} (z : T) : getR rt ps = some ts → getR (rt ++ [z]) ps = some ts := by
  induction ps generalizing ts with
  | nil => exact fun h => h
  | cons q ps ih =>
    obtain ⟨r, p⟩ := q
    intro h
    simp only [getR] at h ⊢
    split at h
    · rename_i t us h1 h2
      have lt : r < rt.length := by
        unfold tatN at h1
        cases y : rt[r]? with
        | none => rw [y] at h1; cases h1
        | some u => exact (List.getElem?_eq_some_iff.mp y).1
      have e1 : tatN (rt ++ [z]) r p = tatN rt r p := by
        unfold tatN
        rw [List.getElem?_append_left lt]
      rw [e1, h1, ih h2]
      exact h
    · cases h
theorem putR_app (z : T) : ∀ {ps : List Pl} {ts : List T}, (∀ q ∈ ps, q.1 < rt.length) → putR (rt ++ [z]) ps ts = putR rt ps ts ++ [z] ∧ (putR rt ps ts).length = rt.length
  | [], ts, _ => by simp [putR]
  | _ :: _, [], _ => by simp [putR]
  | (r, p) :: ps, t :: ts, h => by
    obtain ⟨h1, h2⟩ := putR_app (ps := ps) (ts := ts) z fun q hq => h q (by simp [hq])
    have lt := h (r, p) (by simp)
    have lt : r < rt.length := lt
    refine ⟨?_, by simp only [putR, List.length_modify]; exact h2⟩
    simp only [putR, h1]
    refine List.ext_getElem? fun j => ?_
    rw [mod_get]
    by_cases e : j < rt.length
    · rw [List.getElem?_append_left (by rw [h2]; exact e), List.getElem?_append_left (by rw [List.length_modify, h2]; exact e), mod_get]
    · rw [if_neg (by omega), List.getElem?_append_right (by rw [h2]; omega), List.getElem?_append_right (by rw [List.length_modify, h2]; omega), h2, List.length_modify, h2]
theorem idn2 {x dx : Addr} {u v : HO} (hx : H x = none) (hd : H dx = none) (n : dx ≠ x) : Idn H (upd (upd H dx u) x v) := (idn_new hd).trans (idn_new (by rw [upd_ne (Ne.symm n)]; exact hx))
/-- C(..) -/
def mkEnd (n : Nat) (k : T → Roots → Prop) : T → Roots → Prop := fun t full => t = .dat .non ∧ match full[n]? with
  | some o => k o (full.take n)
  | none => False
def wMake (c : Nat) (cw : CW) (w : WA) : WO := fun sl rt k => w sl rt fun xs rt1 => dst (plc (.ref rt1.length [] :: xs)) = true ∧ match getR (rt1 ++ [.obj c []]) (plc (.ref rt1.length [] :: xs)) with
  | some ts => cw (ren (.ref rt1.length [] :: xs)) ts (fun t ts' => mkEnd rt1.length k t (putR (rt1 ++ [.obj c []]) (plc (.ref rt1.length [] :: xs)) ts')) fun _ _ => False
  | none => False
theorem sp_makeG {cw : CW} {xs : List Val} {vs : List V} {ts : List T} {c : Nat} {k : T → Roots → Prop} {Q : VK} {E : XK} {x dx : Addr} {o0 : T} (r : RSt K C rt ρ fps G H) (v : VRs K C G H ρ xs vs) (hd3 : dst (plc (.ref rt.length [] :: xs)) = true) (hg3 : getR (rt ++ [o0]) (plc (.ref rt.length [] :: xs)) = some ts)
    (w : cw (ren (.ref rt.length [] :: xs)) ts (fun t ts' => mkEnd rt.length k t (putR (rt ++ [o0]) (plc (.ref rt.length [] :: xs)) ts')) fun _ _ => False) (h0 : ∀ H : Hp, H x = some (.ins (C.at_ c) dx []) → TR K C G H (.ref x) o0 [x]) (hx : H x = none) (hdx : H dx = none) (ne : dx ≠ x)
    (q : ∀ t rt' fps' fp G' H', RSt K C rt' ρ fps' G' H' → Nx fps.flatten G H G' H' fps'.flatten → Own K C fps' G' H' t (.ref x) fp → (∀ a ∈ fp, a ∈ fps.flatten ∨ H a = none) → k t rt' → Q (.ref x) H') :
    spW K C cw (.ref x :: vs) (upd (upd H dx (.own x)) x (.ins (C.at_ c) dx [])) (fun v H2 => v = .non ∧ Q (.ref x) H2) E := by
  have idn := idn2 (u := .own x) (v := .ins (C.at_ c) dx []) hx hdx ne
  have ex : Ex H (upd (upd H dx (.own x)) x (.ins (C.at_ c) dx [])) := (Ex.new hdx).trans (Ex.new (by rw [upd_ne (Ne.symm ne)]; exact hx))
  have r2 := r.grow ex
  have own : Own K C fps G (upd (upd H dx (.own x)) x (.ins (C.at_ c) dx [])) o0 (.ref x) [x] := by
    refine ⟨h0 _ upd_same, by simp, fun a ha z => ?_, fun a ha => ?_⟩
    · have : a = x := by simpa using ha
      subst this
      exact r.root.inH a z hx
    · have : a = x := by simpa using ha
      subst this
      exact fresh_back r.sub hx
  have r3 := r2.app own
  have n0 : Nx fps.flatten G H G (upd (upd H dx (.own x)) x (.ins (C.at_ c) dx [])) (fps ++ [[x]]).flatten := ⟨Ex.refl G, fun l u h _ => ⟨ex l u h, fun g => g⟩, fun l h => upd_none (upd_none h), fun l hl => by
    rw [List.flatten_append] at hl
    simp only [List.flatten_cons, List.flatten_nil, List.append_nil] at hl
    rcases List.mem_append.mp hl with z | z
    · exact .inl z
    · have : l = x := by simpa using z
      subst this
      exact .inr hx, idn⟩
  have hl : ρ.length = rt.length := r.root.lens.1
  have v3 : VRs K C G (upd (upd H dx (.own x)) x (.ins (C.at_ c) dx [])) (ρ ++ [x]) (.ref rt.length [] :: xs) (.ref x :: vs) := .cons ⟨x, by rw [← hl]; simp, rfl, ⟨x, rfl, .inr (.inl ⟨_, _, _, upd_same⟩)⟩⟩ (v.up n0 (Pre.app ρ [x]))
  refine sp_use (kx := fun _ _ => False) r3 v3 hd3 hg3 w (fun t rt' fps' fp G' H' v r' n' o' new ⟨ht, hk⟩ => ?_) fun _ _ _ _ _ _ _ _ _ _ z => z.elim
  subst ht
  have e0 : v = .non := by
    cases o'.tr with
    | dat h => cases h; rfl
  refine ⟨e0, ?_⟩
  split at hk
  · rename_i o ho
    have hlen : rt'.length = rt.length + 1 := by
      have := r'.root.lens.1
      rw [List.length_append, hl] at this
      simpa using this.symm
    have hr : rt' = rt'.take rt.length ++ [o] := by
      refine List.ext_getElem? fun j => ?_
      by_cases e : j < rt.length
      · rw [List.getElem?_append_left (by rw [List.length_take]; omega), List.getElem?_take_of_lt e]
      · rw [List.getElem?_append_right (by rw [List.length_take]; omega)]
        have e2 : (rt'.take rt.length).length = rt.length := by rw [List.length_take]; omega
        rw [e2]
        by_cases e3 : j = rt.length
        · subst e3
          rw [ho]
          simp
        · rw [List.getElem?_eq_none (by omega), List.getElem?_eq_none (by simp; omega)]
    have root := r'.root
    rw [hr] at root
    obtain ⟨fps0, fq, e1, h1, h2⟩ := root.unapp (by rw [List.length_take, hl]; omega)
    have nd := r'.nd
    have fl : fps'.flatten = fps0.flatten ++ fq := by rw [e1]; simp
    rw [fl] at nd
    have nd1 := List.nodup_append.mp nd
    have n2 := n0.trans n'
    refine q o _ fps0 fq G' H' ⟨r'.sub, h1, nd1.1, fun a ha => r'.fr a (by rw [fl]; simp [ha])⟩ (n2.less fun l hl => by rw [fl]; simp [hl]) ⟨h2, nd1.2.1, fun a ha z => nd1.2.2 a z a ha rfl, fun a ha => r'.fr a (by rw [fl]; simp [ha])⟩ (fun a ha => n2.new a (by rw [fl]; simp [ha])) hk
  · exact hk.elim
theorem sp_make {cw : CW} {xs : List Val} {vs : List V} {ts : List T} {c : Nat} {k : T → Roots → Prop} {Q : VK} {E : XK} {x dx : Addr} (r : RSt K C rt ρ fps G H) (v : VRs K C G H ρ xs vs) (hd3 : dst (plc (.ref rt.length [] :: xs)) = true) (hg3 : getR (rt ++ [.obj c []]) (plc (.ref rt.length [] :: xs)) = some ts)
    (w : cw (ren (.ref rt.length [] :: xs)) ts (fun t ts' => mkEnd rt.length k t (putR (rt ++ [.obj c []]) (plc (.ref rt.length [] :: xs)) ts')) fun _ _ => False) (hx : H x = none) (hdx : H dx = none) (ne : dx ≠ x)
    (q : ∀ t rt' fps' fp G' H', RSt K C rt' ρ fps' G' H' → Nx fps.flatten G H G' H' fps'.flatten → Own K C fps' G' H' t (.ref x) fp → (∀ a ∈ fp, a ∈ fps.flatten ∨ H a = none) → k t rt' → Q (.ref x) H') :
    spW K C cw (.ref x :: vs) (upd (upd H dx (.own x)) x (.ins (C.at_ c) dx [])) (fun v H2 => v = .non ∧ Q (.ref x) H2) E :=
  sp_makeG r v hd3 hg3 w (fun _ h => .obj h rfl .nil) hx hdx ne q
/-- C(..), its address told -/
def wMakeN (c : Nat) (cw : CW) (w : WA) : WO := fun sl rt k => w sl rt fun xs rt1 => ∀ x : Addr, dst (plc (.ref rt1.length [] :: xs)) = true ∧ match getR (rt1 ++ [.nm x (.obj c [])]) (plc (.ref rt1.length [] :: xs)) with
  | some ts => cw (ren (.ref rt1.length [] :: xs)) ts (fun t ts' => mkEnd rt1.length k t (putR (rt1 ++ [.nm x (.obj c [])]) (plc (.ref rt1.length [] :: xs)) ts')) fun _ _ => False
  | none => False
theorem o_makeN {c : Nat} {cw : CW} {w : WA} {E : XK} : ∀ σ H Q, tO K C U (wMakeN c cw w) σ H Q → tMake (C.at_ c) (spW K C cw) [] E (tA K C U w) σ H Q := fun σ H Q ⟨sl, rt, ρ, fps, G, k, s, xf, w, q⟩ =>
  ⟨sl, rt, ρ, fps, G, _, s, xf, w, fun xs rt1 fps1 G1 H1 vs r1 n1 v1 w1 => by
    intro x dx hx hdx ne
    obtain ⟨hd, w1⟩ := w1 x
    split at w1
    · rename_i ts ht
      rw [List.append_nil]
      exact sp_makeG r1 v1 hd ht w1 (fun _ h => .nm (.obj h rfl .nil)) hx hdx ne fun t rt' fps' fp G' H' r' n' o' new hk => q t rt' fps' fp G' H' _ r' (n1.trans n') o' (fun a ha => (new a ha).elim (fun y => n1.new a y) fun y => .inr (n1.dom a y)) hk
    · exact w1.elim⟩
theorem wo_makeN {c : Nat} {cw : CW} {w : WA} {E : XK} (h : PE X e (tMake (C.at_ c) (spW K C cw) [] E (tA K C U w))) : PE X e (tO K C U (wMakeN c cw w)) := pe_imp h o_makeN
theorem o_make {c : Nat} {cw : CW} {w : WA} {E : XK} : ∀ σ H Q, tO K C U (wMake c cw w) σ H Q → tMake (C.at_ c) (spW K C cw) [] E (tA K C U w) σ H Q := fun σ H Q ⟨sl, rt, ρ, fps, G, k, s, xf, w, q⟩ =>
  ⟨sl, rt, ρ, fps, G, _, s, xf, w, fun xs rt1 fps1 G1 H1 vs r1 n1 v1 ⟨hd, w1⟩ => by
    split at w1
    · rename_i ts ht
      intro x dx hx hdx ne
      rw [List.append_nil]
      exact sp_make r1 v1 hd ht w1 hx hdx ne fun t rt' fps' fp G' H' r' n' o' new hk => q t rt' fps' fp G' H' _ r' (n1.trans n') o' (fun a ha => (new a ha).elim (fun y => n1.new a y) fun y => .inr (n1.dom a y)) hk
    · exact w1.elim⟩
theorem wo_make {c : Nat} {cw : CW} {w : WA} {E : XK} (h : PE X e (tMake (C.at_ c) (spW K C cw) [] E (tA K C U w))) : PE X e (tO K C U (wMake c cw w)) := pe_imp h o_make

/-! ### fields -/
theorem look_at : ∀ {fs : List (Str × V)} {ns : List Str} {i : Nat} {f : Str} {v : V}, fs.map Prod.fst = ns.take fs.length → ns.Nodup → ns[i]? = some f → (fs.map Prod.snd)[i]? = some v → fs.lookup f = some v
  | [], _, _, _, _, _, _, _, h => by simp at h
  | (g, x) :: fs, n :: ns, 0, f, v, e, _, h1, h2 => by
    simp only [List.map_cons, List.length_cons, List.take_succ_cons, List.cons.injEq] at e
    cases Option.some.inj h1
    cases Option.some.inj h2
    rw [e.1]
    simp [List.lookup]
  | (g, x) :: fs, n :: ns, i + 1, f, v, e, nd, h1, h2 => by
    simp only [List.map_cons, List.length_cons, List.take_succ_cons, List.cons.injEq] at e
    have nd := List.nodup_cons.mp nd
    have h1 : ns[i]? = some f := h1
    have ne : f ≠ g := fun z => nd.1 (by rw [← e.1, ← z]; exact List.mem_of_getElem? h1)
    have : (f == g) = false := by simpa using ne
    simp only [List.lookup, this]
    exact look_at e.2 nd.2 h1 h2
  | _ :: _, [], _, _, _, e, _, _, _ => by simp at e
theorem look_no : ∀ {fs : List (Str × V)} {f : Str}, f ∉ fs.map Prod.fst → fs.lookup f = none
  | [], _, _ => rfl
  | (g, x) :: fs, f, h => by
    simp only [List.map_cons, List.mem_cons, not_or] at h
    have : (f == g) = false := by simpa using h.1
    simp only [List.lookup, this]
    exact look_no h.2
/-- f is a field of these classes, at these places -/
def FOk (K : PySem.W.Frag) (C : Cs) (F : Nat → Option Nat) (f : Str) : Prop := ∀ c i, F c = some i → Cls K (C.at_ c) ∧ NoAttr K (C.at_ c) f ∧ (C.ly c)[i]? = some f ∧ (C.ly c).Nodup
def wFld (F : Nat → Option Nat) (w : WE) : WE := fun sl rt k => w sl rt fun x rt1 => match x with
  | .dat (.obj c ds) => match F c with
    | some i => match ds[i]? with
      | some d => k (.dat d) rt1
      | none => False
    | none => False
  | .ref r p => match tat rt1 r p with
    | some (.obj c ts) => match F c with
      | some i => match ts[i]? with
        | some u => k (Val.of r (p ++ [i]) u) rt1
        | none => False
      | none => False
    | _ => False
  | _ => False
theorem e_fld {F : Nat → Option Nat} {f : Str} (hF : FOk K C F f) {w : WE} : ∀ σ H Q, tE K C U (wFld F w) σ H Q → tFld K (tE K C U w) f σ H Q := fun σ H Q ⟨sl, rt, ρ, fps, G, k, s, xf, w, q⟩ =>
  ⟨sl, rt, ρ, fps, G, _, s, xf, w, fun x rt1 fps1 G1 H1 v r1 n1 v1 w1 => by
    split at w1
    · split at w1
      · rename_i c ds i hi
        split at w1
        · rename_i d hd
          cases v1 with
          | obj h n r =>
            obtain ⟨z, z1, z2⟩ := r.get hd
            obtain ⟨f1, f2, f3, f4⟩ := hF _ _ hi
            exact ⟨_, _, _, _, z, rfl, r1.sub _ _ h, f1, f2, look_at n f4 f3 z1, q (.dat d) rt1 fps1 G1 H1 _ r1 n1 z2 w1⟩
        · exact w1.elim
      · exact w1.elim
    · rename_i r p
      split at w1
      · rename_i c ts ht
        split at w1
        · rename_i i hi
          split at w1
          · rename_i u hu
            obtain ⟨a, fu, k1, k2, k3, _⟩ := r1.get ht v1
            cases k3 with
            | obj h n tr =>
              obtain ⟨z, fz, z1, z2, _⟩ := tr.get hu
              obtain ⟨f1, f2, f3, f4⟩ := hF _ _ hi
              refine ⟨_, _, _, _, z, rfl, h, f1, f2, look_at n f4 f3 z1, q _ rt1 fps1 G1 H1 z r1 n1 (VR.of k1 ?_ z2) w1⟩
              rw [fol_snoc, k2]
              show (match H1 _ with | some (.lst xs) => (xs[i]?).bind (fol H1 []) | some (.ins _ _ fs) => ((fs.map Prod.snd)[i]?).bind (fol H1 []) | some (.dK kvs) => ((kvs.map Prod.snd)[i]?).bind (fol H1 []) | _ => none) = some z
              rw [h]
              show (_[i]?).bind (fol H1 []) = some z
              rw [z1]
              rfl
          · exact w1.elim
        · exact w1.elim
      · exact w1.elim
    · exact w1.elim⟩
theorem we_fld {F : Nat → Option Nat} {f : Str} (hF : FOk X.K C F f) {w : WE} (he : PE X e (tE X.K C U w)) (hb : attributeBase e f X.env (eval e X.env) = eval e X.env) : PE X (.Attribute e f pos) (tE X.K C U (wFld F w)) := pe_imp (pe_fld he hb) (e_fld hF)
/-- o.m(..) of a class -/
def isObj (c : Nat) (x : Val) (rt : Roots) : Prop := match x with
  | .dat (.obj c' _) => c' = c
  | .ref r p => match tat rt r p with
    | some (.obj c' _) => c' = c
    | _ => False
  | _ => False
theorem RSt.isObj (r1 : RSt K C rt ρ fps G H) {x : Val} {v : V} {c : Nat} (v1 : VR K C G H ρ x v) (hx : isObj c x rt) : ∃ a dx fs, v = .ref a ∧ H a = some (.ins (C.at_ c) dx fs) ∧ fs.map Prod.fst = (C.ly c).take fs.length := by
  unfold Wv.isObj at hx
  split at hx
  · cases v1 with
    | obj h n r =>
      subst hx
      exact ⟨_, _, _, rfl, r1.sub _ _ h, n⟩
  · split at hx
    · rename_i ht
      obtain ⟨a, fu, k1, k2, k3, _⟩ := r1.get ht v1
      cases k3 with
      | obj h n tr =>
        subst hx
        exact ⟨_, _, _, rfl, h, n⟩
    · exact hx.elim
  · exact hx.elim
def wMeth (c : Nat) (cw : CW) (wo : WE) (w : WA) : WO := fun sl rt k => wo sl rt fun x rt1 => isObj c x rt1 ∧ w sl rt1 fun xs rt2 => dst (plc (x :: xs)) = true ∧ match getR rt2 (plc (x :: xs)) with
  | some ts => cw (ren (x :: xs)) ts (fun t ts' => k t (putR rt2 (plc (x :: xs)) ts')) fun y ts' => sl.ex y sl.sl (putR rt2 (plc (x :: xs)) ts')
  | none => False
theorem o_meth {c : Nat} {cw : CW} {wo : WE} {w : WA} {m : Str} (hm : m ∉ C.ly c) : ∀ σ H Q, tO K C U (wMeth c cw wo w) σ H Q → tMethX (C.at_ c) m (spW K C cw) (fun σ cls d H => U cls d σ H) (tE K C U wo) (tA K C U w) σ H Q := fun σ H Q ⟨sl, rt, ρ, fps, G, k, s, xf, w, q⟩ =>
  ⟨sl, rt, ρ, fps, G, _, s, xf, w, fun x rt1 fps1 G1 H1 v r1 n1 v1 ⟨hx, w1⟩ => by
    obtain ⟨a, dx, fs, rfl, h, n⟩ := r1.isObj v1 hx
    refine ⟨a, dx, fs, rfl, h, look_no fun z => hm (List.mem_of_mem_take (by rw [← n]; exact z)), sl, rt1, ρ, fps1, G1, _, s.step r1 n1 fun _ _ e => e, xf.later n1 (Pre.refl _), w1, fun xs rt2 fps2 G2 H2 vs r2 n2 v2 ⟨hd, w2⟩ => ?_⟩
    split at w2
    · rename_i ts ht
      have n3 := n1.trans n2
      exact sp_use r2 (.cons (v1.up n2 fun _ _ e => e) v2) hd ht w2 (fun t rt' fps' fp G' H' v r' n' o' new hk => q t rt' fps' fp G' H' v r' (n3.trans n') o' (fun a ha => (new a ha).elim (fun y => n3.new a y) fun y => .inr (n3.dom a y)) hk)
        fun y rt' fps' G' H' cls d r' n' xr hk => xf y _ rt' σ ρ fps' G' H' cls d (s.step r' (n3.trans n') fun _ _ e => e) (n3.trans n') (Pre.refl _) (xr.early n3.dom) hk
    · exact w2.elim⟩
theorem o_meth0 {c : Nat} {cw : CW} {wo : WE} {m : Str} (hm : m ∉ C.ly c) {σ : L2.St} {H : Hp} {Q : VK} (h : tO K C U (wMeth c cw wo wNil) σ H Q) : tMethX (C.at_ c) m (spW K C cw) (fun σ cls d H => U cls d σ H) (tE K C U wo) tNil σ H Q := by
  have := o_meth hm σ H Q h
  obtain ⟨sl, rt, ρ, fps, G, k, s, xf, w, q⟩ := this
  refine ⟨sl, rt, ρ, fps, G, k, s, xf, w, fun x rt' fps' G' H' v r n vr hk => ?_⟩
  obtain ⟨a, dx, fs, h1, h2, h3, h4⟩ := q x rt' fps' G' H' v r n vr hk
  refine ⟨a, dx, fs, h1, h2, h3, ?_⟩
  obtain ⟨sl2, rt2, ρ2, fps2, G2, k2, s2, _, w2, q2⟩ := h4
  exact q2 [] rt2 fps2 G2 H' [] s2.toRSt (Nx.refl _ _ _) .nil w2
theorem wo_meth {c : Nat} {cw : CW} {wo : WE} {w : WA} {m : Str} (hm : m ∉ C.ly c) (h : PE X e (tMethX (C.at_ c) m (spW K C cw) (fun σ cls d H => U cls d σ H) (tE K C U wo) (tA K C U w))) : PE X e (tO K C U (wMeth c cw wo w)) := pe_imp h (o_meth hm)
theorem wo_meth0 {c : Nat} {cw : CW} {wo : WE} {m : Str} (hm : m ∉ C.ly c) (h : PE X e (tMethX (C.at_ c) m (spW K C cw) (fun σ cls d H => U cls d σ H) (tE K C U wo) tNil)) : PE X e (tO K C U (wMeth c cw wo wNil)) := pe_imp h fun σ H Q q => o_meth0 hm q
/-- o.f = e -/
theorem putF_new : ∀ {fs : List (Str × V)} {f : Str} {v : V}, f ∉ fs.map Prod.fst → putF f v fs = fs ++ [(f, v)]
  | [], _, _, _ => rfl
  | (g, x) :: fs, f, v, h => by
    simp only [List.map_cons, List.mem_cons, not_or] at h
    show (if g = f then (g, v) :: fs else (g, x) :: putF f v fs) = _
    rw [if_neg fun z => h.1 z.symm, putF_new h.2]
    rfl
theorem putF_old : ∀ {fs : List (Str × V)} {ns : List Str} {i : Nat} {f : Str} {v : V}, fs.map Prod.fst = ns.take fs.length → ns.Nodup → ns[i]? = some f → i < fs.length → putF f v fs = fs.set i (f, v)
  | [], _, _, _, _, _, _, _, h => by simp at h
  | (g, x) :: fs, n :: ns, 0, f, v, e, _, h1, _ => by
    simp only [List.map_cons, List.length_cons, List.take_succ_cons, List.cons.injEq] at e
    cases Option.some.inj h1
    have e1 : g = n := e.1
    show (if g = n then (g, v) :: fs else (g, x) :: putF n v fs) = _
    rw [if_pos e1, e1]
    rfl
  | (g, x) :: fs, n :: ns, i + 1, f, v, e, nd, h1, h2 => by
    simp only [List.map_cons, List.length_cons, List.take_succ_cons, List.cons.injEq] at e
    have nd := List.nodup_cons.mp nd
    have h1 : ns[i]? = some f := h1
    have ne : g ≠ f := fun z => nd.1 (by rw [← e.1, z]; exact List.mem_of_getElem? h1)
    show (if g = f then (g, v) :: fs else (g, x) :: putF f v fs) = _
    rw [if_neg ne, putF_old e.2 nd.2 h1 (by simpa using h2)]
    rfl
  | _ :: _, [], _, _, _, e, _, _, _ => by simp at e
theorem idn_ins {b c dx : Addr} {fs fs' : List (Str × V)} (hb : H b = some (.ins c dx fs)) (k : ∀ (i : Nat) x, (fs.map Prod.snd)[i]? = some x → NodeV H x → (fs'.map Prod.snd)[i]? = some x) : Idn H (upd H b (.ins c dx fs')) := by
  refine Idn.of (fun w hw => ?_) (fun a i w hw hn => ?_)
  · obtain ⟨a, rfl, h⟩ := hw
    refine ⟨a, rfl, ?_⟩
    by_cases z : a = b
    · exact .inr (.inl ⟨c, dx, fs', by rw [z, upd_same]⟩)
    · rw [upd_ne z]
      exact h
  · obtain ⟨v, h, rfl⟩ := hw
    by_cases z : a = b
    · subst z
      have h' : (match H a with | some (.lst xs) => (xs[i]?).bind (fol H []) | some (.ins _ _ fs) => ((fs.map Prod.snd)[i]?).bind (fol H []) | some (.dK kvs) => ((kvs.map Prod.snd)[i]?).bind (fol H []) | _ => none) = some v := h
      rw [hb] at h'
      have h2 : ((fs.map Prod.snd)[i]?).bind (fol H []) = some v := h'
      show (match upd H a (.ins c dx fs') a with | some (.lst xs) => (xs[i]?).bind (fol (upd H a (.ins c dx fs')) []) | some (.ins _ _ fs) => ((fs.map Prod.snd)[i]?).bind (fol (upd H a (.ins c dx fs')) []) | some (.dK kvs) => ((kvs.map Prod.snd)[i]?).bind (fol (upd H a (.ins c dx fs')) []) | _ => none) = some v
      rw [upd_same]
      show ((fs'.map Prod.snd)[i]?).bind (fol (upd H a (.ins c dx fs')) []) = some v
      cases q : (fs.map Prod.snd)[i]? with
      | none => rw [q] at h2; cases h2
      | some y =>
        rw [q] at h2
        cases Option.some.inj h2
        rw [k i v q hn]
        rfl
    · show (match upd H b (.ins c dx fs') a with | some (.lst xs) => (xs[i]?).bind (fol (upd H b (.ins c dx fs')) []) | some (.ins _ _ fs) => ((fs.map Prod.snd)[i]?).bind (fol (upd H b (.ins c dx fs')) []) | some (.dK kvs) => ((kvs.map Prod.snd)[i]?).bind (fol (upd H b (.ins c dx fs')) []) | _ => none) = some v
      rw [upd_ne z]
      exact h
def wSetF (F : Nat → Option Nat) (w : WO) (wx : WE) : WS := fun Z sl rt => w ⟨sl, Z.ex⟩ rt fun t rt1 => wx ⟨sl, Z.ex⟩ rt1 fun x rt2 => match x with
  | .ref r p => match tat rt2 r p with
    | some (.obj c ts) => match F c with
      | some i => ts.length < 900 ∧ ((i = ts.length ∧ Z.nx sl (rt2.modify r (T.put (.obj c (ts ++ [t])) p))) ∨ ∃ d u, t = .dat d ∧ ts[i]? = some u ∧ leafT u = true ∧ Z.nx sl (rt2.modify r (T.put (.obj c (ts.set i (.dat d))) p)))
      | none => False
    | _ => False
  | _ => False
theorem noPassW {P : Program} {w : World} : Passes (L2N.CX P w) X (fun _ _ _ => False) := fun pins σ H s e s' I c => by
  obtain ⟨_, _, _, _, _, _, _, _, _, _, _, _, z⟩ := c
  exact z.elim
theorem takesNo : L2N.Takes X (fun _ _ _ _ => False) := fun u s' x => by
  obtain ⟨_, _, _, _, _, _, _, _, _, _, _, _, _, _, _, _, z⟩ := x
  exact z.elim
end
end Wv
end

section
set_option Elab.async false
set_option linter.all false
set_option maxRecDepth 100000
set_option maxHeartbeats 4000000
namespace Wv
open PySem PySem.Spec PyProof.Rows L2 Evl
section
variable {K : PySem.W.Frag} {C : Cs} {U U' : UX} {G H G' H' G1 H1 G2 H2 : Hp} {sl sl' : Slots} {rt rt' : Roots} {σ : L2.St} {ρ ρ' ρ1 : List Addr} {fps fps' fps1 : List (List Addr)}
variable {X : Cx} {CX : CXT} {a b c e o : Expr} {es rest : List Expr} {wa wb wc : WE} {pos p apos : Pos} {Z : WEnds} {E : Ends} {st : Stmt}
theorem s_setF {F : Nat → Option Nat} {f : Str} (hF : FOk K C F f) {w : WO} {wx : WE} : ∀ D σ H, tS K C U (wSetF F w wx) D σ H → sFld K (tE K C U wx) (tO K C U w) f D σ H := fun D σ H ⟨Z, sl, rt, ρ, fps, G, s, w, fn⟩ =>
  ⟨⟨sl, Z.ex⟩, rt, ρ, fps, G, _, s, fn.xf, w, fun t rt1 fps1 fp G1 H1 y r1 n1 o1 new w1 => ⟨⟨sl, Z.ex⟩, rt1, ρ, fps1, G1, _, s.step r1 n1 fun _ _ e => e, fn.xf.later n1 (Pre.refl _), w1, fun x rt2 fps2 G2 H2 v r2 n2 v2 w2 => by
    split at w2
    · rename_i r p
      split at w2
      · rename_i c ts ht
        split at w2
        · rename_i i hi
          obtain ⟨f1, f2, f3, f4⟩ := hF _ _ hi
          obtain ⟨a, fu, z1, z2, z3, _⟩ := r2.get ht v2
          have o2 := o1.past n2
          cases z3 with
          | @obj b dx fs _ _ fq hb nm tr =>
            have hlen : fs.length = ts.length := by
              have := TRs.len tr
              simpa using this
            obtain ⟨w0, w2⟩ := w2
            refine ⟨b, _, dx, fs, rfl, hb, f1, f2, by omega, ?_⟩
            rcases w2 with ⟨he, w2⟩ | ⟨d, u, rfl, hu, hlf, w2⟩
            · have hnew : f ∉ fs.map Prod.fst := fun z => by
                rw [nm] at z
                obtain ⟨j, hj⟩ := List.getElem?_of_mem z
                have hj2 : j < fs.length := by
                  have := (List.getElem?_eq_some_iff.mp hj).1
                  rw [List.length_take] at this
                  omega
                rw [List.getElem?_take_of_lt hj2] at hj
                obtain ⟨p1, p2⟩ := List.getElem?_eq_some_iff.mp hj
                obtain ⟨p3, p4⟩ := List.getElem?_eq_some_iff.mp f3
                have := (List.getElem_inj f4).mp (p2.trans p4.symm)
                omega
              have e0 : putF f y fs = fs ++ [(f, y)] := putF_new hnew
              rw [e0]
              have idn : Idn H2 (upd H2 b (.ins (C.at_ c) dx (fs ++ [(f, y)]))) := idn_ins hb fun i q hq _ => by
                rw [List.map_append, List.getElem?_append_left (List.getElem?_eq_some_iff.mp hq).1]
                exact hq
              obtain ⟨fps3, r3, mem, hbF⟩ := r2.write (t' := .obj c (ts ++ [t])) (fn := fp) ht z1 z2 (by intro d q; cases q) idn (fun fu hfu => by
                cases hfu with
                | @obj _ dx' fs' _ _ fq' hb' nm' tr' =>
                  rw [hb] at hb'
                  cases hb'
                  refine ⟨List.mem_cons_self, fun nd dis => ?_⟩
                  have nb := (List.nodup_cons.mp nd).1
                  refine ⟨b :: (fq' ++ (fp ++ [])), .obj upd_same ?_ ?_, ?_⟩
                  · rw [List.map_append, nm, List.length_append, List.length_cons, List.length_nil]
                    have : (C.ly c).take (fs.length + (0 + 1)) = (C.ly c).take fs.length ++ [f] := by
                      rw [Nat.zero_add, List.take_succ, hlen, ← he, f3]
                      rfl
                    rw [this]
                    rfl
                  · rw [List.map_append]
                    exact TRs.app (TRs.stay (Ex.refl _) _ _ _ tr' fun q hq => upd_ne fun z => nb (by rw [← z]; exact hq)) (.cons (TR.stay (Ex.refl _) _ _ _ o2.tr fun q hq => upd_ne fun z => dis q hq (by rw [z]; exact List.mem_cons_self)) .nil)
                  · rw [List.append_nil]
                    exact List.Perm.refl _) o2.nd o2.ap o2.fr
              have nW : Nx fps2.flatten G2 H2 G2 (upd H2 b (.ins (C.at_ c) dx (fs ++ [(f, y)]))) fps2.flatten := Nx.write (fps' := fps2) hbF (by rw [hb]; exact fun q => nomatch q) idn (fp := []) (fun _ q => nomatch q)
              have n3 := (n1.trans n2).trans nW
              have n4 : Nx fps.flatten G H G2 (upd H2 b (.ins (C.at_ c) dx (fs ++ [(f, y)]))) fps3.flatten := ⟨n3.g, n3.keep, n3.dom, fun l hl => by
                rcases mem l hl with q | q
                · exact n3.new l q
                · exact new l q, n3.idn⟩
              exact fn.nx sl _ σ ρ fps3 G2 _ (s.step r3 n4 fun _ _ e => e) n4 (Pre.refl _) w2
            · have hi2 : i < fs.length := by rw [hlen]; exact (List.getElem?_eq_some_iff.mp hu).1
              have e0 : putF f y fs = fs.set i (f, y) := putF_old nm f4 f3 hi2
              rw [e0]
              have hd : DR K C G2 y d := by
                cases o2.tr with
                | dat h => exact h
              obtain ⟨vo, fo, q1, q2, _⟩ := tr.get hu
              have ms : (fs.set i (f, y)).map Prod.snd = (fs.map Prod.snd).set i y := by rw [List.map_set]
              have mf : (fs.set i (f, y)).map Prod.fst = (C.ly c).take (fs.set i (f, y)).length := by
                rw [List.map_set, nm, List.length_set]
                refine List.ext_getElem? fun j => ?_
                rw [List.getElem?_set]
                split
                · rename_i e
                  subst e
                  split
                  · rw [List.getElem?_take_of_lt hi2, f3]
                  · rename_i h
                    exfalso
                    rw [List.length_take] at h
                    have := (List.getElem?_eq_some_iff.mp f3).1
                    omega
                · rfl
              have idn : Idn H2 (upd H2 b (.ins (C.at_ c) dx (fs.set i (f, y)))) := idn_ins hb fun j q hq nq => by
                rw [ms]
                by_cases z : i = j
                · subst z
                  rw [q1] at hq
                  cases hq
                  exact absurd nq ((leaf_ok hlf q2).2.2 _ r2.sub)
                · rw [List.getElem?_set_ne z]
                  exact hq
              obtain ⟨fps3, r3, mem, hbF⟩ := r2.write (t' := .obj c (ts.set i (.dat d))) (fn := []) ht z1 z2 (by intro d q; cases q) idn (fun fu hfu => by
                cases hfu with
                | @obj _ dx' fs' _ _ fq' hb' nm' tr' =>
                  rw [hb] at hb'
                  cases hb'
                  refine ⟨List.mem_cons_self, fun nd dis => ?_⟩
                  have nb := (List.nodup_cons.mp nd).1
                  refine ⟨b :: fq', .obj upd_same mf ?_, by rw [List.append_nil]⟩
                  rw [ms]
                  exact TRs.set (TRs.stay (Ex.refl _) _ _ _ tr' fun q hq => upd_ne fun z => nb (by rw [← z]; exact hq)) hu hlf hd) List.nodup_nil (fun _ q => nomatch q) (fun _ q => nomatch q)
              have nW : Nx fps2.flatten G2 H2 G2 (upd H2 b (.ins (C.at_ c) dx (fs.set i (f, y)))) fps2.flatten := Nx.write (fps' := fps2) hbF (by rw [hb]; exact fun q => nomatch q) idn (fp := []) (fun _ q => nomatch q)
              have n3 := (n1.trans n2).trans nW
              have n4 : Nx fps.flatten G H G2 (upd H2 b (.ins (C.at_ c) dx (fs.set i (f, y)))) fps3.flatten := n3.less fun l hl => by
                rcases mem l hl with q | q
                · exact q
                · cases q
              exact fn.nx sl _ σ ρ fps3 G2 _ (s.step r3 n4 fun _ _ e => e) n4 (Pre.refl _) w2
        · exact w2.elim
      · exact w2.elim
    · exact w2.elim⟩⟩
theorem ws_setF {F : Nat → Option Nat} {f : Str} (hF : FOk X.K C F f) {w : WO} {wx : WE} {pos' : Pos} (ha : PE X o (tE X.K C U wx)) (hv : PE X e (tO X.K C U w)) (hs : swapsWith e (some (.Attribute o f pos')) pos.line X.env = pure false) : PS X (.Assign [.Attribute o f pos'] e pos) (tS X.K C U (wSetF F w wx)) :=
  ps_imp (ps_fld ha hv hs) (s_setF hF)

/-! ### comprehensions -/
def wipeS : List Nat → Slots → Slots
  | [], sl => sl
  | v :: vs, sl => (wipeS vs sl).set v none
theorem St.wipe (s : St K C sl rt σ ρ fps G H) : ∀ vs : List Nat, St K C (wipeS vs sl) rt (L2.wipe σ vs) ρ fps G H
  | [] => s
  | v :: vs => by
    have s2 := St.wipe s vs
    refine ⟨s2.toRSt, ?_, fun i x e => ?_⟩
    · show ((L2.wipe σ vs).set v none).length = ((wipeS vs sl).set v none).length
      rw [List.length_set, List.length_set, s2.len]
    · rcases get_set (show ((wipeS vs sl).set v none)[i]? = some (some x) from e) with ⟨_, q⟩ | ⟨n, q⟩
      · cases q
      · obtain ⟨w, h1, h2⟩ := s2.slot i x q
        exact ⟨w, by show ((L2.wipe σ vs).set v none)[i]? = _; rw [List.getElem?_set_ne n]; exact h1, h2⟩
theorem wipe_set : ∀ (vs : List Nat) (σ : L2.St) (j : Nat) (x : Option V), j ∈ vs → L2.wipe (σ.set j x) vs = L2.wipe σ vs
  | v :: vs, σ, j, x, h => by
    show (L2.wipe (σ.set j x) vs).set v none = (L2.wipe σ vs).set v none
    by_cases e : j ∈ vs
    · rw [wipe_set vs σ j x e]
    · have ej : j = v := by
        rcases List.mem_cons.mp h with z | z
        · exact z
        · exact absurd z e
      subst ej
      have : ∀ (vs : List Nat) (σ : L2.St), j ∉ vs → L2.wipe (σ.set j x) vs = (L2.wipe σ vs).set j x := by
        intro vs
        induction vs with
        | nil => exact fun _ _ => rfl
        | cons u us ih =>
          intro σ h
          simp only [List.mem_cons, not_or] at h
          show (L2.wipe (σ.set j x) us).set u none = ((L2.wipe σ us).set u none).set j x
          rw [ih σ h.2, List.set_comm _ _ h.1]
      rw [this vs σ e, List.set_set]
theorem wipe_idem : ∀ (vs : List Nat) (σ : L2.St), L2.wipe (L2.wipe σ vs) vs = L2.wipe σ vs := by
  intro vs σ
  have : ∀ (us : List Nat), (∀ u ∈ us, u ∈ vs) → L2.wipe (L2.wipe σ us) vs = L2.wipe σ vs := by
    intro us
    induction us with
    | nil => exact fun _ => rfl
    | cons u us ih =>
      intro h
      show L2.wipe ((L2.wipe σ us).set u none) vs = _
      rw [wipe_set vs _ u none (h u (by simp)), ih fun x hx => h x (by simp [hx])]
  exact this vs fun _ h => h
/-- a target stores in the block's own slots alone -/
def TgW (g : TG) (vs : List Nat) : Prop := ∀ v σ H Q, g v σ H (fun σ2 H2 => L2.wipe σ2 vs = L2.wipe σ vs → Q σ2 H2) → g v σ H Q
theorem tgw_name {j : Nat} {vs : List Nat} (h : j ∈ vs) : TgW (gName j) vs := fun v σ H Q q => q (wipe_set vs σ j _ h)
theorem tgw_all {vs : List Nat} : ∀ {js : List Nat}, (∀ j ∈ js, j ∈ vs) → ∀ xs σ H Q, gAll js xs σ H (fun σ2 H2 => L2.wipe σ2 vs = L2.wipe σ vs → Q σ2 H2) → gAll js xs σ H Q
  | [], _, xs, σ, H, Q, ⟨e, q⟩ => ⟨e, q rfl⟩
  | j :: js, h, xs, σ, H, Q, ⟨v, r, e, q⟩ => ⟨v, r, e, by
    refine tgw_all (js := js) (fun x hx => h x (by simp [hx])) r (σ.set j (some v)) H Q ?_
    rw [wipe_set vs σ j _ (h j (by simp))]
    exact q⟩
theorem tgw_tup {js vs : List Nat} {n : Nat} (h : ∀ j ∈ js, j ∈ vs) : TgW (gTup K n (gAll js)) vs := fun v σ H Q ⟨a, xs, e, h1, h2, q⟩ => ⟨a, xs, e, h1, h2, tgw_all h xs σ H Q q⟩
def wYes : WT := fun _ rt k => k true rt
theorem t_yes : ∀ σ H Q, tT K C U wYes σ H Q → tYes σ H Q := fun σ H Q ⟨sl, rt, ρ, fps, G, k, s, xf, w, q⟩ => q true rt fps G H s.toRSt (Nx.refl _ _ _) w
/-- no error leaves a comprehension -/
abbrev noU : UX := fun _ _ _ _ => False
def blk (sl : Slots) : Cxt := ⟨sl, fun _ _ _ => False⟩
def wLc (it : WI) (tg : Tg) (vs : List Nat) (tt : WT) (elt : WO) : WO := fun sl rt k => it sl rt fun ds rt1 => ∃ I : Nat → List T → Roots → Prop, I 0 [] rt1 ∧
  (∀ i d acc rt', ds[i]? = some d → I i acc rt' → acc.length < 40000 ∧ tg d (wipeS vs sl.sl) fun sl2 => tt (blk sl2) rt' fun b rt2 => (b = true → elt (blk sl2) rt2 fun t rt3 => I (i + 1) (acc ++ [t]) rt3) ∧ (b = false → I (i + 1) acc rt2)) ∧
  ∀ acc rt', I ds.length acc rt' → k (.lst acc) rt'
theorem o_lc {it : WI} {tg : Tg} {g : TG} {vs : List Nat} {tt : WT} {elt : WO} (hg : TgOk K C g tg) (hw : TgW g vs) : ∀ σ H Q, tO K C U (wLc it tg vs tt elt) σ H Q → tLc (tI K C U it) g (tT K C U' tt) (tO K C U' elt) vs σ H Q := fun σ H Q ⟨sl, rt, ρ, fps, G, k, s, xf, w, q⟩ =>
  ⟨sl, rt, ρ, fps, G, _, s, xf, w, fun ds rt1 fps1 G1 H1 J r1 n1 ⟨Gd, Y, wk, hGd, hY⟩ ⟨I, i0, it, fin⟩ Dl hDl => by
    have sW := s.wipe vs
    have hD0 : H Dl = none := n1.dom Dl hDl
    obtain ⟨r2, o2⟩ := r1.newL hDl (TRs.nil (K := K) (C := C) (G := G1) (H := H1)) List.nodup_nil (fun _ z => nomatch z) (fun _ z => nomatch z) (fun _ z => nomatch z)
    refine lc_it wk (fun i H' => ∃ acc rt' fps' G' fpD, I i acc rt' ∧ RSt K C rt' ρ fps' G' H' ∧ Nx fps.flatten G H G' H' fps'.flatten ∧ Ex G1 G' ∧ Own K C fps' G' H' (.lst acc) (.ref Dl) fpD ∧ ∀ a ∈ fpD, a ∈ fps.flatten ∨ H a = none)
      ⟨[], rt1, fps1, G1, _, i0, r2, n1.trans (Nx.grow hDl), Ex.refl _, o2, fun a ha => by
        have : a = Dl := by simpa using ha
        exact .inr (by rw [this]; exact hD0)⟩ (fun i H' _ ⟨acc, rt', fps', G', fpD, _, r', _, e', _⟩ => hGd H' (e'.trans r'.sub)) (fun i v H' H3 hi ⟨acc, rt', fps', G', fpD, hI, r', n', e', oD, newD⟩ y => ?_) fun H' ⟨acc, rt', fps', G', fpD, hI, r', n', _, oD, newD⟩ => q (.lst acc) rt' fps' fpD G' H' _ r' n' oD newD (fin acc rt' hI)
    have hd : ds[i]? = some ds[i] := List.getElem?_eq_getElem hi
    have s' := sW.step r' n' fun _ _ e => e
    obtain ⟨G3, s3, n3, d3⟩ := YD.step (hY i _ H' v H3 hd (e'.trans r'.sub) y) s' e'
    obtain ⟨hlen, ht⟩ := it i _ acc rt' hd hI
    have oD3 := oD.past n3
    have fr1 : ∀ a ∈ fpD, a ∉ fps.flatten → H a = none := fun a ha z => (newD a ha).elim (fun y => absurd y z) fun y => y
    refine hw v _ _ _ (hg _ v _ rt' _ ρ fps' G3 H3 _ _ s3 d3 ht fun sl2 σ2 hb s2 he => ⟨by rw [he, wipe_idem], blk sl2, rt', ρ, fps', G3, _, s2, Xf.no, hb, fun b rt2 fps2 G4 H4 r4 n4 w4 => ?_⟩)
    have oD4 := oD3.past n4
    have n14 := n'.trans (n3.trans n4)
    cases b with
    | false =>
      show _
      simp only [Bool.false_eq_true, if_false]
      exact ⟨acc, rt2, fps2, G4, fpD, w4.2 rfl, r4, n14, e'.trans (n3.g.trans n4.g), oD4, newD⟩
    | true =>
      simp only [if_true]
      refine ⟨blk sl2, rt2, ρ, fps2, G4, _, s2.step r4 n4 fun _ _ e => e, Xf.no, w4.1 rfl, fun t rt3 fps3 fp G5 H5 y5 r5 n5 o5 new5 hI5 => ?_⟩
      have oD5 := oD4.past n5
      have inD4 := oD4.inH
      have dis : ∀ a ∈ fp, a ∉ fpD := fun a ha z => by
        rcases new5 a ha with q | q
        · exact oD4.ap a z q
        · exact inD4 a z q
      have n15 := n14.trans n5
      obtain ⟨otr, ond, oap, ofr⟩ := oD5
      cases otr with
      | @lst _ accV _ fq hD tr =>
        have idn : Idn H5 (upd H5 Dl (.lst (accV ++ [y5]))) := idn_lst hD fun i q hq _ => by
          rw [List.getElem?_append_left (List.getElem?_eq_some_iff.mp hq).1]
          exact hq
        have nq := List.nodup_cons.mp ond
        have out : ∀ a, a ∈ fps3.flatten → a ≠ Dl := fun a ha z => oap Dl List.mem_cons_self (by rw [← z]; exact ha)
        refine ⟨accV, hD, sz_lt (by rw [TRs.len tr]; omega), acc ++ [t], rt3, fps3, G5, Dl :: (fq ++ (fp ++ [])), hI5, ⟨fun a u e => ?_, r5.root.stay (Ex.refl _) (fun a ha => upd_ne (out a ha)), r5.nd, r5.fr⟩, ⟨n15.g, fun l u h z => ?_, fun l h => n15.dom l (upd_none h), n15.new, n15.idn.trans idn⟩, e'.trans (n3.g.trans (n4.g.trans n5.g)), ⟨.lst upd_same (TRs.app (TRs.stay (Ex.refl _) _ _ _ tr fun a ha => upd_ne fun z => nq.1 (by rw [← z]; exact ha)) (.cons (TR.stay (Ex.refl _) _ _ _ o5.tr fun a ha => upd_ne fun z => dis a ha (by rw [z]; exact List.mem_cons_self)) .nil)), ?_, ?_, ?_⟩, ?_⟩
        · have : a ≠ Dl := fun z => by rw [z, ofr Dl List.mem_cons_self] at e; cases e
          rw [upd_ne this]
          exact r5.sub a u e
        · obtain ⟨k1, k2⟩ := n15.keep l u h z
          refine ⟨?_, k2⟩
          rw [upd_ne fun y => by rw [y, hD0] at h; cases h]
          exact k1
        · rw [List.append_nil]
          refine List.nodup_cons.mpr ⟨fun z => ?_, List.nodup_append.mpr ⟨nq.2, o5.nd, fun a ha b hb e => dis b hb (by rw [← e]; exact List.mem_cons_of_mem _ ha)⟩⟩
          rcases List.mem_append.mp z with q | q
          · exact nq.1 q
          · exact dis Dl q List.mem_cons_self
        · intro a ha
          rw [List.append_nil] at ha
          rcases List.mem_cons.mp ha with q | q
          · rw [q]; exact oap Dl List.mem_cons_self
          · rcases List.mem_append.mp q with q | q
            · exact oap a (List.mem_cons_of_mem _ q)
            · exact o5.ap a q
        · intro a ha
          rw [List.append_nil] at ha
          rcases List.mem_cons.mp ha with q | q
          · rw [q]; exact ofr Dl List.mem_cons_self
          · rcases List.mem_append.mp q with q | q
            · exact ofr a (List.mem_cons_of_mem _ q)
            · exact o5.fr a q
        · intro a ha
          rw [List.append_nil] at ha
          rcases List.mem_cons.mp ha with q | q
          · rw [q]; exact .inr hD0
          · rcases List.mem_append.mp q with q | q
            · exact newD a (List.mem_cons_of_mem _ q)
            · rcases new5 a q with z | z
              · exact n14.new a z
              · exact .inr (n14.dom a z)⟩
theorem wo_lc {it : WI} {tg : Tg} {g : TG} {vs : List Nat} {tt : WT} {elt : WO} (hg : TgOk K C g tg) (hw : TgW g vs) (h : PE X e (tLc (tI K C U it) g (tT K C noU tt) (tO K C noU elt) vs)) : PE X e (tO K C U (wLc it tg vs tt elt)) := pe_imp h (o_lc hg hw)
theorem wts_nil : PTs X [] (tT K C U wYes) := ⟨fun pins s σ H Q I h => pts_nil.run pins s σ H Q I (t_yes σ H Q h)⟩
end
end Wv
end

section
set_option Elab.async false
set_option linter.all false
set_option maxRecDepth 100000
set_option maxHeartbeats 4000000
namespace Wv
open PySem PySem.Spec PyProof.Rows L2 Evl
section
variable {K : PySem.W.Frag} {C : Cs} {U U' : UX} {G H G' H' G1 H1 G2 H2 : Hp} {sl sl' : Slots} {rt rt' : Roots} {σ : L2.St} {ρ ρ' ρ1 : List Addr} {fps fps' fps1 : List (List Addr)}
variable {X : Cx} {CX : CXT} {a b c e o : Expr} {es rest : List Expr} {wa wb wc : WE} {pos p apos : Pos} {Z : WEnds} {E : Ends} {st : Stmt}
theorem s_lt : S2 K C sLt (rI0 fun i j => .bl (decide (i < j))) := s_int0 fun _ _ _ => .bool _
theorem s_le : S2 K C sLe (rI0 fun i j => .bl (decide (i ≤ j))) := s_int0 fun _ _ _ => .bool _
theorem s_gt : S2 K C sGt (rI0 fun i j => .bl (decide (j < i))) := s_int0 fun _ _ _ => .bool _
theorem s_ge : S2 K C sGe (rI0 fun i j => .bl (decide (j ≤ i))) := s_int0 fun _ _ _ => .bool _
theorem op_eqA (hu : X.A.units + 64 < cLine) : OpR X (compareOp .Eq) (fun x y H Q => rEq x y H Q ∨ rEqD X.K x y H Q) := OpR.or' op_eq (op_eqD hu)
theorem op_neA (hu : X.A.units + 64 < cLine) : OpR X (compareOp .NotEq) (fun x y H Q => rNe x y H Q ∨ rNeD X.K x y H Q) := OpR.or' op_ne (op_neD hu)
/-- a comprehension kept by a name -/
theorem s_setLc {i : Nat} {it : WI} {tg : Tg} {g : TG} {vs : List Nat} {tt : WT} {elt : WO} (hg : TgOk K C g tg) (hw : TgW g vs) (h : PS X st (tAsg (tLc (tI K C U it) g (tT K C noU tt) (tO K C noU elt) vs) (gName i))) : PS X st (tS K C U (wNew i (wLc it tg vs tt elt))) :=
  ps_imp h fun D σ H q => o_lc hg hw σ H _ (s_new D σ H q)
theorem s_setLcF {i : Nat} {it : WI} {tg : Tg} {g : TG} {vs : List Nat} {tt : WT} {elt : WO} (hg : TgOk K C g tg) (hw : TgW g vs) (h : PS X st (tAsg (tLc (tI K C U it) g (tT K C noU tt) (tO K C noU elt) vs) (gName i))) : PS X st (tS K C U (wAsg i (wFrz (wLc it tg vs tt elt)))) :=
  ps_imp h fun D σ H q => o_lc hg hw σ H _ (e_frz σ H _ (s_asg D σ H q))

/-! ### in -/
def D.flat : D → Bool
  | .non => true
  | .bool _ => true
  | .int _ => true
  | .str _ => true
  | _ => false
def D.v : D → V
  | .non => .non
  | .bool b => .bl b
  | .int i => .int i
  | .str s => .str s
  | _ => .non
theorem flat_v {d : D} {v : V} (h : DR K C G v d) (f : d.flat = true) : v = d.v ∧ flatV v = true := by
  cases h <;> first | exact ⟨rfl, rfl⟩ | cases f
theorem flats_v : ∀ {ds : List D} {vs : List V}, DRs K C G vs ds → ds.all D.flat = true → vs = ds.map D.v ∧ vs.all flatV = true
  | [], _, .nil, _ => ⟨rfl, rfl⟩
  | d :: ds, _, .cons h r, f => by
    simp only [List.all_cons, Bool.and_eq_true] at f
    obtain ⟨h1, h2⟩ := flat_v h f.1
    obtain ⟨h3, h4⟩ := flats_v r f.2
    refine ⟨by rw [h1, h3]; rfl, ?_⟩
    rw [List.all_cons, h2, h4]
    rfl
/-- x in a list or tuple of flat items -/
def sIn (neg : Bool) : Sem2 := fun x y rt k => match x with
  | .dat d => match seqOf y rt with
    | some ds => d.flat = true ∧ ds.all D.flat = true ∧ k (.bool (if neg then !inV d.v (ds.map D.v) else inV d.v (ds.map D.v)))
    | none => False
  | _ => False
theorem s_in {neg : Bool} : S2 K C (sIn neg) (rIn K neg) := fun rt ρ fps G H x y v u s a b k Q w q => by
  unfold sIn at w
  split at w
  · split at w
    · rename_i ds e
      obtain ⟨w1, w2, w3⟩ := w
      obtain ⟨p, xs, rfl, h2, h3⟩ := s.seqOf e b
      obtain ⟨z1, z2⟩ := flats_v h3 w2
      obtain ⟨z3, z4⟩ := flat_v (show DR K C G v _ from a) w1
      refine ⟨p, xs, rfl, h2, z4, z2, ?_⟩
      rw [z1, z3]
      exact q _ _ w3 (.bool _)
    · exact w.elim
  · exact w.elim
/-- x in a text -/
def sInS (neg : Bool) : Sem2 := fun x y rt k => match x, y with
  | .dat (.str i), .dat (.str j) => k (.bool (if neg then !(!(Builtin.Str.occurrences j i 0 j.length 1).isEmpty) else !(Builtin.Str.occurrences j i 0 j.length 1).isEmpty))
  | _, _ => False
theorem s_inS : S2 K C (sInS false) (fun x y H Q => ∃ i j, x = .str i ∧ y = .str j ∧ Q (.bl (!(Builtin.Str.occurrences j i 0 j.length 1).isEmpty)) H) := fun rt ρ fps G H x y v u s a b k Q w q => by
  unfold sInS at w
  split at w
  · cases a
    cases b
    exact ⟨_, _, rfl, rfl, q _ _ w (.bool _)⟩
  · exact w.elim
theorem s_ninS : S2 K C (sInS true) (fun x y H Q => ∃ i j, x = .str i ∧ y = .str j ∧ Q (.bl (!(!(Builtin.Str.occurrences j i 0 j.length 1).isEmpty))) H) := fun rt ρ fps G H x y v u s a b k Q w q => by
  unfold sInS at w
  split at w
  · cases a
    cases b
    exact ⟨_, _, rfl, rfl, q _ _ w (.bool _)⟩
  · exact w.elim
/-- x in a tuple (or list) of data of any depth -/
def rInT (K : PySem.W.Frag) (neg : Bool) : R2 := fun x y H Q => ∃ d ds, Dp K H x d ∧ Dp K H y (.tuple ds) ∧ SeqAt.shaped d = true ∧ d.depth ≤ 32 ∧ SeqAt.shaped (.tuple ds) = true ∧ Q (.bl (if neg then !(ds.any fun z => PyData.eqv z d) else ds.any fun z => PyData.eqv z d)) H
theorem op_inT (hu : X.A.units + 64 < cLine) : OpR X (compareOp .In) (rInT X.K false) := by
  intro pins s σ H x y v u Q I rx ry h
  obtain ⟨d, ds, hd, he, sd, dep, se, q⟩ := h
  obtain ⟨as, r1⟩ := Dp.reads I d x v hd rx
  obtain ⟨bs, r2⟩ := Dp.reads I (.tuple ds) y u he ry
  exact SeqAt.in_tuple_reads r2 r1 (SeqAt.canLay_of_shaped se) (SeqAt.canLay_of_shaped sd) (by omega) ⟨.bl _, H, I, rfl, q⟩
def sInT : Sem2 := fun x y _ k => match x, y with
  | .dat d, .dat (.tup ds) => ∃ px ps, d.py = some px ∧ D.pys ds = some ps ∧ SeqAt.shaped px = true ∧ px.depth ≤ 32 ∧ SeqAt.shaped (.tuple ps) = true ∧ k (.bool (ps.any fun z => PyData.eqv z px))
  | _, _ => False
theorem s_inT : S2 K C sInT (rInT K false) := fun rt ρ fps G H x y v u s a b k Q w q => by
  unfold sInT at w
  split at w
  · obtain ⟨px, ps, h1, h2, h3, h5, h4, w⟩ := w
    exact ⟨px, ps, DR.py s.sub _ _ _ a h1, DR.py s.sub _ _ _ b (by simp [D.py, h2]), h3, h5, h4, q _ _ w (.bool _)⟩
  · exact w.elim

/-! ### lists and tuples made of others -/
theorem DRs.drop : ∀ {ds : List D} {vs : List V} (n : Nat), DRs K C G vs ds → DRs K C G (vs.drop n) (ds.drop n)
  | _, _, 0, h => h
  | [], _, n + 1, .nil => .nil
  | _ :: _, _, n + 1, .cons _ r => DRs.drop n r
theorem DRs.take : ∀ {ds : List D} {vs : List V} (n : Nat), DRs K C G vs ds → DRs K C G (vs.take n) (ds.take n)
  | _, _, 0, _ => .nil
  | [], _, n + 1, .nil => .nil
  | _ :: _, _, n + 1, .cons h r => .cons h (DRs.take n r)
def cutD (ds : List D) (lo hi : Option Int) : List D := (ds.drop (HT.sIx ds.length 0 lo)).take (HT.sIx ds.length ds.length hi - HT.sIx ds.length 0 lo)
theorem DRs.cut {ds : List D} {vs : List V} (h : DRs K C G vs ds) (lo hi : Option Int) : DRs K C G (cutV vs lo hi) (cutD ds lo hi) := by
  unfold cutV cutD
  rw [h.len]
  exact DRs.take _ (DRs.drop _ h)
/-- a slice's part -/
abbrev WP := Cxt → Roots → (Option Int → Roots → Prop) → Prop
def wNo : WP := fun _ rt k => k none rt
def wPart (w : WE) : WP := fun sl rt k => w sl rt fun x rt1 => match x with
  | .dat (.int i) => k (some i) rt1
  | _ => False
def tP (K : PySem.W.Frag) (C : Cs) (U : UX) (w : WP) : TO := fun σ H Q => ∃ sl rt ρ fps G k, St K C sl.sl rt σ ρ fps G H ∧ Xf K C U ρ fps G H sl.ex ∧ w sl rt k ∧ ∀ o rt' fps' G' H', RSt K C rt' ρ fps' G' H' → Nx fps.flatten G H G' H' fps'.flatten → k o rt' → Q o H'
theorem po_imp {e : Option Expr} {t t' : TO} (h : PO X e t) (i : ∀ σ H Q, t' σ H Q → t σ H Q) : PO X e t' := ⟨fun pins s σ H Q I q => h.run pins s σ H Q I (i σ H Q q)⟩
theorem wp_none : PO X none (tP K C U wNo) := po_imp po_none fun σ H Q ⟨sl, rt, ρ, fps, G, k, s, xf, w, q⟩ => q none rt fps G H s.toRSt (Nx.refl _ _ _) w
theorem wp_some {w : WE} (h : PE X e (tE K C U w)) : PO X (some e) (tP K C U (wPart w)) := po_imp (po_some h) fun σ H Q ⟨sl, rt, ρ, fps, G, k, s, xf, w, q⟩ =>
  ⟨sl, rt, ρ, fps, G, _, s, xf, w, fun x rt1 fps1 G1 H1 v r1 n1 v1 w1 => by
    split at w1
    · cases v1
      exact ⟨_, rfl, q _ rt1 fps1 G1 H1 r1 n1 w1⟩
    · exact w1.elim⟩
/-- xs[lo:hi], a new list -/
def wSlL (w : WE) (lo hi : WP) : WO := fun sl rt k => w sl rt fun x rt1 => lo sl rt1 fun l rt2 => hi sl rt2 fun h rt3 => ∃ ds, listOf x rt3 = some ds ∧ k (.lst ((cutD ds l h).map .dat)) rt3
theorem o_slL {w : WE} {lo hi : WP} : ∀ σ H Q, tO K C U (wSlL w lo hi) σ H Q → tSl (rSlL K) (tE K C U w) (tP K C U lo) (tP K C U hi) σ H Q := fun σ H Q ⟨sl, rt, ρ, fps, G, k, s, xf, w, q⟩ =>
  ⟨sl, rt, ρ, fps, G, _, s, xf, w, fun x rt1 fps1 G1 H1 v r1 n1 v1 w1 => ⟨sl, rt1, ρ, fps1, G1, _, s.step r1 n1 fun _ _ e => e, xf.later n1 (Pre.refl _), w1, fun l rt2 fps2 G2 H2 r2 n2 w2 =>
    ⟨sl, rt2, ρ, fps2, G2, _, s.step r2 (n1.trans n2) fun _ _ e => e, xf.later (n1.trans n2) (Pre.refl _), w2, fun h rt3 fps3 G3 H3 r3 n3 w3 => by
      obtain ⟨ds, e, w3⟩ := w3
      · obtain ⟨a, xs, rfl, h2, h3⟩ := r3.listOf e ((v1.up n2 fun _ _ e => e).up n3 fun _ _ e => e)
        refine ⟨a, xs, rfl, h2, fun p hp => ?_⟩
        have n := n1.trans (n2.trans n3)
        obtain ⟨r4, o4⟩ := r3.newL hp ((h3.cut l h).trs (H := H3)) List.nodup_nil (fun _ z => nomatch z) (fun _ z => nomatch z) (fun _ z => nomatch z)
        exact q _ rt3 fps3 _ G3 _ _ r4 (n.trans (Nx.grow hp)) o4 (fun b hb => by
          have : b = p := by simpa using hb
          rw [this]
          exact .inr (n.dom p hp)) w3⟩⟩⟩
theorem wo_slL {w : WE} {lo hi : WP} {l h : Option Expr} {p2 : Pos} (he : PE X e (tE X.K C U w)) (hl : PO X l (tP X.K C U lo)) (hh : PO X h (tP X.K C U hi)) : PE X (.Subscript e (.Slice l h none p2) pos) (tO X.K C U (wSlL w lo hi)) := pe_imp (pe_slice sl_list he hl hh) o_slL
/-- a tuple's slice: data -/
def wSlT (w : WE) (lo hi : WP) : WE := fun sl rt k => w sl rt fun x rt1 => lo sl rt1 fun l rt2 => hi sl rt2 fun h rt3 => match x with
  | .dat (.tup ds) => k (.dat (.tup (cutD ds l h))) rt3
  | _ => False
theorem cut_whole {ds : List D} {l h : Option Int} (e : HT.sIx ds.length 0 l = 0 ∧ HT.sIx ds.length ds.length h = ds.length) : cutD ds l h = ds := by
  unfold cutD
  rw [e.1, e.2]
  simp
theorem e_slT {w : WE} {lo hi : WP} : ∀ σ H Q, tE K C U (wSlT w lo hi) σ H Q → tSl (rSlA K) (tE K C U w) (tP K C U lo) (tP K C U hi) σ H Q := fun σ H Q ⟨sl, rt, ρ, fps, G, k, s, xf, w, q⟩ =>
  ⟨sl, rt, ρ, fps, G, _, s, xf, w, fun x rt1 fps1 G1 H1 v r1 n1 v1 w1 => ⟨sl, rt1, ρ, fps1, G1, _, s.step r1 n1 fun _ _ e => e, xf.later n1 (Pre.refl _), w1, fun l rt2 fps2 G2 H2 r2 n2 w2 =>
    ⟨sl, rt2, ρ, fps2, G2, _, s.step r2 (n1.trans n2) fun _ _ e => e, xf.later (n1.trans n2) (Pre.refl _), w2, fun h rt3 fps3 G3 H3 r3 n3 w3 => by
      have n := n1.trans (n2.trans n3)
      split at w3
      · rename_i ds
        have v3 := (v1.up n2 fun _ _ e => e).up n3 fun _ _ e => e
        cases v3 with
        | @tup a xs _ h2 r =>
          refine ⟨_, _, rfl, ex_t r3.sub h2, fun hw => ?_, fun hw p hp => ?_⟩
          · rw [r.len] at hw
            rw [cut_whole hw] at w3
            exact q (.dat (.tup ds)) rt3 fps3 G3 H3 _ r3 n (.tup h2 r) w3
          · refine q (.dat (.tup (cutD ds l h))) rt3 fps3 _ _ _ (r3.laid hp) (n.trans (Nx.laid r3.sub hp _)) ?_ w3
            exact .tup (st_of upd_same) (DRs.up (Ex.new (fresh_back r3.sub hp)) _ _ (r.cut l h))
      · exact w3.elim⟩⟩⟩
theorem we_slT {w : WE} {lo hi : WP} {l h : Option Expr} {p2 : Pos} (he : PE X e (tE X.K C U w)) (hl : PO X l (tP X.K C U lo)) (hh : PO X h (tP X.K C U hi)) : PE X (.Subscript e (.Slice l h none p2) pos) (tE X.K C U (wSlT w lo hi)) := pe_imp (pe_slice sl_tupA he hl hh) e_slT
/-- a tracked list of data -/
def lstOf (x : Val) (rt : Roots) : Option (List D) := match x with
  | .dat (.lst ds) => some ds
  | .ref r p => match tat rt r p with
    | some (.lst ts) => dats ts
    | _ => none
  | _ => none
theorem RSt.lstOf (s : RSt K C rt ρ fps G H) {x : Val} {v : V} {ds : List D} (h : lstOf x rt = some ds) (hv : VR K C G H ρ x v) : ∃ a xs, v = .ref a ∧ H a = some (.lst xs) ∧ DRs K C G xs ds := by
  unfold Wv.lstOf at h
  split at h
  · cases h
    cases hv with
    | lst h r => exact ⟨_, _, rfl, s.sub _ _ h, r⟩
  · split at h
    · rename_i ts ht
      obtain ⟨a, fu, _, _, k, _⟩ := s.get ht hv
      cases k with
      | lst h2 r =>
        have e := dats_map h
        rw [e] at r
        exact ⟨_, _, rfl, h2, (TRs.dats r).1⟩
    · cases h
  · cases h
/-- xs + ys, a new list -/
def wCatL (wa wb : WE) : WO := fun sl rt k => wa sl rt fun x rt1 => wb sl rt1 fun y rt2 => ∃ ds es, lstOf x rt2 = some ds ∧ lstOf y rt2 = some es ∧ ds.length + es.length ≤ 40000 ∧ k (.lst ((ds ++ es).map .dat)) rt2
theorem o_catL : ∀ σ H Q, tO K C U (wCatL wa wb) σ H Q → tOp rCat (tE K C U wa) (tE K C U wb) σ H Q := fun σ H Q ⟨sl, rt, ρ, fps, G, k, s, xf, w, q⟩ =>
  ⟨sl, rt, ρ, fps, G, _, s, xf, w, fun x rt1 fps1 G1 H1 v r1 n1 v1 w1 => ⟨sl, rt1, ρ, fps1, G1, _, s.step r1 n1 fun _ _ e => e, xf.later n1 (Pre.refl _), w1, fun y rt2 fps2 G2 H2 u r2 n2 v2 w2 => by
    obtain ⟨ds, es, e1, e2, w2⟩ := w2
    · obtain ⟨a, xs, rfl, h1, d1⟩ := r2.lstOf e1 (v1.up n2 fun _ _ e => e)
      obtain ⟨b, ys, rfl, h2, d2⟩ := r2.lstOf e2 v2
      refine ⟨a, b, xs, ys, rfl, rfl, h1, h2, sz_le (by rw [d1.len, d2.len]; exact w2.1), fun p hp => ?_⟩
      have n := n1.trans n2
      obtain ⟨r4, o4⟩ := r2.newL hp ((d1.app d2).trs (H := H2)) List.nodup_nil (fun _ z => nomatch z) (fun _ z => nomatch z) (fun _ z => nomatch z)
      exact q _ rt2 fps2 _ G2 _ _ r4 (n.trans (Nx.grow hp)) o4 (fun b hb => by
        have : b = p := by simpa using hb
        rw [this]
        exact .inr (n.dom p hp)) w2.2⟩⟩
theorem wo_catL (ha : PE X a (tE K C U wa)) (hb : PE X b (tE K C U wb)) : PE X (.BinOp a .Add b pos) (tO K C U (wCatL wa wb)) := pe_imp (pe_op op_cat ha hb) o_catL
/-- [x, ..] * n -/
def wRepL (wa wb : WE) : WO := fun sl rt k => wa sl rt fun x rt1 => wb sl rt1 fun y rt2 => match lstOf x rt2, y with
  | some ds, .dat (.int n) => (-100000 ≤ n ∧ n ≤ 100000) ∧ ds.length * n.toNat ≤ 100000 ∧ k (.lst (((List.replicate n.toNat ds).flatten).map .dat)) rt2
  | _, _ => False
theorem DRs.rep {ds : List D} {vs : List V} (h : DRs K C G vs ds) : ∀ n : Nat, DRs K C G (List.replicate n vs).flatten (List.replicate n ds).flatten
  | 0 => .nil
  | n + 1 => by
    rw [List.replicate_succ, List.replicate_succ, List.flatten_cons, List.flatten_cons]
    exact h.app (DRs.rep h n)
theorem o_repL : ∀ σ H Q, tO K C U (wRepL wa wb) σ H Q → tOp rRep (tE K C U wa) (tE K C U wb) σ H Q := fun σ H Q ⟨sl, rt, ρ, fps, G, k, s, xf, w, q⟩ =>
  ⟨sl, rt, ρ, fps, G, _, s, xf, w, fun x rt1 fps1 G1 H1 v r1 n1 v1 w1 => ⟨sl, rt1, ρ, fps1, G1, _, s.step r1 n1 fun _ _ e => e, xf.later n1 (Pre.refl _), w1, fun y rt2 fps2 G2 H2 u r2 n2 v2 w2 => by
    split at w2
    · rename_i ds n e1
      obtain ⟨a, xs, rfl, h1, d1⟩ := r2.lstOf e1 (v1.up n2 fun _ _ e => e)
      cases v2
      refine ⟨a, n, xs, rfl, rfl, h1, by omega, by omega, sz_of (by rw [d1.len]; exact w2.2.1), fun p hp => ?_⟩
      have nn := n1.trans n2
      obtain ⟨r4, o4⟩ := r2.newL hp ((d1.rep n.toNat).trs (H := H2)) List.nodup_nil (fun _ z => nomatch z) (fun _ z => nomatch z) (fun _ z => nomatch z)
      exact q _ rt2 fps2 _ G2 _ _ r4 (nn.trans (Nx.grow hp)) o4 (fun b hb => by
        have : b = p := by simpa using hb
        rw [this]
        exact .inr (nn.dom p hp)) w2.2.2
    · exact w2.elim⟩⟩
theorem wo_repL (ha : PE X a (tE K C U wa)) (hb : PE X b (tE K C U wb)) : PE X (.BinOp a .Mult b pos) (tO K C U (wRepL wa wb)) := pe_imp (pe_op op_rep ha hb) o_repL
/-- t + u -/
def wCatT (wa wb : WE) : WE := fun sl rt k => wa sl rt fun x rt1 => wb sl rt1 fun y rt2 => match x, y with
  | .dat (.tup ds), .dat (.tup es) => ds.length + es.length ≤ 40000 ∧ k (.dat (.tup (ds ++ es))) rt2
  | _, _ => False
theorem e_catT : ∀ σ H Q, tE K C U (wCatT wa wb) σ H Q → tOp (rCatA K) (tE K C U wa) (tE K C U wb) σ H Q := fun σ H Q ⟨sl, rt, ρ, fps, G, k, s, xf, w, q⟩ =>
  ⟨sl, rt, ρ, fps, G, _, s, xf, w, fun x rt1 fps1 G1 H1 v r1 n1 v1 w1 => ⟨sl, rt1, ρ, fps1, G1, _, s.step r1 n1 fun _ _ e => e, xf.later n1 (Pre.refl _), w1, fun y rt2 fps2 G2 H2 u r2 n2 v2 w2 => by
    have v1 := v1.up n2 fun _ _ e => e
    have n := n1.trans n2
    split at w2
    · rename_i ds es _
      cases v1 with
      | @tup a xs _ h1 d1 =>
        cases v2 with
        | @tup b ys _ h2 d2 =>
          refine ⟨a, b, xs, ys, rfl, rfl, ex_t r2.sub h1, ex_t r2.sub h2, sz_le (by rw [d1.len, d2.len]; exact w2.1), fun e => ?_, fun _ e => ?_, fun _ _ p hp => ?_⟩
          · subst e
            cases d1
            exact q (.dat (.tup es)) rt2 fps2 G2 H2 _ r2 n (.tup h2 d2) w2.2
          · subst e
            cases d2
            have := w2.2
            rw [List.append_nil] at this
            exact q (.dat (.tup ds)) rt2 fps2 G2 H2 _ r2 n (.tup h1 d1) this
          · exact q (.dat (.tup (ds ++ es))) rt2 fps2 _ _ _ (r2.laid hp) (n.trans (Nx.laid r2.sub hp _)) (.tup (st_of upd_same) (DRs.up (Ex.new (fresh_back r2.sub hp)) _ _ (d1.app d2))) w2.2
    · exact w2.elim⟩⟩
theorem we_catT (ha : PE X a (tE X.K C U wa)) (hb : PE X b (tE X.K C U wb)) : PE X (.BinOp a .Add b pos) (tE X.K C U (wCatT wa wb)) := pe_imp (pe_op op_catA ha hb) e_catT
/-- divmod -/
def wDivmod (w : WA) : WE := fun sl rt k => w sl rt fun xs rt1 => match xs with
  | [.dat (.int i), .dat (.int j)] => CDiv i j ∧ k (.dat (.tup [.int (i / j), .int (i % j)])) rt1
  | _ => False
theorem e_divmod {w : WA} : ∀ σ H Q, tE K C U (wDivmod w) σ H Q → tCB (fun xs H Q => ∃ i j, xs = [.int i, .int j] ∧ CDiv i j ∧ ∀ p, H p = none → Q (.ref p) (upd H p (.tup [.int (i / j), .int (i % j)]))) (tA K C U w) σ H Q := fun σ H Q ⟨sl, rt, ρ, fps, G, k, s, xf, w, q⟩ =>
  ⟨sl, rt, ρ, fps, G, _, s, xf, w, fun xs rt1 fps1 G1 H1 vs r1 n1 v1 w1 => by
    split at w1
    · rename_i i j
      cases v1 with
      | cons h r =>
        cases r with
        | cons h' r =>
          cases r
          cases h
          cases h'
          refine ⟨i, j, rfl, w1.1, fun p hp => q (.dat (.tup [.int (i / j), .int (i % j)])) rt1 fps1 _ _ _ (r1.laid hp) (n1.trans (Nx.laid r1.sub hp _)) ?_ w1.2⟩
          exact .tup (st_of upd_same) (.cons (.int _) (.cons (.int _) .nil))
    · exact w1.elim⟩
/-- enumerate(list), the pairs new -/
def wEnum (w : WA) : WI := fun sl rt k => w sl rt fun xs rt1 => match xs with
  | [.dat (.lst ds)] => k (ds.zipIdx.map fun q => .tup [.int (q.2 : Nat), q.1]) rt1
  | _ => False
theorem i_enum {w : WA} : ∀ σ H Q, tI K C U (wEnum w) σ H Q → iEnum K (tA K C U w) σ H Q := fun σ H Q ⟨sl, rt, ρ, fps, G, k, s, xf, w, q⟩ =>
  ⟨sl, rt, ρ, fps, G, _, s, xf, w, fun xs rt1 fps1 G1 H1 vs r1 n1 v1 w1 => by
    split at w1
    · rename_i ds
      cases v1 with
      | cons h r =>
        cases r
        cases h with
        | @lst a xs _ h2 r =>
          refine ⟨a, xs, rfl, sq_of (r1.sub _ _ h2), q _ rt1 fps1 G1 H1 _ r1 n1 ⟨fun H => SqL K H a xs, YPair (fun i => some (.int (i : Nat))) (fun i => xs[i]?), ?_, fun H2 e2 => sq_of (e2 _ _ h2), fun i d H2 v H3 hd _ y => ?_⟩ w1⟩
          · rw [List.length_map, List.length_zipIdx, ← r.len]
            exact walk_enum
          · obtain ⟨T, x, y', rfl, hT, rfl, e1, e2⟩ := y
            cases e1
            rw [List.getElem?_map, List.getElem?_zipIdx] at hd
            cases z : ds[i]? with
            | none => rw [z] at hd; cases hd
            | some d0 =>
              rw [z] at hd
              cases hd
              obtain ⟨u, z1, z2⟩ := r.get z
              have e3 : some u = some y' := z1.symm.trans e2
              cases e3
              refine .inr ⟨T, _, _, hT, rfl, rfl, rfl, .cons ?_ (.cons z2 .nil)⟩
              show DR K C G1 (.int (i : Nat)) (.int ((0 + i : Nat) : Int))
              rw [Nat.zero_add]
              exact .int _
    · exact w1.elim⟩
end
end Wv
end

section
set_option Elab.async false
set_option linter.all false
set_option maxRecDepth 100000
set_option maxHeartbeats 4000000
namespace Wv
open PySem PySem.Spec PyProof.Rows L2 Evl
section
variable {K : PySem.W.Frag} {C : Cs} {U : UX} {G H G' H' G1 H1 G2 H2 : Hp} {sl sl' : Slots} {rt rt' : Roots} {σ : L2.St} {ρ ρ' ρ1 : List Addr} {fps fps' fps1 : List (List Addr)}
variable {X : Cx} {CX : CXT} {a b c e o : Expr} {es rest : List Expr} {wa wb wc : WE} {pos p apos cpos : Pos} {Z : WEnds} {E : L2.St → XK} {st : Stmt} {k : Nat} {f Ca : Addr} {fd : FuncData} {ps : List Str} {sp : Sp} {x m name : Str} {ta to : TE} {t : TA} {ds : List Value}
/-! ### a tuple whose object is known -/
def tTupX (t : TA) : TE := fun σ H Q => t σ H fun xs H1 => xs.length ≤ sizeLine ∧ ∀ p ob, ob.dict = none → H1 p = none → Q (.ref p) (upd H1 p (.frz ob (.tup xs)))
theorem pe_tupX {x1} (h : PA X es t) : PE X (.Tuple es x1 pos) (tTupX t) := by
  refine ⟨fun pins s σ H Q I hq => ?_⟩
  refine wpAny_Tuple_spliced (thn (h.run pos pins s σ H _ I hq) fun us s1 ⟨xs, H1, I1, r, z, q⟩ => ⟨by rw [← r.length]; exact z, ?_⟩)
  have hf : H1 s1.heap.objs.size = none := I1.hok.fresh (Nat.le_refl _)
  refine ⟨.ref s1.heap.objs.size, upd H1 s1.heap.objs.size (.frz { cls := .type "tuple", data := .seq us.toArray } (.tup xs)), I1.laid (t' := s1.toks) (fun b u e => Heap.get?_push_of_some _ e) (Nat.le_refl _) ?_, rfl, q _ _ rfl hf⟩
  exact ⟨Heap.get?_push_size _ rfl, z, us, r, ⟨_, Heap.get?_push_size _ rfl, rfl, _, rfl⟩⟩
def wTupX (w : WA) : WE := fun sl rt k => w sl rt fun xs rt1 => match datsV xs with
  | some ds => ds.length ≤ 1000 ∧ k (.dat (.tpx ds)) rt1
  | none => False
theorem we_tupX {x1} {w : WA} (h : PA X es (tA K C U w)) : PE X (.Tuple es x1 pos) (tE K C U (wTupX w)) := pe_imp (pe_tupX h) fun σ H Q ⟨sl, rt, ρ, fps, G, k, s, xf, w, q⟩ =>
  ⟨sl, rt, ρ, fps, G, _, s, xf, w, fun xs rt1 fps1 G1 H1 vs r1 n1 v1 w1 => by
    split at w1
    · rename_i ds e
      have dr := v1.dats e
      refine ⟨sz_le (by rw [dr.len]; exact w1.1), fun p ob ho hp => q (.dat (.tpx ds)) rt1 fps1 _ _ _ (r1.laid hp) (n1.trans (Nx.laid r1.sub hp _)) ?_ w1.2⟩
      exact .tpx upd_same ho (DRs.up (Ex.new (fresh_back r1.sub hp)) _ _ dr)
    · exact w1.elim⟩

/-! ### index of a flat thing in a list of flat things -/
def flatD : D → Bool
  | .int _ => true
  | .str _ => true
  | .bool _ => true
  | .non => true
  | _ => false
theorem flatD_ok {d : D} {v : V} (h : flatD d = true) (r : DR K C G v d) : flatV v = true := by
  cases r <;> first | rfl | cases h
/-- j is the first place of y in ds -/
def firstAt (ds : List D) (y : D) (j : Nat) : Prop := (∃ z, ds[j]? = some z ∧ D.sc z y = some true) ∧ ∀ (m : Nat) z, m < j → ds[m]? = some z → D.sc z y = some false
theorem sc_eqV {x y : D} {v u : V} {b : Bool} (h : D.sc x y = some b) (hx : DR K C G v x) (hy : DR K C G u y) : eqV v u = b := by
  unfold D.sc at h
  split at h
  case h_15 => cases h
  all_goals
    cases hx; cases hy; cases h
    first
      | rfl
      | (unfold eqV; simp)
theorem flats_ok : ∀ {ds : List D} {xs : List V}, ds.all flatD = true → DRs K C G xs ds → xs.all flatV = true
  | _, _, _, .nil => rfl
  | _, _, h, .cons r rs => by
    rw [List.all_cons, Bool.and_eq_true] at h ⊢
    exact ⟨flatD_ok h.1 r, flats_ok h.2 rs⟩
def wIxL (wo : WE) (w : WA) : WE := fun sl rt k => wo sl rt fun x rt1 => match x with
  | .dat (.lst ds) => w sl rt1 fun ys rt2 => match ys with
    | [.dat y] => flatD y = true ∧ ds.all flatD = true ∧ ∃ j, firstAt ds y j ∧ k (.dat (.int (j : Nat))) rt2
    | _ => False
  | _ => False
theorem e_ixL {wo : WE} {w : WA} : ∀ σ H Q, tE K C U (wIxL wo w) σ H Q → tBM K "list" (rIndex K) (tE K C U wo) (tA K C U w) σ H Q := fun σ H Q ⟨sl, rt, ρ, fps, G, k, s, xf, w, q⟩ =>
  ⟨sl, rt, ρ, fps, G, _, s, xf, w, fun x rt1 fps1 G1 H1 v r1 n1 v1 w1 => by
    split at w1
    · rename_i ds
      have v1' := v1
      cases v1 with
      | @lst a xs _ h r =>
        refine ⟨.inl ⟨rfl, xs, sq_of (r1.sub _ _ h)⟩, sl, rt1, ρ, fps1, G1, _, s.step r1 n1 fun _ _ e => e, xf.later n1 (Pre.refl _), w1, fun ys rt2 fps2 G2 H2 us r2 n2 v2 w2 => ?_⟩
        split at w2
        · rename_i y
          cases v2 with
          | cons hy rr =>
            cases rr
            obtain ⟨f1, f2, j, ⟨⟨z, z1, z2⟩, z3⟩, w2⟩ := w2
            have h' := n2.g _ _ h
            have r' := DRs.up n2.g _ _ r
            obtain ⟨u, u1, u2⟩ := r'.get z1
            refine ⟨a, xs, _, j, u, rfl, rfl, sq_of (r2.sub _ _ h'), flatD_ok f1 hy, flats_ok f2 r', u1, sc_eqV z2 u2 hy, fun m z' hm hz' => ?_, q (.dat (.int j)) rt2 fps2 G2 H2 _ r2 (n1.trans n2) (DR.int _) w2⟩
            have hl : m < ds.length := by
              have := (List.getElem?_eq_some_iff.mp hz').1
              rw [r'.len] at this
              exact this
            obtain ⟨u', k1, k2⟩ := r'.get (List.getElem?_eq_getElem hl)
            rw [k1] at hz'
            cases hz'
            exact sc_eqV (z3 m _ hm (List.getElem?_eq_getElem hl)) k2 hy
        · exact w2.elim
    · exact w1.elim⟩
theorem we_ixL {wo : WE} {w : WA} (h : PE X e (tBM X.K "list" (rIndex X.K) (tE X.K C U wo) (tA X.K C U w))) : PE X e (tE X.K C U (wIxL wo w)) := pe_imp h e_ixL
/-- t.index(x), t a tuple whose object is known -/
def rIndexT : V → List V → Hp → VK → Prop := fun x xs H Q => ∃ (a : Addr) (ob : Obj) (ys : List V) (y : V) (j : Nat) (z : V), x = V.ref a ∧ xs = [y] ∧ H a = some (.frz ob (.tup ys)) ∧ flatV y = true ∧ ys.all flatV = true ∧ ys[j]? = some z ∧ eqV z y = true ∧
  (∀ (m : Nat) (z' : V), m < j → ys[m]? = some z' → eqV z' y = false) ∧ Q (.int (j : Nat)) H
theorem mt_indexT : MtR X "tuple.index" rIndexT := by
  intro pins s σ H x xs v us Q I rx rxs h
  obtain ⟨a, ob, ys, y, j, z, rfl, rfl, hs, fy, fys, hz, hzj, hno, q⟩ := h
  cases rx
  cases rxs with
  | cons ry rt =>
    rename_i uy ut
    cases rt
    obtain ⟨its, rv, pl, hlen⟩ := I.tuple (.inl (.inr ⟨ob, hs⟩))
    obtain ⟨⟨cls, dd, dt, sl⟩, ho, hc, n, hd⟩ := pl
    simp only at hc hd
    subst hc hd
    obtain ⟨u, hu, ru⟩ := rv.get hz
    obtain ⟨hjl, hje⟩ := List.getElem?_eq_some_iff.mp hu
    have hvl := rv.length
    have hj : j < its.toArray.size := by simpa using hjl
    refine call_meets PySem.F.slot_tuple_index ⟨_, ho, rfl⟩ PySem.F.entry_tuple_index (PySem.F.args_tuple_index_2 _ _)
      (TI.tuple_indexAt a its.toArray n dd sl uy (eqU y) j hj ?_ ?_) ⟨ho, fun u' hu' => mem_eqAt ry fy rv fys u' (by simpa using hu'), ?_⟩
    · have e1 : its.toArray[j] = u := by simpa using hje
      rw [e1, eqU_of ru (flat_at fys hz)]
      exact hzj
    · intro m hm hmj
      have hml : m < its.length := by simpa using hm
      have hmy : m < ys.length := by omega
      have hy' : ys[m]? = some ys[m] := List.getElem?_eq_getElem hmy
      obtain ⟨u2, hu2, ru2⟩ := rv.get hy'
      obtain ⟨_, hme⟩ := List.getElem?_eq_some_iff.mp hu2
      have e1 : its.toArray[m] = u2 := by simpa using hme
      rw [e1, eqU_of ru2 (flat_at fys hy')]
      exact hno m _ hmj hy'
    · exact ⟨.int (j : Nat), H, I.tok _, ⟨_, rfl⟩, q⟩
def tBMT (r : V → List V → Hp → VK → Prop) (to : TE) (t : TA) : TE := fun σ H Q => to σ H fun x H1 => (∃ a ob xs, x = .ref a ∧ H1 a = some (.frz ob (.tup xs)) ∧ ob.dict = none) ∧ t σ H1 fun xs H2 => r x xs H2 Q
theorem pe_bmT {T id : String} {r : V → List V → Hp → VK → Prop} (hT : T = "tuple") (pa : PlainAttrs T) (slot : Slot T name id) (hty : typeOf (.builtin id) = pure (.type "method_descriptor")) (hm : MtR X id r) (ho : PE X o to) (ha : PA X (e :: es) t)
    (hbase : attributeBase o name X.env (eval o X.env) = eval o X.env := by rfl)
    (hfew : ((backTo cpos (starEach (e :: es) X.env)).all (fun x => !x.1) && (backToKw cpos (keywordEach [] X.env)).all (fun x => x.1.isSome)
      && decide ((e :: es).length + ([] : List Keyword).length + (if ([] : List Keyword).isEmpty then 0 else 1) < 30)) = true := by rfl)
    (hline : (apos.endLine == cpos.line) = true := by rfl) (hs : starEach (e :: es) X.env = (false, eval e X.env) :: starEach es X.env := by rfl) (hplain : (backTo cpos (starEach es X.env)).any (·.1) = false := by rfl) :
    PE X (.Call (.Attribute o name apos) (e :: es) [] cpos) (tBMT r to t) := by
  refine ⟨fun pins s σ H Q I h => ?_⟩
  refine wpAny_Call_method_late hbase hfew hline rfl (thn (ho.run pins s σ H _ I h) fun v s1 ⟨x, H1, I1, r1, ⟨a, ob, xs, ea, hx, hd⟩, q1⟩ => ?_)
  subst ea
  obtain rfl : v = Value.ref a := r1
  obtain ⟨h0, _, _, _, o', h1, h2, _⟩ := (show ObjOk X.prog X.w H1 s1.heap a (.frz ob (.tup xs)) from I1.hok a _ hx)
  have e : o' = ob := by rw [h0] at h1; exact (Option.some.inj h1).symm
  subst e
  subst hT
  refine ⟨_, id, pa, slot, hty, ⟨_, h0, h2⟩, fun a' e' => by cases e'; exact ⟨_, h0, hd⟩, ?_⟩
  have hA := ha.run cpos pins s1 σ H1 _ I1 q1
  rw [hs] at hA ⊢
  refine Calls.callWith_builtin (by show (false || (backTo cpos (starEach es X.env)).any (·.1)) = false; rw [hplain] <;> rfl) (Calls.evalArgs_plain ?_)
  exact thn hA fun us s2 ⟨vs, H2, I2, r2, q2⟩ => hm pins s2 σ H2 (.ref a) vs _ us Q I2 rfl r2 q2
def wIxT (wo : WE) (w : WA) : WE := fun sl rt k => wo sl rt fun x rt1 => match x with
  | .dat (.tpx ds) => w sl rt1 fun ys rt2 => match ys with
    | [.dat y] => flatD y = true ∧ ds.all flatD = true ∧ ∃ j, firstAt ds y j ∧ k (.dat (.int (j : Nat))) rt2
    | _ => False
  | _ => False
theorem e_ixT {wo : WE} {w : WA} : ∀ σ H Q, tE K C U (wIxT wo w) σ H Q → tBMT rIndexT (tE K C U wo) (tA K C U w) σ H Q := fun σ H Q ⟨sl, rt, ρ, fps, G, k, s, xf, w, q⟩ =>
  ⟨sl, rt, ρ, fps, G, _, s, xf, w, fun x rt1 fps1 G1 H1 v r1 n1 v1 w1 => by
    split at w1
    · rename_i ds
      cases v1 with
      | @tpx a ob xs _ h hd r =>
        refine ⟨⟨a, ob, xs, rfl, r1.sub _ _ h, hd⟩, sl, rt1, ρ, fps1, G1, _, s.step r1 n1 fun _ _ e => e, xf.later n1 (Pre.refl _), w1, fun ys rt2 fps2 G2 H2 us r2 n2 v2 w2 => ?_⟩
        split at w2
        · rename_i y
          cases v2 with
          | cons hy rr =>
            cases rr
            obtain ⟨f1, f2, j, ⟨⟨z, z1, z2⟩, z3⟩, w2⟩ := w2
            have h' := n2.g _ _ h
            have r' := DRs.up n2.g _ _ r
            obtain ⟨u, u1, u2⟩ := r'.get z1
            refine ⟨a, ob, xs, _, j, u, rfl, rfl, r2.sub _ _ h', flatD_ok f1 hy, flats_ok f2 r', u1, sc_eqV z2 u2 hy, fun m z' hm hz' => ?_, q (.dat (.int j)) rt2 fps2 G2 H2 _ r2 (n1.trans n2) (DR.int _) w2⟩
            have hl : m < ds.length := by
              have := (List.getElem?_eq_some_iff.mp hz').1
              rw [r'.len] at this
              exact this
            obtain ⟨u', k1, k2⟩ := r'.get (List.getElem?_eq_getElem hl)
            rw [k1] at hz'
            cases hz'
            exact sc_eqV (z3 m _ hm (List.getElem?_eq_getElem hl)) k2 hy
        · exact w2.elim
    · exact w1.elim⟩
theorem we_ixT {wo : WE} {w : WA} (h : PE X e (tBMT rIndexT (tE K C U wo) (tA K C U w))) : PE X e (tE K C U (wIxT wo w)) := pe_imp h e_ixT

/-! ### sorted of fewer than 64 integers -/
def intsD : List D → Option (List Int)
  | [] => some []
  | .int i :: ds => (intsD ds).map (i :: ·)
  | _ :: _ => none
theorem intsD_ok : ∀ (ds : List D) (xs : List V) (ns : List Int), intsD ds = some ns → DRs K C G xs ds → xs = ns.map V.int
  | [], _, ns, h, r => by cases r; cases h; rfl
  | d :: ds, _, ns, h, r => by
    cases r with
    | cons r rs =>
      cases d with
      | int i =>
        cases r
        obtain ⟨ms, h1, rfl⟩ := Option.map_eq_some_iff.mp (show (intsD ds).map (i :: ·) = some ns from h)
        rw [intsD_ok ds _ ms h1 rs]
        rfl
      | _ => cases h
theorem trs_ints : ∀ (ns : List Int), TRs K C G H (ns.map V.int) (ns.map fun i => .dat (.int i)) []
  | [] => .nil
  | i :: ns => .cons (fp := []) (fq := []) (.dat (.int i)) (trs_ints ns)
def wSorted (w : WA) : WO := fun sl rt k => w sl rt fun xs rt1 => match xs with
  | [x] => match listOf x rt1 with
    | some ds => ∃ ns, intsD ds = some ns ∧ ns.length < 64 ∧ ∀ ns' : List Int, ns'.Perm ns → ns'.Pairwise (· ≤ ·) → k (.lst (ns'.map fun i => .dat (.int i))) rt1
    | none => False
  | _ => False
theorem o_sorted {w : WA} : ∀ σ H Q, tO K C U (wSorted w) σ H Q → tCB (rSorted K) (tA K C U w) σ H Q := fun σ H Q ⟨sl, rt, ρ, fps, G, k, s, xf, w, q⟩ =>
  ⟨sl, rt, ρ, fps, G, _, s, xf, w, fun xs rt1 fps1 G1 H1 vs r1 n1 v1 w1 => by
    split at w1
    · split at w1
      · rename_i ds e
        cases v1 with
        | cons h r =>
          cases r
          obtain ⟨a, xs, rfl, h2, h3⟩ := r1.listOf e h
          obtain ⟨ns, i1, i2, w1⟩ := w1
          have hx := intsD_ok _ _ _ i1 h3
          subst hx
          refine ⟨a, ns, rfl, h2, i2, fun ns' p hp hs hn => ?_⟩
          obtain ⟨r2, o2⟩ := r1.newL hn (trs_ints (H := H1) ns') List.nodup_nil (fun _ z => nomatch z) (fun _ z => nomatch z) (fun _ z => nomatch z)
          exact q _ rt1 fps1 _ G1 _ _ r2 (n1.trans (Nx.grow hn)) o2 (fun b hb => by
            have : b = p := by simpa using hb
            rw [this]
            exact .inr (n1.dom p hn)) (w1 ns' hp hs)
      · exact w1.elim
    · exact w1.elim⟩

/-! ### isinstance of an own instance or an int; an own == -/
structure IsK (K : PySem.W.Frag) (C : Addr) : Prop where
  cl : Cls K C
  ha : PySem.W.findIn K (.ref C) "__class__" = some (some (.builtin "object.__class__"))
  hn : PySem.W.specialIn K (.builtin "object.__class__") "__get__" = some (some (.builtin "getset_descriptor.__get__"))
  htk : PySem.W.takesIn K (.builtin "object.__class__") = some true
  hm : PySem.W.mroIn K C (.type "object") = some true
  me : PySem.W.kitOne K (.ref C) (.ref C) = some true
  int : PySem.W.kitOne K (.type "int") (.ref C) = some false
def wIsC (c : Nat) (w : WE) : WE := fun sl rt k => w sl rt fun x rt1 => match x with
  | .dat (.obj c' _) => c' = c ∧ k (.dat (.bool true)) rt1
  | .dat (.int _) => k (.dat (.bool false)) rt1
  | _ => False
theorem e_isC {c : Nat} {w : WE} (hc : IsK K (C.at_ c)) : ∀ σ H Q, tE K C U (wIsC c w) σ H Q → tCB (rIsi K) (tCons (tE K C U w) (tCons (tC (.ref (C.at_ c))) tNil)) σ H Q := fun σ H Q ⟨sl, rt, ρ, fps, G, k, s, xf, w, q⟩ =>
  ⟨sl, rt, ρ, fps, G, _, s, xf, w, fun x rt1 fps1 G1 H1 v r1 n1 v1 w1 => by
    split at w1
    · obtain ⟨e, w1⟩ := w1
      subst e
      cases v1 with
      | obj h n r => exact ⟨_, _, _, _, true, rfl, .own _, .base (.ins (r1.sub _ _ h) hc.cl hc.ha hc.hn hc.htk hc.hm), hc.me, q (.dat (.bool true)) rt1 fps1 G1 H1 _ r1 n1 (DR.bool _) w1⟩
    · cases v1 with
      | int i => exact ⟨_, _, _, _, false, rfl, .own _, .base (.int _), hc.int, q (.dat (.bool false)) rt1 fps1 G1 H1 _ r1 n1 (DR.bool _) w1⟩
    · exact w1.elim⟩
theorem we_isC {c : Nat} {w : WE} (hc : IsK X.K (C.at_ c)) (h : PE X e (tCB (rIsi X.K) (tCons (tE X.K C U w) (tCons (tC (.ref (C.at_ c))) tNil)))) : PE X e (tE X.K C U (wIsC c w)) := pe_imp h (e_isC hc)
end
end Wv
end

section
set_option Elab.async false
set_option linter.all false
set_option maxRecDepth 100000
set_option maxHeartbeats 4000000
namespace Wv
open PySem PySem.Spec PyProof.Rows L2 Evl
section
variable {K : PySem.W.Frag} {C : Cs} {U : UX} {G H G' H' G1 H1 G2 H2 : Hp} {sl sl' : Slots} {rt rt' : Roots} {σ : L2.St} {ρ ρ' ρ1 : List Addr} {fps fps' fps1 : List (List Addr)}
variable {X : Cx} {CX : CXT} {a b c e o : Expr} {es rest : List Expr} {wa wb wc : WE} {pos p apos cpos : Pos} {Z : WEnds} {E : XK} {st : Stmt} {k : Nat} {f Ca : Addr} {fd : FuncData} {ps : List Str} {sp : Sp} {x m name : Str} {ta to : TE} {t : TA} {ds : List Value}
/-! ### an own ==, both answers -/
/-- a def called from below -/
theorem run_at {A : Around} {pins : List (Addr × Obj)} {H : Hp} {s : Shared} {Q : VK} {us : List Value} {vs : List V} (sb : Sub X k A) (F : FnOk X.prog X.w X.K X.mg X.base CX k f fd ps sp) (hb : Binds X.K fd ps []) (hx : Passes CX X E)
    (I : Inv X pins σ H s) (r : Vals vs us) (h : sp vs H Q E) : wpAny (model X.prog X.w) A (call (.ref f) us) (EP X pins σ Q) X.xe s := by
  have e0 : Env0 X.prog X.w X.K X.mg X.base A X.stack s H := by
    have e := I.env0
    exact ⟨by rw [sb.fr]; exact e.frames, e.mod, e.bs, e.bsz, e.funs, e.frf, e.hok, e.bare⟩
  have hl := F.len _ _ _ _ h
  refine wpAny_call (codeAny_mono (F.run A X.stack s H ⟨us, []⟩ us vs Q E sb.room e0 (by
    have := hb s us I.kIn (by rw [← hl, r.length]; simp)
    simpa using this) r h) fun z s' hq => ?_)
  cases z with
  | error e => exact hx pins σ H s e s' I hq
  | ok fl =>
    cases fl with
    | ret w => exact I.after hq
    | next => exact False.elim hq
    | brk => exact False.elim hq
    | cont => exact False.elim hq
def rOwn (Ca : Addr) (sp : Sp) (neg : Bool) : R2 := fun x y H Q => ∃ a dx fs, x = .ref a ∧ H a = some (.ins Ca dx fs) ∧ ((∃ i, y = .int i) ∨ ∃ b dy gs, y = .ref b ∧ H b = some (.ins Ca dy gs)) ∧
  sp [x, y] H (fun v H' => ∃ b, v = .bl b ∧ Q (.bl (neg != b)) H') fun _ _ _ => False
structure EqK (K : PySem.W.Frag) (Ca f : Addr) : Prop where
  eq : PySem.W.findIn K (.ref Ca) "__eq__" = some (some (.ref f))
  ne : PySem.W.findIn K (.ref Ca) "__ne__" = some (some (.builtin "object.__ne__"))
  fn : PySem.W.isFn K (.ref f) = true
  hm : PySem.W.mroIn K Ca (.type "object") = some true
theorem not_int {K : PySem.W.Frag} {C : Addr} : PySem.W.notFirst K C (.type "int") = true := by
  have e : fastBuiltinMro "int" = some [.type "int", .type "object"] := by decide +kernel
  have : PySem.W.subIn K (.type "int") (.ref C) = some false := by
    show (fastBuiltinMro "int").map (·.contains (.ref C)) = some false
    rw [e]
    first
      | rfl
      | simp
  unfold PySem.W.notFirst
  rw [this]
  simp
theorem op_ownEq (F : FnOk X.prog X.w X.K X.mg X.base CX k f fd ps sp) (hr : Room k X.A) (hk : EqK X.K Ca f) (hb : Binds X.K fd ps []) (hx : Passes CX X fun _ _ _ => False) : OpR X (compareOp .Eq) (rOwn Ca sp false) := by
  intro pins s σ H x y v u Q I rx ry ⟨a, dx, fs, ex, ha, hy, h⟩
  subst ex
  obtain rfl : v = Value.ref a := rx
  obtain ⟨mA, J, _⟩ := ins_get I.hok ha
  obtain ⟨od, J, _⟩ := J.look
  obtain ⟨m, hF⟩ := I.fr
  have r2 : Vals [V.ref a, y] [Value.ref a, u] := .cons rfl (.cons ry .nil)
  have hcall := run_at ⟨hr, rfl⟩ F hb hx I r2 h
  have back : wpAny (model X.prog X.w) X.A (call (.ref f) [.ref a, u]) (PySem.W.CmpBack (EP X pins σ Q)) X.xe s := wpAny_mono hcall (fun w s' hw => by
    obtain ⟨z, H', I', rz, b, ez, q⟩ := hw
    subst ez
    cases rz
    exact ⟨.bl b, H', I', rfl, by simpa using q⟩) fun _ _ z => z
  show wpAny (model X.prog X.w) X.A (richCompare .Eq (.ref a) u) (EP X pins σ Q) X.xe s
  rcases hy with ⟨i, rfl⟩ | ⟨b, dy, gs, rfl, hb'⟩
  · obtain ⟨t, rfl⟩ := ry
    exact PySem.W.cmp_K (op := .Eq) (tb := .type "int") hr.units0 hF I.ok.mod.kin J (PySem.W.Looks.of_pure rfl) not_int hk.eq hk.fn back
  · obtain rfl : u = Value.ref b := ry
    obtain ⟨mB, J', _⟩ := ins_get I.hok hb'
    obtain ⟨od', J', _⟩ := J'.look
    exact PySem.W.cmp_K (op := .Eq) (tb := .ref Ca) hr.units0 hF I.ok.mod.kin J J'.type (by simp [PySem.W.notFirst]) hk.eq hk.fn back
section
variable {A : Around} {EV : Value → Shared → Prop} {s : Shared} {ax : Addr} {ox : Obj} {od : Option Obj}
theorem ifBound_ne {args : List Value} {Q : Option Value → Shared → Prop} (hX : K.In s.heap) (I : PySem.W.InstAt s.heap ax ox Ca od) (hs : PySem.W.findIn K (.ref Ca) "__ne__" = some (some (.builtin "object.__ne__")))
    (h : wpAny (model X.prog X.w) A (call (.builtin "object.__ne__") (.ref ax :: args)) (fun v => Q (some v)) EV s) : wpAny (model X.prog X.w) A (callSpecialIfBound? (.ref ax) "__ne__" args) Q EV s := by
  simp only [callSpecialIfBound?, bindSpecialIfBound?]
  refine wpAny_holding (wpAny_bind (wpAny_bind (wpAny_bind (I.type.here ((PySem.W.looks_findIn hX hs).here ?_)))))
  refine wpAny_bind (wpAny_askSetting (wpAny_ite ?_))
  have fin : wpAny (model X.prog X.w) A (call (.builtin "object.__ne__") ([.ref ax] ++ args) >>= fun v => pure (some v)) Q EV s := wpAny_bind (wpAny_mono h (fun v s' h' => wpAny_pure h') fun _ _ h' => h')
  split
  · exact wpAny_bind (wpAny_of_eq (F.cmp_object.ne.bind _) (wpAny_pure (by exact fin)))
  · exact wpAny_tryCatch (wpAny_bind (wpAny_of_eq (F.cmp_object.ne.bind _) (wpAny_pure (by exact fin))))
theorem entry_ne {y : Value} {Q : PySem.Fin → Shared → Prop} (hX : K.In s.heap) (I : PySem.W.InstAt s.heap ax ox Ca od) (hk : EqK K Ca f) (hu : A.units < cLine)
    (h : wpAny (model X.prog X.w) A (call (.ref f) [.ref ax, y]) (fun v s' => ∃ b, v = .bool b ∧ Q (.done (.ret (.bool (!b)))) s') EV s) : wpAny (model X.prog X.w) A (Builtin.«object.__ne__» ⟨[.ref ax, y], []⟩) Q EV s := by
  unfold Builtin.«object.__ne__»
  repeat (first
    | with_reducible refine wpAny_cRoomFor hu ?_
    | (refine wpAny_bind (m := callSpecialIfBound? (.ref ax) (Str.ofString "__eq__") [y])
        (PySem.W.ifBound_K hX I hk.eq hk.fn (wpAny_mono h (fun r s' hr => by
          obtain ⟨b, rfl, hq⟩ := hr
          repeat (first | exact hq | exact wpAny_pure hq | exact wpAny_truthy_bool hq | (refine wpAny_bind (m := truthy (.bool _)) (wpAny_truthy_bool ?_)) | wp_step)) fun _ _ e => e)))
    | wp_step)
theorem rc_ne {y tb : Value} {Q : Value → Shared → Prop} (hX : K.In s.heap) (I : PySem.W.InstAt s.heap ax ox Ca od) (hk : EqK K Ca f) (hu : A.units + 1 < cLine) (hb : PySem.W.Looks (model X.prog X.w) s.heap (typeOf y) tb) (hn : PySem.W.notFirst K Ca tb = true)
    (h : wpAny (model X.prog X.w) A.in1 (call (.ref f) [.ref ax, y]) (fun v s' => ∃ b, v = .bool b ∧ Q (.bool (!b)) s') EV s) : wpAny (model X.prog X.w) A (richCompare .NotEq (.ref ax) y) Q EV s := by
  have one : wpAny (model X.prog X.w) A (tryCompare (.ref ax) (cmpInfo .NotEq).2.1 y) (fun r s' => ∃ v, r = some v ∧ Q v s') EV s := by
    unfold tryCompare
    refine wpAny_bind (ifBound_ne hX I hk.ne (wpAny_call (codeAny_call_builtin F.cmp_object.ne.plain F.cmpEntry_ne
      (PySem.W.check_slot F.cmpKind_ne F.cmpSplit_ne (I.type.andThen (PySem.W.looks_mroIn hX hk.hm)) (F.cmpArgs_ne _ _) (entry_ne (A := A.in1) hX I hk hu (wpAny_mono h (fun v s' hv => ?_) fun _ _ e => e))))))
    obtain ⟨b, rfl, hq⟩ := hv
    first
      | exact ⟨b, rfl, wpAny_pure ⟨_, rfl, hq⟩⟩
      | exact ⟨b, rfl, wpAny_pure (wpAny_pure ⟨_, rfl, hq⟩)⟩
  unfold richCompare
  simp only [oneThing_ref]
  refine wpAny_holding (wpAny_bind (wpAny_cRoomFor (Nat.lt_of_succ_lt hu) ?_))
  refine wpAny_bind (I.type.here (wpAny_bind (hb.here ?_)))
  split
  · rename_i q
    have e : PySem.W.subIn K tb (.ref Ca) = some false := by
      rcases Bool.or_eq_true_iff.mp hn with e | e
      · rw [beq_iff_eq.mp e] at q; simp at q
      · exact beq_iff_eq.mp e
    refine wpAny_bind ((PySem.W.looks_subIn hX e).here ?_)
    simp only [Bool.false_eq_true, if_false]
    refine wpAny_bind (wpAny_mono one (fun r s' z => ?_) fun _ _ e => e)
    obtain ⟨v, rfl, hq⟩ := z
    exact wpAny_pure hq
  · refine wpAny_bind (wpAny_pure ?_)
    simp only [Bool.false_eq_true, if_false]
    refine wpAny_bind (wpAny_mono one (fun r s' z => ?_) fun _ _ e => e)
    obtain ⟨v, rfl, hq⟩ := z
    exact wpAny_pure hq
end
theorem op_ownNe (F : FnOk X.prog X.w X.K X.mg X.base CX k f fd ps sp) (hr : Room (k + 1) X.A) (hk : EqK X.K Ca f) (hb : Binds X.K fd ps []) (hx : Passes CX X fun _ _ _ => False) : OpR X (compareOp .NotEq) (rOwn Ca sp true) := by
  intro pins s σ H x y v u Q I rx ry ⟨a, dx, fs, ex, ha, hy, h⟩
  subst ex
  obtain rfl : v = Value.ref a := rx
  obtain ⟨mA, J, _⟩ := ins_get I.hok ha
  obtain ⟨od, J, _⟩ := J.look
  have r2 : Vals [V.ref a, y] [Value.ref a, u] := .cons rfl (.cons ry .nil)
  have sb : Sub X (k + 1) X.A := ⟨hr, rfl⟩
  have hcall := run_at sb.in1 F hb hx I r2 h
  have back : wpAny (model X.prog X.w) X.A.in1 (call (.ref f) [.ref a, u]) (fun v s' => ∃ b, v = .bool b ∧ EP X pins σ Q (.bool (!b)) s') X.xe s := wpAny_mono hcall (fun w s' hw => by
    obtain ⟨z, H', I', rz, b, ez, q⟩ := hw
    subst ez
    cases rz
    exact ⟨b, rfl, .bl (!b), H', I', rfl, by simpa using q⟩) fun _ _ z => z
  have hu : X.A.units + 1 < cLine := by have := hr.un; omega
  show wpAny (model X.prog X.w) X.A (richCompare .NotEq (.ref a) u) (EP X pins σ Q) X.xe s
  rcases hy with ⟨i, rfl⟩ | ⟨b, dy, gs, rfl, hb'⟩
  · obtain ⟨t, rfl⟩ := ry
    exact rc_ne (tb := .type "int") I.kIn J hk hu (PySem.W.Looks.of_pure rfl) not_int back
  · obtain rfl : u = Value.ref b := ry
    obtain ⟨mB, J', _⟩ := ins_get I.hok hb'
    obtain ⟨od', J', _⟩ := J'.look
    exact rc_ne (tb := .ref Ca) I.kIn J hk hu J'.type (by simp [PySem.W.notFirst]) back
/-- a == b, a != b of an own instance and an instance of its class, or an int -/
def wOwn (c : Nat) (cw : CW) (neg : Bool) (wa wb : WE) : WE := fun sl rt k => wa sl rt fun x rt1 => wb sl rt1 fun y rt2 => match x, y with
  | .dat (.obj c1 d1), .dat (.obj c2 d2) => c1 = c ∧ c2 = c ∧ cw [x, y] [] (fun t _ => match t with
      | .dat (.bool b) => k (.dat (.bool (neg != b))) rt2
      | _ => False) fun _ _ => False
  | .dat (.obj c1 d1), .dat (.int i) => c1 = c ∧ cw [x, y] [] (fun t _ => match t with
      | .dat (.bool b) => k (.dat (.bool (neg != b))) rt2
      | _ => False) fun _ _ => False
  | _, _ => False
theorem e_own {c : Nat} {cw : CW} {neg : Bool} : ∀ σ H Q, tE K C U (wOwn c cw neg wa wb) σ H Q → tOp (rOwn (C.at_ c) (spW K C cw) neg) (tE K C U wa) (tE K C U wb) σ H Q := fun σ H Q ⟨sl, rt, ρ, fps, G, k, s, xf, w, q⟩ =>
  ⟨sl, rt, ρ, fps, G, _, s, xf, w, fun x rt1 fps1 G1 H1 v r1 n1 v1 w1 => ⟨sl, rt1, ρ, fps1, G1, _, s.step r1 n1 fun _ _ e => e, xf.later n1 (Pre.refl _), w1, fun y rt2 fps2 G2 H2 u r2 n2 v2 w2 => by
    have v1 := v1.up n2 fun _ _ e => e
    have n3 := n1.trans n2
    have main : ∀ d1 d2, x = .dat d1 → y = .dat d2 → (cw [x, y] [] (fun t _ => match t with
        | .dat (.bool b) => k (.dat (.bool (neg != b))) rt2
        | _ => False) fun _ _ => False) → spW K C cw [v, u] H2 (fun v H' => ∃ b, v = .bl b ∧ Q (.bl (neg != b)) H') fun _ _ _ => False := fun d1 d2 e1 e2 w => by
      subst e1 e2
      refine sp_use (k := fun t rt' => match t with
        | .dat (.bool b) => k (.dat (.bool (neg != b))) rt'
        | _ => False) (kx := fun _ _ => False) r2 (.cons v1 (.cons v2 .nil)) rfl rfl w (fun t rt' fps' fp G' H' v r' n' o' new hk => ?_) fun _ _ _ _ _ _ _ _ _ _ z => z.elim
      split at hk
      · rename_i b
        cases o'.tr with
        | dat h =>
          cases h
          exact ⟨b, rfl, q (.dat (.bool (neg != b))) rt' fps' G' H' _ r' (n3.trans n') (DR.bool _) hk⟩
      · exact hk.elim
    split at w2
    · obtain ⟨e1, e2, w2⟩ := w2
      subst e1
      have w3 := main _ _ rfl rfl w2
      cases v1 with
      | obj h n r =>
        cases v2 with
        | obj h' n' r' =>
          subst e2
          exact ⟨_, _, _, rfl, r2.sub _ _ h, .inr ⟨_, _, _, rfl, r2.sub _ _ h'⟩, w3⟩
    · obtain ⟨e1, w2⟩ := w2
      subst e1
      have w3 := main _ _ rfl rfl w2
      cases v1 with
      | obj h n r =>
        cases v2
        exact ⟨_, _, _, rfl, r2.sub _ _ h, .inl ⟨_, rfl⟩, w3⟩
    · exact w2.elim⟩⟩
theorem we_own {c : Nat} {cw : CW} {op : CmpOp} {neg : Bool} (ho : OpR X (compareOp op) (rOwn (C.at_ c) (spW K C cw) neg)) (ha : PE X a (tE K C U wa)) (hb : PE X b (tE K C U wb)) (hm : behindInMarks op b = false) : PE X (.Compare a [op] [b] pos) (tE K C U (wOwn c cw neg wa wb)) := pe_imp (pe_cmpR ho ha hb hm) e_own
theorem wt_own {c : Nat} {cw : CW} {op : CmpOp} {neg : Bool} (ho : OpR X (compareOp op) (rOwn (C.at_ c) (spW K C cw) neg)) (ha : PE X a (tE K C U wa)) (hb : PE X b (tE K C U wb)) (hm : behindInMarks op b = false) : PT X (.Compare a [op] [b] pos) (tT K C U (wB (wOwn c cw neg wa wb))) :=
  pt_imp (pt_cmpR ho ha hb hm) fun σ H Q h => e_own σ H _ (t_test σ H Q h)
end
end Wv
end

section
set_option Elab.async false
set_option linter.all false
set_option maxRecDepth 100000
set_option maxHeartbeats 4000000
namespace Wv
open PySem PySem.Spec PyProof.Rows L2 Evl
open PySem (Sem.wp)
theorem meets_enumerate_newT (l : Addr) (items : Array Value) (n : Nat) (dct : Option Addr) (sl : Array (Option Value)) :
    Meets (Builtin.«enumerate.__new__» ⟨[.type "enumerate", .ref l], []⟩) (fun _ R s => s.heap.get? l = some { cls := .type "tuple", dict := dct, data := .seq items n, slots := sl } ∧
      R (.ok (.ret (.ref (s.heap.push { cls := .type "tuple_iterator", data := .fields #[.ref l, .int 0 0] }).objs.size)))
        { s with heap := (s.heap.push { cls := .type "tuple_iterator", data := .fields #[.ref l, .int 0 0] }).push { cls := .type "enumerate", data := .fields #[.none, .bool false, .ref s.heap.objs.size, rawInt 0, .none, .none] } }) :=
  .of_wp fun prog w A R s h => by
    obtain ⟨hp, g, d, tk, os⟩ := s; obtain ⟨hl, h⟩ := h
    have hsub := sub_enumerate
    have hL : Heap.IsTuple (Shared.heap ⟨hp, g, d, tk, os⟩) l items := ⟨_, hl, rfl, n, rfl⟩
    wp_walk using AutoSeq1.wpAny_loadPart' hl
    refine wpAny_stack_any fun st => wpAny_pure ?_
    split
    · rename_i c _ _ _ _ _
      cases (c == Value.type "enumerate")
      · wp_walk using AutoSeq1.wpAny_loadPart' hl, wpAny_pyIter_tuple hL
        exact ⟨_, rfl, h⟩
      · wp_walk using AutoSeq1.wpAny_loadPart' hl, wpAny_pyIter_tuple hL
        exact ⟨_, rfl, h⟩
    · wp_walk using AutoSeq1.wpAny_loadPart' hl, wpAny_pyIter_tuple hL
      exact ⟨_, rfl, h⟩
theorem call_enumerate_tuple {prog : Program} {w : World} {A : Around} {E : Value → Shared → Prop} {s : Shared} {l : Addr} {items : Array Value} {Q : Value → Shared → Prop} (hL : s.heap.IsTuple l items)
    (h : ∀ h', IsEnum h' (s.heap.objs.size + 1) s.heap.objs.size 0 .none → h'.IsTupleIter s.heap.objs.size l 0 → h'.objs.size = s.heap.objs.size + 2 →
      (∀ b o, s.heap.get? b = some o → h'.get? b = some o) → Q (.ref (s.heap.objs.size + 1)) { s with heap := h' }) :
    wpAny (model prog w) A (call (.type "enumerate") [.ref l]) Q E s := by
  obtain ⟨⟨c, dct, dt, sl⟩, hl, hc, n, hd⟩ := hL
  replace hc : c = .type "tuple" := hc
  replace hd : dt = .seq items n := hd
  subst hc hd
  refine callType_new F.called_enumerate (by decide) (F.typeCall_enumerate_1 _) (F.newCall_enumerate_1 _) (fun obj => F.args_object_init_2 obj _) F.entry_enumerate_new
    (meets_enumerate_newT l items n dct sl) ⟨hl, ?_⟩
  have hz : (s.heap.push { cls := .type "tuple_iterator", data := .fields #[.ref l, .int 0 0] }).objs.size = s.heap.objs.size + 1 := Heap.size_push ..
  show _ ∧ _
  rw [hz]
  have he : IsEnum ((s.heap.push { cls := .type "tuple_iterator", data := .fields #[.ref l, .int 0 0] }).push
      { cls := .type "enumerate", data := .fields #[.none, .bool false, .ref s.heap.objs.size, rawInt 0, .none, .none] }) (s.heap.objs.size + 1) s.heap.objs.size 0 .none := by
    have := Heap.get?_push_size (s.heap.push { cls := .type "tuple_iterator", data := .fields #[.ref l, .int 0 0] })
      (o := { cls := .type "enumerate", data := .fields #[.none, .bool false, .ref s.heap.objs.size, rawInt 0, .none, .none] }) rfl
    rw [hz] at this; exact this
  refine ⟨⟨_, he, rfl⟩, h _ he ⟨_, Heap.get?_push_of_some _ (Heap.get?_push_size _ rfl), rfl, rfl⟩ (by rw [Heap.size_push, hz]) fun b o x => Heap.get?_push_of_some _ (Heap.get?_push_of_some _ x)⟩
/-! ### enumerate(tuple) -/
def ItTe (K : PySem.W.Frag) (a : Addr) : It :=
  ⟨fun i H => ∃ (xs : List V) (x : V), SqT K H a xs ∧ xs[i]? = some x, fun i H v H' => ∃ T x, v = .ref T ∧ H T = none ∧ H' = upd H T (.tup [.int (i : Nat), x]) ∧ ∀ xs, SqT K H a xs → xs[i]? = some x, fun i H => ∃ xs : List V, SqT K H a xs ∧ xs.length ≤ i⟩
theorem enum_apart {h : Heap} {e it a : Addr} {c : Int} {old : Value} {items : Array Value} (he : IsEnum h e it c old) (p : Heap.IsTuple h a items) : e ≠ a := fun z => by
  obtain ⟨o, ho, hc, _⟩ := p
  rw [← z, show h.get? e = some _ from he] at ho
  cases ho
  injection hc with y
  exact absurd y (by decide)
theorem iter_apart {h : Heap} {it a b : Addr} {i : Nat} {items : Array Value} (he : h.IsTupleIter it b i) (p : Heap.IsTuple h a items) : a ≠ it := fun z => by
  obtain ⟨o, ho, hc, _⟩ := p
  obtain ⟨o', ho', hc', _⟩ := he
  rw [z, ho'] at ho
  cases ho
  rw [hc] at hc'
  injection hc' with y
  exact absurd y (by decide)
theorem turn_enumT {P : Program} {w : World} {K : PySem.W.Frag} {elts : List Expr} {kk : Nat} {tpos : Pos} (a e it : Addr) :
    Turn P w K (.Tuple elts kk tpos) (ItTe K a) [e, it] e (fun i h => (∃ old, IsEnum h e it ((i : Nat) : Int) old) ∧ h.IsTupleIter it a i ∧ e ≠ it) where
  mem := by simp
  obj := fun i h st b hb => by
    obtain ⟨⟨old, he⟩, ⟨o, ho, hc, hd⟩, _⟩ := st
    have e' : b = e ∨ b = it := by simpa using hb
    rcases e' with z | z
    · rw [z]; exact ⟨_, he, fun v q => nomatch q⟩
    · rw [z]; exact ⟨o, ho, fun v q => by rw [hd] at q; cases q⟩
  keep := fun i h h' st k => let ⟨⟨old, he⟩, hi, hne⟩ := st; ⟨⟨old, k e (by simp) _ he⟩, hi.at fun o q => k it (by simp) o q, hne⟩
  item := by
    intro X hP hw hK hc i pins s σ H E I hf st hg
    subst hP hw hK
    obtain ⟨⟨old, he⟩, hit, hne⟩ := st
    obtain ⟨xs, x, hq, hx⟩ := hg
    obtain ⟨its, rv, p, hz⟩ := I.tuple hq
    obtain ⟨u, hu, ru⟩ := rv.get hx
    have pT : Heap.IsTuple s.heap a its.toArray := p
    have hel : e < s.heap.objs.size := Heap.lt_size he
    have hil : it < s.heap.objs.size := by obtain ⟨_, q, _⟩ := hit; exact Heap.lt_size q
    have ha := iter_apart hit pT
    have hea := enum_apart he pT
    have hlt : i < its.toArray.size := by
      have := (List.getElem?_eq_some_iff.mp hu).1
      simpa using this
    refine wpAny_pyNext_enum_itemD (Draws.tuple (A := X.A.in1) (I.ok.hd hc) it a ha its.toArray) he ⟨hit, pT⟩ hlt hne (by simp [hne, hea]) fun u2 h' tk hP ho hit2 hT hsz hk => ?_
    have hit' := hit2.1
    have eu : u2 = u := by
      have h1 : its.toArray[i]? = some u2 := hP
      have h2 : its.toArray[i]? = some u := by simpa using hu
      rw [h1] at h2
      exact Option.some.inj h2
    subst eu
    refine ⟨_, rfl, wpAny_letOwnedTupleGo_enum (s := { s with heap := h', toks := tk + 1 }) ho fun h'' he' sb => ?_⟩
    have hT2 : h''.get? s.heap.objs.size = some { cls := .type "tuple", data := .seq #[.int i tk, u2] } := (sb.2 _ (Nat.ne_of_gt hel)).trans hT
    have new : ObjOk X.prog X.w (upd H s.heap.objs.size (.tup [.int (i : Nat), x])) h'' s.heap.objs.size (.tup [.int (i : Nat), x]) :=
      ⟨by show 2 ≤ sizeLine; decide, [.int i tk, u2], .cons ⟨_, rfl⟩ (.cons ru .nil), ⟨_, hT2, rfl, _, rfl⟩⟩
    have I1 : Inv X pins σ (upd H s.heap.objs.size (.tup [.int (i : Nat), x])) { s with heap := h'', toks := tk + 1 } :=
      I.turnedNew (ch := [e, it]) (fun b ob hb q => (sb.2 b (fun z => hb (by simp [z]))).trans (hk b ob (fun z => hb (by simp [z])) (fun z => hb (by simp [z])) q)) hf (Nat.le_refl _) new
    refine ⟨.ref s.heap.objs.size, _, I1, rfl, ⟨_, x, rfl, I.hok.fresh (Nat.le_refl _), rfl, fun ys hy => by rw [I.tuple_inj hy hq]; exact hx⟩, ⟨⟨u2, ?_⟩, hit'.at fun o q => (sb.2 it (Ne.symm hne)).trans q, hne⟩, fun b hb => ?_⟩
    · have e1 : ((i + 1 : Nat) : Int) = (i : Int) + 1 := by omega
      rw [e1]; exact he'
    · have hb' : b < s.heap.objs.size := by
        have e' : b = e ∨ b = it := by simpa using hb
        rcases e' with z | z
        · rw [z]; exact hel
        · rw [z]; exact hil
      rw [upd_ne (Nat.ne_of_lt hb')]
      exact (hf b hb).1
  done := by
    intro X hP hw hK hc i pins s σ H E I hf st hg
    subst hP hw hK
    obtain ⟨⟨old, he⟩, hit, hne⟩ := st
    obtain ⟨xs, hq, hx⟩ := hg
    obtain ⟨its, rv, p, hz⟩ := I.tuple hq
    have hl := rv.length
    obtain ⟨f0, f1, f2, f3, f4, f5⟩ := hf it (by simp)
    have pT : Heap.IsTuple s.heap a its.toArray := p
    have he' := he
    have hT : s.TypeIs (.ref e) "enumerate" := ⟨_, he, rfl⟩
    have hd : X.A.handled = none := I.ok.hd hc
    unfold pyNext
    refine wpAny_bind (wpAny_attempt (wpAny_callSpecial?_slot (name := Str.ofString "__next__") hT F.slot_enumerate_next
      (wpAny_call_entry F.slot_enumerate_next hT F.entry_enumerate_next ?_ (F.args_enumerate_next_1 _))))
    show wpAny _ _ (field (.ref e) 2 >>= _) _ _ _
    refine wpAny_bind (wpAny_field he rfl (x := .ref it) rfl ?_)
    refine wpAny_bind (wpAny_nextOf_tuple_end hd hit pT (by simp; omega) fun h' x eb hx' => ?_)
    obtain ⟨o, ho, hcl⟩ := hx'
    refine wpAny_bind (wpAny_isInstance (T := "StopIteration") (b := true) ⟨o, ho, hcl⟩ isSubtype_stop ?_)
    exact wpAny_pure ⟨rfl, I.turned (t' := s.toks) (fun b o hb q => eb b o hb q) f0 f1 f3 f4 f5⟩
  self := fun A i s Q E st h => let ⟨⟨_, he⟩, _⟩ := st; wpAny_pyIter_enum he h
def iEnumT (K : PySem.W.Frag) (ta : TA) : TI := fun σ H R => ta σ H fun vs H1 => ∃ a xs, vs = [.ref a] ∧ SqT K H1 a xs ∧ R (ItTe K a) H1
theorem pi_enumT {X : Cx} {e : Expr} {ta : TA} {p pos tpos : Pos} {elts : List Expr} {kk : Nat} (hg : Gl X "enumerate") (hm : X.mg "enumerate" = none) (ha : PA X [e] ta) (hs : starEach [e] X.env = [(false, eval e X.env)] := by rfl) :
    PI X (.Tuple elts kk tpos) (.Call (.Name "enumerate" p) [e] [] pos) (iEnumT X.K ta) := by
  refine ⟨fun pins s σ H R I h => ?_⟩
  refine Call_ (ld_blt I hg hm boot_enumerate (PyProof.Rows.callWith_type1 (thn (ha.run pos pins s σ H _ I h) fun us s1 ⟨vs, H1, I1, r1, q1⟩ => ?_) hs rfl))
  obtain ⟨a, xs, ex, hq, q⟩ := q1
  subst ex
  cases r1 with
  | cons r rr =>
    cases rr
    cases r
    obtain ⟨its, rv, p', hz⟩ := I1.tuple hq
    refine call_enumerate_tuple p' fun h' he hit hsz hk => wpAny_pyIter_enum he ?_
    have I2 : Inv X pins σ H1 { s1 with heap := h' } := I1.kept (t' := s1.toks) hk
    refine ⟨s1.heap.objs.size + 1, [s1.heap.objs.size + 1, s1.heap.objs.size], _, _, H1, rfl, I2, turn_enumT a (s1.heap.objs.size + 1) s1.heap.objs.size, ⟨⟨.none, he⟩, hit, Nat.succ_ne_self _⟩, fun b hb => ?_, q⟩
    have e' : b = s1.heap.objs.size + 1 ∨ b = s1.heap.objs.size := by simpa using hb
    have hle : s1.heap.objs.size ≤ b := by
      rcases e' with z | z
      · rw [z]; exact Nat.le_add_right _ _
      · rw [z]; exact Nat.le_refl _
    exact I1.fpOk hle (I1.hok.fresh hle)
section
variable {K : PySem.W.Frag} {C : Cs} {U : UX} {a : Addr} {xs : List V}
theorem walk_enumT : Walk (ItTe K a) xs.length (fun H => SqT K H a xs) (YPair (fun i => some (.int (i : Nat))) (fun i => xs[i]?)) := by
  refine ⟨fun i _ hi q => ⟨xs, xs[i], q, by simp [hi]⟩, fun _ q => ⟨xs, q, Nat.le_refl _⟩, fun i H v H' _ q y => ?_⟩
  obtain ⟨T, x, h1, h2, h3, h4⟩ := y
  exact ⟨T, .int (i : Nat), x, h1, h2, h3, rfl, h4 xs q⟩
def wEnumT (w : WA) : WI := fun sl rt k => w sl rt fun xs rt1 => match xs with
  | [.dat (.tup ds)] => k (ds.zipIdx.map fun q => .tup [.int (q.2 : Nat), q.1]) rt1
  | _ => False
theorem i_enumT {w : WA} : ∀ σ H Q, tI K C U (wEnumT w) σ H Q → iEnumT K (tA K C U w) σ H Q := fun σ H Q ⟨sl, rt, ρ, fps, G, k, s, xf, w, q⟩ =>
  ⟨sl, rt, ρ, fps, G, _, s, xf, w, fun xs rt1 fps1 G1 H1 vs r1 n1 v1 w1 => by
    split at w1
    · rename_i ds
      cases v1 with
      | cons h r =>
        cases r
        cases h with
        | @tup a xs _ h2 r =>
          refine ⟨a, xs, rfl, ex_t r1.sub h2, q _ rt1 fps1 G1 H1 _ r1 n1 ⟨fun H => SqT K H a xs, YPair (fun i => some (.int (i : Nat))) (fun i => xs[i]?), ?_, fun H2 e2 => ex_t e2 h2, fun i d H2 v H3 hd _ y => ?_⟩ w1⟩
          · rw [List.length_map, List.length_zipIdx, ← r.len]
            exact walk_enumT
          · obtain ⟨T, x, y', rfl, hT, rfl, e1, e2⟩ := y
            cases e1
            rw [List.getElem?_map, List.getElem?_zipIdx] at hd
            cases z : ds[i]? with
            | none => rw [z] at hd; cases hd
            | some d0 =>
              rw [z] at hd
              cases hd
              obtain ⟨u, z1, z2⟩ := r.get z
              have e3 : some u = some y' := z1.symm.trans e2
              cases e3
              refine .inr ⟨T, _, _, hT, rfl, rfl, rfl, .cons ?_ (.cons z2 .nil)⟩
              show DR K C G1 (.int (i : Nat)) (.int ((0 + i : Nat) : Int))
              rw [Nat.zero_add]
              exact .int _
    · exact w1.elim⟩
end
end Wv
end

section
set_option Elab.async false
set_option linter.all false
set_option maxRecDepth 100000
set_option maxHeartbeats 4000000
namespace Wv
open PySem PySem.Spec PyProof.Rows L2 Evl
section
open PySem.SeqAt
variable {prog : Program} {w : World} {A : Around} {R : Result → Shared → Prop}
theorem tuple_eqB (l b : Addr) (items items2 : Array Value) (n n2 : Nat) (dd dd2 : Option Addr) (sl sl2 : Array (Option Value)) (I : Nat → Shared → Prop)
    (turn : ∀ i (h1 : i < items.size) (h2 : i < items2.size) s, I i s → wpAny (model prog w) A.in1 (eqBool items[i] items2[i]) (fun r s' => (r = true ∧ I (i + 1) s') ∨ (r = false ∧ R (.ok (.ret (.bool false))) s')) (fun e s' => R (.error e) s') s)
    (fin : ∀ s, I (min items.size items2.size) s → R (.ok (.ret (.bool (items.size == items2.size)))) s) {s : Shared} (hl1 : s.heap.get? l = some { cls := .type "tuple", dict := dd, data := .seq items n, slots := sl }) (hb1 : s.heap.get? b = some { cls := .type "tuple", dict := dd2, data := .seq items2 n2, slots := sl2 }) (h : I 0 s) :
    wpAny (model prog w) A.in1 (Builtin.«tuple.__eq__» ⟨[.ref l, .ref b], []⟩) (GQ.FinOf prog w A R) (fun e s' => R (.error e) s') s := by
  have f2 := AutoSeq1.sub_tuple_tuple
  have hZ : (items.toList.zip items2.toList).length = min items.size items2.size := by simp
  have h0 := h
  obtain ⟨hp, g, d, tk, os⟩ := s
  wp_walk using AutoSeq1.wpAny_loadPart' hl1, AutoSeq1.wpAny_loadPart' hb1, wpAny_forIn_list _ (fun rest b s' => b.1 = none ∧ ∃ i, rest = (items.toList.zip items2.toList).drop i ∧ i ≤ min items.size items2.size ∧ I i s') _
  case turn =>
    rintro ⟨y, x⟩ rest b s' ⟨hb', i, hz, hi, hI⟩
    have hlt : i < (items.toList.zip items2.toList).length := by
      rcases Nat.lt_or_ge i (items.toList.zip items2.toList).length with h' | h'
      · exact h'
      · rw [List.drop_of_length_le h'] at hz; cases hz
    have hm : i < min items.size items2.size := hZ ▸ hlt
    have h1 : i < items.size := Nat.lt_of_lt_of_le hm (Nat.min_le_left _ _)
    have h2 : i < items2.size := Nat.lt_of_lt_of_le hm (Nat.min_le_right _ _)
    rw [List.drop_eq_getElem_cons hlt] at hz
    injection hz with hyx hrest
    have hy : y = items[i] := by have := congrArg Prod.fst hyx; simpa using this
    have hx : x = items2[i] := by have := congrArg Prod.snd hyx; simpa using this
    subst hy hx
    refine wpAny_bind (wpAny_mono (turn i h1 h2 s' hI) (fun r s2 q2 => ?_) fun _ _ x => x)
    rcases q2 with ⟨hr, q2⟩ | ⟨hr, q2⟩
    · subst hr
      wp_walk
      exact ⟨rfl, i + 1, hrest, hm, q2⟩
    · subst hr
      wp_walk
      exact q2
  case fin =>
    rintro ⟨b1, b2⟩ s' ⟨hb', i, hz, hi, hI⟩
    simp only at hb'
    subst hb'
    have hge : min items.size items2.size ≤ i := by
      rcases Nat.lt_or_ge i (items.toList.zip items2.toList).length with h' | h'
      · rw [List.drop_eq_getElem_cons h'] at hz; cases hz
      · exact hZ ▸ h'
    have hi' : i = min items.size items2.size := by omega
    have hR := fin s' (hi' ▸ hI)
    wp_walk
    simpa [Builtin.Tuple.tupleCompareSizes] using hR
  case h =>
    exact ⟨rfl, 0, rfl, Nat.zero_le _, h0⟩
theorem tuple_neB (l b : Addr) (items items2 : Array Value) (n n2 : Nat) (dd dd2 : Option Addr) (sl sl2 : Array (Option Value)) (I : Nat → Shared → Prop)
    (turn : ∀ i (h1 : i < items.size) (h2 : i < items2.size) s, I i s → wpAny (model prog w) A.in1 (eqBool items[i] items2[i]) (fun r s' => (r = true ∧ I (i + 1) s') ∨ (r = false ∧ R (.ok (.ret (.bool true))) s')) (fun e s' => R (.error e) s') s)
    (fin : ∀ s, I (min items.size items2.size) s → R (.ok (.ret (.bool (items.size != items2.size)))) s) {s : Shared} (hl1 : s.heap.get? l = some { cls := .type "tuple", dict := dd, data := .seq items n, slots := sl }) (hb1 : s.heap.get? b = some { cls := .type "tuple", dict := dd2, data := .seq items2 n2, slots := sl2 }) (h : I 0 s) :
    wpAny (model prog w) A.in1 (Builtin.«tuple.__ne__» ⟨[.ref l, .ref b], []⟩) (GQ.FinOf prog w A R) (fun e s' => R (.error e) s') s := by
  have f2 := AutoSeq1.sub_tuple_tuple
  have hZ : (items.toList.zip items2.toList).length = min items.size items2.size := by simp
  have h0 := h
  obtain ⟨hp, g, d, tk, os⟩ := s
  wp_walk using AutoSeq1.wpAny_loadPart' hl1, AutoSeq1.wpAny_loadPart' hb1, wpAny_forIn_list _ (fun rest b s' => b.1 = none ∧ ∃ i, rest = (items.toList.zip items2.toList).drop i ∧ i ≤ min items.size items2.size ∧ I i s') _
  case turn =>
    rintro ⟨y, x⟩ rest b s' ⟨hb', i, hz, hi, hI⟩
    have hlt : i < (items.toList.zip items2.toList).length := by
      rcases Nat.lt_or_ge i (items.toList.zip items2.toList).length with h' | h'
      · exact h'
      · rw [List.drop_of_length_le h'] at hz; cases hz
    have hm : i < min items.size items2.size := hZ ▸ hlt
    have h1 : i < items.size := Nat.lt_of_lt_of_le hm (Nat.min_le_left _ _)
    have h2 : i < items2.size := Nat.lt_of_lt_of_le hm (Nat.min_le_right _ _)
    rw [List.drop_eq_getElem_cons hlt] at hz
    injection hz with hyx hrest
    have hy : y = items[i] := by have := congrArg Prod.fst hyx; simpa using this
    have hx : x = items2[i] := by have := congrArg Prod.snd hyx; simpa using this
    subst hy hx
    refine wpAny_bind (wpAny_mono (turn i h1 h2 s' hI) (fun r s2 q2 => ?_) fun _ _ x => x)
    rcases q2 with ⟨hr, q2⟩ | ⟨hr, q2⟩
    · subst hr
      wp_walk
      exact ⟨rfl, i + 1, hrest, hm, q2⟩
    · subst hr
      wp_walk
      exact q2
  case fin =>
    rintro ⟨b1, b2⟩ s' ⟨hb', i, hz, hi, hI⟩
    simp only at hb'
    subst hb'
    have hge : min items.size items2.size ≤ i := by
      rcases Nat.lt_or_ge i (items.toList.zip items2.toList).length with h' | h'
      · rw [List.drop_eq_getElem_cons h'] at hz; cases hz
      · exact hZ ▸ h'
    have hi' : i = min items.size items2.size := by omega
    have hR := fin s' (hi' ▸ hI)
    wp_walk
    simpa [Builtin.Tuple.tupleCompareSizes] using hR
  case h =>
    exact ⟨rfl, 0, rfl, Nat.zero_le _, h0⟩
end
section
variable {prog : Program} {w : World} {A : Around} {E : Value → Shared → Prop} {s : Shared}
theorem rc_tupB {l b : Addr} {items items2 : Array Value} {neg : Bool} {Q : Value → Shared → Prop} (hu : A.units < cLine) (I : Nat → Shared → Prop)
    (hl : s.heap.IsTuple l items) (hb : s.heap.IsTuple b items2)
    (turn : ∀ i (h1 : i < items.size) (h2 : i < items2.size) s, I i s → wpAny (model prog w) A.in1 (eqBool items[i] items2[i]) (fun r s' => (r = true ∧ I (i + 1) s') ∨ (r = false ∧ Q (.bool neg) s')) E s)
    (fin : ∀ s, I (min items.size items2.size) s → Q (.bool (neg != (items.size == items2.size))) s) (h : I 0 s) : wpAny (model prog w) A (richCompare (if neg then .NotEq else .Eq) (.ref l) (.ref b)) Q E s := by
  obtain ⟨⟨cls, dd, data, sl⟩, ho, hc, n, hd⟩ := id hl
  obtain ⟨⟨cls2, dd2, data2, sl2⟩, ho2, hc2, n2, hd2⟩ := id hb
  simp only at hc hd hc2 hd2
  subst hc hd hc2 hd2
  cases neg with
  | false =>
    refine wpAny_richCompare_same_room (op := .Eq) ⟨_, ho, rfl⟩ ⟨_, ho2, rfl⟩ F.slot_tuple_eq (GQ.call_here F.slot_tuple_eq ⟨_, ho, rfl⟩ F.entry_tuple_eq (F.args_tuple_eq_2 _ _) ?_) hu
    refine tuple_eqB (R := wants (fun v s' => v ≠ .notImplemented ∧ Q v s') E) l b items items2 n n2 dd dd2 sl sl2 I (fun i h1 h2 s q => wpAny_mono (turn i h1 h2 s q) (fun r s' q => ?_) fun _ _ x => x) (fun s' q => ⟨(fun x => nomatch x), by simpa using fin s' q⟩) ho ho2 h
    rcases q with q | ⟨q1, q2⟩
    · exact .inl q
    · exact .inr ⟨q1, (fun x => nomatch x), q2⟩
  | true =>
    refine wpAny_richCompare_same_room (op := .NotEq) ⟨_, ho, rfl⟩ ⟨_, ho2, rfl⟩ F.slot_tuple_ne (GQ.call_here F.slot_tuple_ne ⟨_, ho, rfl⟩ F.entry_tuple_ne (F.args_tuple_ne_2 _ _) ?_) hu
    refine tuple_neB (R := wants (fun v s' => v ≠ .notImplemented ∧ Q v s') E) l b items items2 n n2 dd dd2 sl sl2 I (fun i h1 h2 s q => wpAny_mono (turn i h1 h2 s q) (fun r s' q => ?_) fun _ _ x => x) (fun s' q => ⟨(fun x => nomatch x), by have z := fin s' q; simpa [bne] using z⟩) ho ho2 h
    rcases q with q | ⟨q1, q2⟩
    · exact .inl q
    · exact .inr ⟨q1, (fun x => nomatch x), q2⟩
end

/-! ### == of data with own instances in it -/
mutual
def D.deep : D → Nat
  | .tup ds => D.deeps ds + 1
  | .tpx ds => D.deeps ds + 1
  | _ => 0
def D.deeps : List D → Nat
  | [] => 0
  | d :: ds => max d.deep (D.deeps ds)
end
/-- ok c: the number of fields of a class whose own == compares them as a tuple of plain data -/
def noOk : Nat → Option Nat := fun _ => none
mutual
def eqD : (Nat → Option Nat) → D → D → Option Bool
  | ok, .tup ds, .tup es => eqDs ok ds es
  | ok, .tup ds, .tpx es => eqDs ok ds es
  | ok, .tpx ds, .tup es => eqDs ok ds es
  | ok, .tpx ds, .tpx es => eqDs ok ds es
  | ok, .obj c ds, .obj c' es => if c = c' ∧ ok c = some ds.length ∧ es.length = ds.length ∧ D.deeps ds ≤ 4 then eqDs noOk ds es else none
  | _, d, e => D.sc d e
def eqDs : (Nat → Option Nat) → List D → List D → Option Bool
  | _, [], [] => some true
  | _, [], _ :: _ => some false
  | _, _ :: _, [] => some false
  | ok, d :: ds, e :: es => match eqD ok d e with
    | some true => eqDs ok ds es
    | some false => some false
    | none => none
end
section
variable {C : Cs} {X : Cx} {CX : CXT} {k n : Nat} {ok : Nat → Option Nat}
/-- what a comparison leaves -/
def Lp (X : Cx) (pins : List (Addr × Obj)) (σ : L2.St) (G H : Hp) (s' : Shared) : Prop := ∃ G' H', Inv X pins σ H' s' ∧ Ex G' H' ∧ Nx [] G H G' H' []
def EqP (X : Cx) (C : Cs) (n : Nat) (d e : D) (b : Bool) : Prop :=
  ∀ (A : Around) (pins : List (Addr × Obj)) (s : Shared) (σ : L2.St) (G H : Hp) (x y : V) (u v : Value), Sub X n A → Inv X pins σ H s → Ex G H → RelV x u → RelV y v → DR X.K C G x d → DR X.K C G y e →
    wpAny (model X.prog X.w) A (eqBool u v) (fun r s' => r = b ∧ Lp X pins σ G H s') X.xe s
def RcP (X : Cx) (C : Cs) (n : Nat) (neg : Bool) (d e : D) (b : Bool) : Prop :=
  ∀ (A : Around) (pins : List (Addr × Obj)) (s : Shared) (σ : L2.St) (G H : Hp) (x y : V) (u v : Value), Sub X n A → Inv X pins σ H s → Ex G H → RelV x u → RelV y v → DR X.K C G x d → DR X.K C G y e →
    wpAny (model X.prog X.w) A (richCompare (if neg then .NotEq else .Eq) u v) (fun r s' => r = .bool (neg != b) ∧ Lp X pins σ G H s') X.xe s
/-- the class's own == says what eqDs says -/
structure OwnQ (X : Cx) (CX : CXT) (C : Cs) (n k c : Nat) : Prop where
  ex : ∃ f fd ps cw, FnOk X.prog X.w X.K X.mg X.base CX k f fd ps (spW X.K C cw) ∧ EqK X.K (C.at_ c) f ∧ Binds X.K fd ps [] ∧ ∀ ds es b, ds.length = n → es.length = n → D.deeps ds ≤ 4 → eqDs noOk ds es = some b → ∀ (kk : T → Roots → Prop) kx, kk (.dat (.bool b)) [] → cw [.dat (.obj c ds), .dat (.obj c es)] [] kk kx
theorem Lp.refl {pins : List (Addr × Obj)} {σ : L2.St} {G H : Hp} {s : Shared} (I : Inv X pins σ H s) (e : Ex G H) : Lp X pins σ G H s := ⟨G, H, I, e, Nx.refl _ _ _⟩
theorem same_true {pins : List (Addr × Obj)} {σ : L2.St} {G H : Hp} {s : Shared} (I : Inv X pins σ H s) (eg : Ex G H) :
    (∀ (d : D) (ok : Nat → Option Nat) (e : D) (v : V) (b : Bool), eqD ok d e = some b → DR X.K C G v d → DR X.K C G v e → b = true) := by
  have sc : ∀ {d e : D} {v : V} {b : Bool}, D.sc d e = some b → DR X.K C G v d → DR X.K C G v e → b = true := fun h h1 h2 => by
    have := (sc_ok h h1 h2).2
    simpa using this.symm
  have inj : ∀ {a : Addr} {xs ys : List V}, SqT X.K G a xs → SqT X.K G a ys → xs = ys := fun h h' => I.tuple_inj (ex_t eg h) (ex_t eg h')
  refine D.rec (motive_1 := fun d => ∀ (ok : Nat → Option Nat) (e : D) (v : V) (b : Bool), eqD ok d e = some b → DR X.K C G v d → DR X.K C G v e → b = true)
    (motive_2 := fun ds => ∀ (ok : Nat → Option Nat) (es : List D) (vs : List V) (b : Bool), eqDs ok ds es = some b → DRs X.K C G vs ds → DRs X.K C G vs es → b = true) ?_ ?_ ?_ ?_ ?_ ?_ ?_ ?_ ?_ ?_ ?_ ?_ ?_ ?_ ?_ ?_ ?_
  · intro ok e v b h h1 h2; exact sc (by simpa [eqD] using h) h1 h2
  · intro _ ok e v b h h1 h2; exact sc (by simpa [eqD] using h) h1 h2
  · intro _ ok e v b h h1 h2; exact sc (by simpa [eqD] using h) h1 h2
  · intro _ ok e v b h h1 h2; exact sc (by simpa [eqD] using h) h1 h2
  · intro _ _ ok e v b h h1 h2; exact sc (by simpa [eqD] using h) h1 h2
  · intro _ _ ok e v b h h1 h2; exact sc (by simpa [eqD] using h) h1 h2
  · intro ds ih ok e v b h h1 h2
    cases h1 with
    | tup a1 r1 =>
      cases e with
      | tup es =>
        cases h2 with
        | tup a2 r2 =>
          cases inj a1 a2
          exact ih ok es _ b (by simpa [eqD] using h) r1 r2
      | tpx es =>
        cases h2 with
        | tpx a2 _ r2 =>
          cases inj a1 (.inl (.inr ⟨_, a2⟩))
          exact ih ok es _ b (by simpa [eqD] using h) r1 r2
      | _ => simp [eqD, D.sc] at h
  · intro ds ih ok e v b h h1 h2
    cases h1 with
    | tpx a1 _ r1 =>
      cases e with
      | tup es =>
        cases h2 with
        | tup a2 r2 =>
          cases inj (.inl (.inr ⟨_, a1⟩)) a2
          exact ih ok es _ b (by simpa [eqD] using h) r1 r2
      | tpx es =>
        cases h2 with
        | tpx a2 _ r2 =>
          rw [a1] at a2
          cases a2
          exact ih ok es _ b (by simpa [eqD] using h) r1 r2
      | _ => simp [eqD, D.sc] at h
  · intro _ _ ok e v b h h1 h2; exact sc (by simpa [eqD] using h) h1 h2
  · intro c ds ih ok e v b h h1 h2
    cases h1 with
    | obj a1 n1 r1 =>
      cases e with
      | obj c' es =>
        cases h2 with
        | obj a2 n2 r2 =>
          have h : (if c = c' ∧ ok c = some ds.length ∧ es.length = ds.length ∧ D.deeps ds ≤ 4 then eqDs noOk ds es else none) = some b := by simpa [eqD] using h
          split at h
          · have z := Option.some.inj (a1.symm.trans a2)
            injection z with z1 z2 z3
            subst z3
            exact ih noOk es _ b h r1 r2
          · cases h
      | _ => simp [eqD, D.sc] at h
  · intro _ _ _ ok e v b h h1 h2; exact sc (by simpa [eqD] using h) h1 h2
  · intro _ ok e v b h h1 h2; exact sc (by simpa [eqD] using h) h1 h2
  · intro _ _ _ _ _ ok e v b h h1 h2; exact sc (by simpa [eqD] using h) h1 h2
  · intro _ ok e v b h h1 h2; exact sc (by simpa [eqD] using h) h1 h2
  · intro ok e v b h h1 h2; exact sc (by simpa [eqD] using h) h1 h2
  · intro ok es vs b h h1 h2
    cases h1
    cases h2
    simpa [eqDs] using h.symm
  · intro d ds ihd ihs ok es vs b h h1 h2
    cases h1 with
    | cons p1 r1 =>
      cases h2 with
      | cons p2 r2 =>
        rename_i e es
        have h : (match eqD ok d e with | some true => eqDs ok ds es | some false => some false | none => none) = some b := by simpa [eqDs] using h
        split at h
        · exact ihs ok es _ b h r1 r2
        · rename_i z
          exact absurd (ihd ok e _ _ z p1 p2) (by simp)
        · cases h
end
end Wv
end

section
set_option Elab.async false
set_option linter.all false
set_option maxRecDepth 100000
set_option maxHeartbeats 4000000
namespace Wv
open PySem PySem.Spec PyProof.Rows L2 Evl
section
variable {C : Cs} {X : Cx} {CX : CXT} {k n : Nat} {ok : Nat → Option Nat} {ds es : List D} {b : Bool}
theorem DRs.at {K : PySem.W.Frag} {G : Hp} {xs : List V} {i : Nat} {d : D} (r : DRs K C G xs ds) (h : ds[i]? = some d) : ∃ v, xs[i]? = some v ∧ DR K C G v d := r.get h
theorem rc_items (hit : ∀ (i : Nat) (d e : D) (b' : Bool), ds[i]? = some d → es[i]? = some e → eqD ok d e = some b' → EqP X C n d e b') (h : eqDs ok ds es = some b) {A : Around} {pins : List (Addr × Obj)} {s : Shared} {σ : L2.St} {G H : Hp} {a1 a2 : Addr} {xs ys : List V}
    (sb : Sub X (n + 1) A) (I : Inv X pins σ H s) (eg : Ex G H) (h1 : SqT X.K G a1 xs) (h2 : SqT X.K G a2 ys) (r1 : DRs X.K C G xs ds) (r2 : DRs X.K C G ys es) (neg : Bool) :
    wpAny (model X.prog X.w) A (richCompare (if neg then .NotEq else .Eq) (.ref a1) (.ref a2)) (fun r s' => r = .bool (neg != b) ∧ Lp X pins σ G H s') X.xe s := by
  obtain ⟨its, rv, e, z⟩ := I.tuple (ex_t eg h1)
  obtain ⟨its2, rv2, e2, z2⟩ := I.tuple (ex_t eg h2)
  have l1 : its.toArray.size = ds.length := by rw [List.size_toArray, ← rv.length, r1.len]
  have l2 : its2.toArray.size = es.length := by rw [List.size_toArray, ← rv2.length, r2.len]
  refine rc_tupB sb.room.units0 (fun i s' => Lp X pins σ G H s' ∧ eqDs ok (ds.drop i) (es.drop i) = some b) e e2 (fun i h1 h2 s' ⟨lp, hr⟩ => ?_) (fun s' ⟨lp, hr⟩ => ?_) ⟨.refl I eg, by simpa using h⟩
  · obtain ⟨G1, H1, I1, eg1, n1⟩ := lp
    have k1 : i < ds.length := by omega
    have k2 : i < es.length := by omega
    have d1 : ds[i]? = some ds[i] := List.getElem?_eq_getElem k1
    have d2 : es[i]? = some es[i] := List.getElem?_eq_getElem k2
    obtain ⟨v1, p1, q1⟩ := r1.get d1
    obtain ⟨v2, p2, q2⟩ := r2.get d2
    obtain ⟨u1, w1, t1⟩ := rv.get p1
    obtain ⟨u2, w2, t2⟩ := rv2.get p2
    have x1 : its.toArray[i] = u1 := by
      have := (List.getElem?_eq_some_iff.mp w1).2
      simpa using this
    have x2 : its2.toArray[i] = u2 := by
      have := (List.getElem?_eq_some_iff.mp w2).2
      simpa using this
    rw [x1, x2]
    rw [List.drop_eq_getElem_cons k1, List.drop_eq_getElem_cons k2] at hr
    simp only [eqDs] at hr
    cases hq : eqD ok ds[i] es[i] with
    | none => rw [hq] at hr; cases hr
    | some b' =>
      rw [hq] at hr
      refine wpAny_mono (hit i _ _ b' d1 d2 hq A.in1 pins s' σ G1 H1 v1 v2 u1 u2 sb.in1 I1 eg1 t1 t2 (DR.up n1.g _ _ q1) (DR.up n1.g _ _ q2)) (fun r s2 q => ?_) fun _ _ x => x
      obtain ⟨er, G2, H2, I2, eg2, n2⟩ := q
      have lp2 : Lp X pins σ G H s2 := ⟨G2, H2, I2, eg2, n1.trans n2⟩
      cases b' with
      | true => exact .inl ⟨er, lp2, hr⟩
      | false =>
        cases hr
        exact .inr ⟨er, by simp, lp2⟩
  · refine ⟨?_, lp⟩
    have : (its.toArray.size == its2.toArray.size) = b := by
      rw [l1, l2] at hr ⊢
      rcases Nat.lt_trichotomy ds.length es.length with c | c | c
      · have m : min ds.length es.length = ds.length := by omega
        rw [m, List.drop_length, List.drop_eq_getElem_cons c] at hr
        have : some false = some b := by simpa [eqDs] using hr
        cases this
        simp; omega
      · have m : min ds.length es.length = ds.length := by omega
        rw [m, List.drop_length, c, List.drop_length] at hr
        have : some true = some b := by simpa [eqDs] using hr
        cases this
        simp [c]
      · have m : min ds.length es.length = es.length := by omega
        rw [m, List.drop_length, List.drop_eq_getElem_cons c] at hr
        have : some false = some b := by simpa [eqDs] using hr
        cases this
        simp; omega
    rw [this]
theorem rc_own {c : Nat} (own : OwnQ X CX C n k c) (hx : Passes CX X fun _ _ _ => False) (hn1 : ds.length = n) (hn2 : es.length = n) (hn3 : D.deeps ds ≤ 4) (h : eqDs noOk ds es = some b) {A : Around} {pins : List (Addr × Obj)} {s : Shared} {σ : L2.St} {G H : Hp} {a1 a2 : Addr}
    (sb : Sub X k A) (I : Inv X pins σ H s) (eg : Ex G H) (r1 : DR X.K C G (.ref a1) (.obj c ds)) (r2 : DR X.K C G (.ref a2) (.obj c es)) :
    wpAny (model X.prog X.w) A (richCompare .Eq (.ref a1) (.ref a2)) (fun r s' => r = .bool b ∧ Lp X pins σ G H s') X.xe s := by
  obtain ⟨f, fd, ps, cw, F, hk, hb, hc⟩ := own.ex
  have p1 : ∃ dx fs, H a1 = some (.ins (C.at_ c) dx fs) := by
    cases r1 with
    | obj h n r => exact ⟨_, _, eg _ _ h⟩
  have p2 : ∃ dx fs, H a2 = some (.ins (C.at_ c) dx fs) := by
    cases r2 with
    | obj h n r => exact ⟨_, _, eg _ _ h⟩
  obtain ⟨dx, fs, ha⟩ := p1
  obtain ⟨dy, gs, hb'⟩ := p2
  obtain ⟨mA, J, _⟩ := ins_get I.hok ha
  obtain ⟨mB, J', _⟩ := ins_get I.hok hb'
  obtain ⟨od, J, _⟩ := J.look
  obtain ⟨od', J', _⟩ := J'.look
  obtain ⟨m, hF⟩ := I.fr
  have sp : spW X.K C cw [V.ref a1, V.ref a2] H (fun v H' => v = .bl b ∧ ∃ G', Ex G' H' ∧ Nx [] G H G' H' []) fun _ _ _ => False :=
    ⟨G, [], [], [.dat (.obj c ds), .dat (.obj c es)], [], fun t _ => t = .dat (.bool b), fun _ _ => False, ⟨eg, .nil, List.nodup_nil, fun _ z => nomatch z⟩, .cons r1 (.cons r2 .nil), hc ds es b hn1 hn2 hn3 h _ _ rfl, fun t rt' fps' fp G' H' v r' n' o' new hk => by
      subst hk
      cases o'.tr with
      | dat h =>
        cases h
        exact ⟨rfl, G', r'.sub, n'.less fun _ z => nomatch z⟩, fun _ _ _ _ _ _ _ _ _ _ z => z.elim⟩
  have r3 : Vals [V.ref a1, V.ref a2] [Value.ref a1, Value.ref a2] := .cons rfl (.cons rfl .nil)
  refine PySem.W.cmp_K (op := .Eq) (tb := .ref (C.at_ c)) sb.room.units0 hF I.ok.mod.kin J J'.type (by simp [PySem.W.notFirst]) hk.eq hk.fn (wpAny_mono (run_at sb F hb hx I r3 sp) (fun w s' hw => ?_) fun _ _ z => z)
  obtain ⟨z, H', I', rz, ez, G', eg', n'⟩ := hw
  subst ez
  cases rz
  exact ⟨rfl, G', H', I', eg', n'⟩
theorem sc_flat {x y : D} (h : D.sc x y = some b) : flatD x = true ∧ flatD y = true := by
  unfold D.sc at h
  split at h <;> first | exact ⟨rfl, rfl⟩ | cases h
theorem deep_mem : ∀ {ds : List D} {i : Nat} {d : D}, ds[i]? = some d → d.deep ≤ D.deeps ds
  | [], _, _, h => by simp at h
  | d :: ds, 0, _, h => by
    cases Option.some.inj h
    exact Nat.le_max_left _ _
  | d :: ds, i + 1, _, h => Nat.le_trans (deep_mem (i := i) (show ds[i]? = some _ from h)) (Nat.le_max_right _ _)
theorem eqP_all (own : ∀ c n, ok c = some n → OwnQ X CX C n k c) (hx : Passes CX X fun _ _ _ => False) : ∀ (m : Nat) (d e : D) (b : Bool), d.deep ≤ m → eqD ok d e = some b → EqP X C (m + k) d e b := by
  have scal : ∀ {m : Nat} {d e : D} {b : Bool}, D.sc d e = some b → EqP X C (m + k) d e b := fun h A pins s σ G H x y u v sb I eg rx ry r1 r2 => by
    obtain ⟨f1, f2⟩ := sc_flat h
    have q := eqAt_V (A := A) (s := s) rx ry (flatD_ok f1 r1) (flatD_ok f2 r2)
    rw [sc_eqV h r1 r2] at q
    exact q X.prog X.w X.xe _ ⟨rfl, .refl I eg⟩
  have tups : ∀ {m : Nat} {d e : D} {b : Bool} {ds es : List D}, (∀ (i : Nat) (d e : D) (b' : Bool), ds[i]? = some d → es[i]? = some e → eqD ok d e = some b' → EqP X C (m + k) d e b') → eqDs ok ds es = some b → eqD ok d e = some b →
      (∀ G v, DR X.K C G v d → ∃ a xs, v = .ref a ∧ SqT X.K G a xs ∧ DRs X.K C G xs ds) → (∀ G v, DR X.K C G v e → ∃ a xs, v = .ref a ∧ SqT X.K G a xs ∧ DRs X.K C G xs es) → EqP X C (m + 1 + k) d e b := fun {m d e b ds es} hit h hd k1 k2 A pins s σ G H x y u v sb I eg rx ry r1 r2 => by
    obtain ⟨a1, xs, rfl, s1, t1⟩ := k1 _ _ r1
    obtain ⟨a2, ys, rfl, s2, t2⟩ := k2 _ _ r2
    cases rx
    cases ry
    by_cases hab : a1 = a2
    · subst hab
      have := same_true I eg _ ok _ _ _ hd r1 r2
      subst this
      exact SeqAt.EqAt.same (A := A) (s := s) (.ref a1) X.prog X.w X.xe _ ⟨rfl, .refl I eg⟩
    · have sb2 : Sub X (m + k + 1) A := by
        have e : m + 1 + k = m + k + 1 := by omega
        rw [← e]; exact sb
      refine GQ.eqBool_refG hab (wpAny_mono (rc_items hit h sb2 I eg s1 s2 t1 t2 false) (fun r s' q => ?_) fun _ _ x => x)
      obtain ⟨er, lp⟩ := q
      exact ⟨b, by simpa using er, rfl, lp⟩
  have ex1 : ∀ (ds : List D) G v, DR X.K C G v (.tup ds) → ∃ a xs, v = .ref a ∧ SqT X.K G a xs ∧ DRs X.K C G xs ds := fun ds G v h => by
    cases h with
    | tup h r => exact ⟨_, _, rfl, h, r⟩
  have ex2 : ∀ (ds : List D) G v, DR X.K C G v (.tpx ds) → ∃ a xs, v = .ref a ∧ SqT X.K G a xs ∧ DRs X.K C G xs ds := fun ds G v h => by
    cases h with
    | tpx h _ r => exact ⟨_, _, rfl, .inl (.inr ⟨_, h⟩), r⟩
  have objs : ∀ {m c : Nat} {ds es : List D} {b : Bool}, ok c = some ds.length → es.length = ds.length → D.deeps ds ≤ 4 → eqDs noOk ds es = some b → eqD ok (.obj c ds) (.obj c es) = some b → EqP X C (m + k) (.obj c ds) (.obj c es) b := fun {m c ds es b} hc hl h4 h hd A pins s σ G H x y u v sb I eg rx ry r1 r2 => by
    obtain ⟨a1, e1⟩ : ∃ a, x = .ref a := by cases r1 with | obj h n r => exact ⟨_, rfl⟩
    obtain ⟨a2, e2⟩ : ∃ a, y = .ref a := by cases r2 with | obj h n r => exact ⟨_, rfl⟩
    subst e1 e2
    cases rx
    cases ry
    by_cases hab : a1 = a2
    · subst hab
      have := same_true I eg _ ok _ _ _ hd r1 r2
      subst this
      exact SeqAt.EqAt.same (A := A) (s := s) (.ref a1) X.prog X.w X.xe _ ⟨rfl, .refl I eg⟩
    · refine GQ.eqBool_refG hab (wpAny_mono (rc_own (own c _ hc) hx rfl hl h4 h (sb.mono (by omega)) I eg r1 r2) (fun r s' q => ?_) fun _ _ x => x)
      obtain ⟨er, lp⟩ := q
      exact ⟨b, er, rfl, lp⟩
  intro m
  induction m with
  | zero =>
    intro d e b hm h
    cases d with
    | tup ds => exact absurd hm (by simp [D.deep])
    | tpx ds => exact absurd hm (by simp [D.deep])
    | obj c ds =>
      cases e with
      | obj c' es =>
        have h' : (if c = c' ∧ ok c = some ds.length ∧ es.length = ds.length ∧ D.deeps ds ≤ 4 then eqDs noOk ds es else none) = some b := by simpa [eqD] using h
        split at h'
        · rename_i z
          obtain ⟨z1, z2, z3, z4⟩ := z
          subst z1
          exact objs z2 z3 z4 h' h
        · cases h'
      | _ => simp [eqD, D.sc] at h
    | _ => exact scal (by simpa [eqD] using h)
  | succ m ih =>
    intro d e b hm h
    have hit : ∀ ds es : List D, D.deeps ds ≤ m → ∀ (i : Nat) (d e : D) (b' : Bool), ds[i]? = some d → es[i]? = some e → eqD ok d e = some b' → EqP X C (m + k) d e b' := fun ds es hd i d e b' h1 h2 h3 => ih d e b' (Nat.le_trans (deep_mem h1) hd) h3
    cases d with
    | tup ds =>
      have hd : D.deeps ds ≤ m := by simpa [D.deep] using hm
      cases e with
      | tup es => exact tups (hit ds es hd) (by simpa [eqD] using h) h (ex1 ds) (ex1 es)
      | tpx es => exact tups (hit ds es hd) (by simpa [eqD] using h) h (ex1 ds) (ex2 es)
      | _ => simp [eqD, D.sc] at h
    | tpx ds =>
      have hd : D.deeps ds ≤ m := by simpa [D.deep] using hm
      cases e with
      | tup es => exact tups (hit ds es hd) (by simpa [eqD] using h) h (ex2 ds) (ex1 es)
      | tpx es => exact tups (hit ds es hd) (by simpa [eqD] using h) h (ex2 ds) (ex2 es)
      | _ => simp [eqD, D.sc] at h
    | obj c ds =>
      cases e with
      | obj c' es =>
        have h' : (if c = c' ∧ ok c = some ds.length ∧ es.length = ds.length ∧ D.deeps ds ≤ 4 then eqDs noOk ds es else none) = some b := by simpa [eqD] using h
        split at h'
        · rename_i z
          obtain ⟨z1, z2, z3, z4⟩ := z
          subst z1
          exact objs z2 z3 z4 h' h
        · cases h'
      | _ => simp [eqD, D.sc] at h
    | _ => exact scal (by simpa [eqD] using h)
def rEqO (K : PySem.W.Frag) (C : Cs) (ok : Nat → Option Nat) (m : Nat) (neg : Bool) : R2 := fun x y H Q => ∃ G ds es b a1 a2 xs ys, x = .ref a1 ∧ y = .ref a2 ∧ Ex G H ∧ SqT K G a1 xs ∧ SqT K G a2 ys ∧ DRs K C G xs ds ∧ DRs K C G ys es ∧ D.deeps ds ≤ m ∧ eqDs ok ds es = some b ∧
  ∀ G' H', Ex G' H' → Nx [] G H G' H' [] → Q (.bl (neg != b)) H'
theorem op_eqO {m : Nat} (neg : Bool) (own : ∀ c n, ok c = some n → OwnQ X CX C n k c) (hx : Passes CX X fun _ _ _ => False) (hr : Room (m + k + 1) X.A) : OpR X (compareOp (if neg then .NotEq else .Eq)) (rEqO X.K C ok m neg) := by
  intro pins s σ H x y v u Q I rx ry ⟨G, ds, es, b, a1, a2, xs, ys, e1, e2, eg, s1, s2, t1, t2, hd, h, q⟩
  subst e1 e2
  cases rx
  cases ry
  have go := rc_items (A := X.A) (fun i d e b' h1 h2 h3 => eqP_all own hx m d e b' (Nat.le_trans (deep_mem h1) hd) h3) h ⟨hr, rfl⟩ I eg s1 s2 t1 t2 neg
  have fin : wpAny (model X.prog X.w) X.A (richCompare (if neg then .NotEq else .Eq) (.ref a1) (.ref a2)) (EP X pins σ Q) X.xe s := wpAny_mono go (fun r s' hq => by
    obtain ⟨er, G', H', I', eg', n'⟩ := hq
    subst er
    exact ⟨.bl (neg != b), H', I', rfl, q G' H' eg' n'⟩) fun _ _ z => z
  cases neg with
  | false => exact fin
  | true => exact fin
def tupD : Val → Option (List D)
  | .dat (.tup ds) => some ds
  | .dat (.tpx ds) => some ds
  | _ => none
theorem tupD_ok {K : PySem.W.Frag} {G H : Hp} {ρ : List Addr} {x : Val} {v : V} (h : tupD x = some ds) (r : VR K C G H ρ x v) : ∃ a xs, v = .ref a ∧ SqT K G a xs ∧ DRs K C G xs ds := by
  unfold tupD at h
  split at h
  · cases h
    cases r with
    | tup h r => exact ⟨_, _, rfl, h, r⟩
  · cases h
    cases r with
    | tpx h _ r => exact ⟨_, _, rfl, .inl (.inr ⟨_, h⟩), r⟩
  · cases h
/-- a == b, a != b of tuples with own instances in them -/
def wEqO (ok : Nat → Option Nat) (m : Nat) (neg : Bool) (wa wb : WE) : WE := fun sl rt k => wa sl rt fun x rt1 => wb sl rt1 fun y rt2 => match tupD x with
  | some ds => match tupD y with
    | some es => D.deeps ds ≤ m ∧ ∃ b, eqDs ok ds es = some b ∧ k (.dat (.bool (neg != b))) rt2
    | none => False
  | none => False
variable {K : PySem.W.Frag} {U : UX} {wa wb : WE} {e1 e2 : Expr} {pos : Pos}
theorem RSt.free {rt : Roots} {ρ : List Addr} {fps : List (List Addr)} {G H G' H' : Hp} (r : RSt K C rt ρ fps G H) (eg : Ex G' H') (n : Nx [] G H G' H' []) : ∃ fps', RSt K C rt ρ fps' G' H' ∧ Nx fps.flatten G H G' H' fps'.flatten := by
  obtain ⟨bs, fpsc, b1, b2, b3, b4⟩ := borrowed (xs := []) (vs := []) (ts := []) r .nil rfl rfl
  obtain ⟨l1, l2⟩ := b1.root.lens
  have e1 : bs = [] := List.length_eq_zero_iff.mp l1
  have e2 : fpsc = [] := List.length_eq_zero_iff.mp l2
  subst e1 e2
  obtain ⟨fps', z1, z2, _⟩ := b4 [] [] G' H' ⟨eg, .nil, List.nodup_nil, fun _ z => nomatch z⟩ n
  exact ⟨fps', z1, z2⟩
theorem e_eqO {m : Nat} {neg : Bool} : ∀ σ H Q, tE K C U (wEqO ok m neg wa wb) σ H Q → tOp (rEqO K C ok m neg) (tE K C U wa) (tE K C U wb) σ H Q := fun σ H Q ⟨sl, rt, ρ, fps, G, k, s, xf, w, q⟩ =>
  ⟨sl, rt, ρ, fps, G, _, s, xf, w, fun x rt1 fps1 G1 H1 v r1 n1 v1 w1 => ⟨sl, rt1, ρ, fps1, G1, _, s.step r1 n1 fun _ _ e => e, xf.later n1 (Pre.refl _), w1, fun y rt2 fps2 G2 H2 u r2 n2 v2 w2 => by
    have v1 := v1.up n2 fun _ _ e => e
    split at w2
    · rename_i ds h1
      split at w2
      · rename_i es h2
        obtain ⟨hd, b, hb, w2⟩ := w2
        obtain ⟨a1, xs, rfl, s1, t1⟩ := tupD_ok h1 v1
        obtain ⟨a2, ys, rfl, s2, t2⟩ := tupD_ok h2 v2
        refine ⟨G2, ds, es, b, a1, a2, xs, ys, rfl, rfl, r2.sub, s1, s2, t1, t2, hd, hb, fun G' H' eg n => ?_⟩
        obtain ⟨fps', r3, n3⟩ := r2.free eg n
        exact q (.dat (.bool (neg != b))) rt2 fps' G' H' _ r3 ((n1.trans n2).trans n3) (DR.bool _) w2
      · exact w2.elim
    · exact w2.elim⟩⟩
theorem we_eqO {m : Nat} {neg : Bool} {op : CmpOp} (ho : OpR X (compareOp op) (rEqO K C ok m neg)) (ha : PE X e1 (tE K C U wa)) (hb : PE X e2 (tE K C U wb)) (hm : behindInMarks op e2 = false) : PE X (.Compare e1 [op] [e2] pos) (tE K C U (wEqO ok m neg wa wb)) := pe_imp (pe_cmpR ho ha hb hm) e_eqO
theorem wt_eqO {m : Nat} {neg : Bool} {op : CmpOp} (ho : OpR X (compareOp op) (rEqO K C ok m neg)) (ha : PE X e1 (tE K C U wa)) (hb : PE X e2 (tE K C U wb)) (hm : behindInMarks op e2 = false) : PT X (.Compare e1 [op] [e2] pos) (tT K C U (wB (wEqO ok m neg wa wb))) :=
  pt_imp (pt_cmpR ho ha hb hm) fun σ H Q h => e_eqO σ H _ (t_test σ H Q h)
end
end Wv
end

section
set_option Elab.async false
set_option linter.all false
set_option maxRecDepth 100000
set_option maxHeartbeats 4000000
namespace Wv
open PySem PySem.Spec PyProof.Rows L2 Evl
section
variable {K : PySem.W.Frag} {C : Cs} {U : UX} {X : Cx} {CX : CXT} {k n : Nat} {ds es : List D} {b : Bool} {G H : Hp} {f : Addr} {fd : FuncData} {ps : List Str} {cw : CW}
/-! ### in a list of data of any depth -/
def rInL (K : PySem.W.Frag) : R2 := fun x y H Q => ∃ d ds, Dp K H x d ∧ Dp K H y (.list ds) ∧ SeqAt.shaped d = true ∧ d.depth ≤ 32 ∧ SeqAt.shaped (.list ds) = true ∧ Q (.bl (ds.any fun z => PyData.eqv z d)) H
theorem op_inL (hu : X.A.units + 64 < cLine) : OpR X (compareOp .In) (rInL X.K) := by
  intro pins s σ H x y v u Q I rx ry h
  obtain ⟨d, ds, hd, he, sd, dep, se, q⟩ := h
  obtain ⟨as, r1⟩ := Dp.reads I d x v hd rx
  obtain ⟨bs, r2⟩ := Dp.reads I (.list ds) y u he ry
  exact SeqAt.in_list_reads r2 r1 (SeqAt.canLay_of_shaped se) (SeqAt.canLay_of_shaped sd) (by omega) ⟨.bl _, H, I, rfl, q⟩
def sInL : Sem2 := fun x y rt k => match x with
  | .dat d => match listOf y rt with
    | some ds => ∃ px ps, d.py = some px ∧ D.pys ds = some ps ∧ SeqAt.shaped px = true ∧ px.depth ≤ 32 ∧ SeqAt.shaped (.list ps) = true ∧ k (.bool (ps.any fun z => PyData.eqv z px))
    | none => False
  | _ => False
theorem s_inL : S2 K C sInL (rInL K) := fun rt ρ fps G H x y v u s a b k Q w q => by
  unfold sInL at w
  split at w
  · split at w
    · rename_i ds e
      obtain ⟨px, ps, h1, h2, h3, h5, h4, w⟩ := w
      obtain ⟨p, xs, rfl, z1, z2⟩ := s.listOf e b
      exact ⟨px, ps, DR.py s.sub _ _ _ a h1, .lst z1 (DRs.py s.sub _ _ _ z2 h2), h3, h5, h4, q _ _ w (.bool _)⟩
    · exact w.elim
  · exact w.elim
/-- one class whose own == compares n fields -/
def ok1 (c0 n0 : Nat) : Nat → Option Nat := fun c => if c = c0 then some n0 else none
theorem own1 {c0 n0 : Nat} (F : FnOk X.prog X.w X.K X.mg X.base CX k f fd ps (spW X.K C cw)) (hk : EqK X.K (C.at_ c0) f) (hb : Binds X.K fd ps [])
    (hs : ∀ ds es b, ds.length = n0 → es.length = n0 → D.deeps ds ≤ 4 → eqDs noOk ds es = some b → ∀ (kk : T → Roots → Prop) kx, kk (.dat (.bool b)) [] → cw [.dat (.obj c0 ds), .dat (.obj c0 es)] [] kk kx) : ∀ c n, ok1 c0 n0 c = some n → OwnQ X CX C n k c := fun c n h => by
  unfold ok1 at h
  split at h
  · rename_i e
    cases h
    subst e
    exact ⟨f, fd, ps, cw, F, hk, hb, hs⟩
  · cases h
theorem own0 : ∀ c n, noOk c = some n → OwnQ X CX C n 0 c := fun _ _ h => nomatch h
/-! ### and, or whose second part may change what is owned -/
variable {ta tb : WT} {wa wb : WE} {ea eb : Expr} {rest : List Expr} {pos : Pos}
def wAndD (ta tb : WT) : WT := fun sl rt k => ta sl rt fun a rt1 => (a = true → tb sl rt1 k) ∧ (a = false → k false rt1)
def wOrD (ta tb : WT) : WT := fun sl rt k => ta sl rt fun a rt1 => (a = false → tb sl rt1 k) ∧ (a = true → k true rt1)
theorem t_andD : ∀ σ H Q, tT K C U (wAndD ta tb) σ H Q → tAnd (tT K C U ta) (tT K C U tb) σ H Q := fun σ H Q ⟨sl, rt, ρ, fps, G, k, s, xf, w, q⟩ =>
  ⟨sl, rt, ρ, fps, G, _, s, xf, w, fun a rt1 fps1 G1 H1 r1 n1 w1 => by
    cases a with
    | true => exact ⟨sl, rt1, ρ, fps1, G1, k, s.step r1 n1 fun _ _ e => e, xf.later n1 (Pre.refl _), w1.1 rfl, fun b' rt2 fps2 G2 H2 r2 n2 hk => q b' rt2 fps2 G2 H2 r2 (n1.trans n2) hk⟩
    | false => exact q false rt1 fps1 G1 H1 r1 n1 (w1.2 rfl)⟩
theorem t_orD : ∀ σ H Q, tT K C U (wOrD ta tb) σ H Q → tOr (tT K C U ta) (tT K C U tb) σ H Q := fun σ H Q ⟨sl, rt, ρ, fps, G, k, s, xf, w, q⟩ =>
  ⟨sl, rt, ρ, fps, G, _, s, xf, w, fun a rt1 fps1 G1 H1 r1 n1 w1 => by
    cases a with
    | false => exact ⟨sl, rt1, ρ, fps1, G1, k, s.step r1 n1 fun _ _ e => e, xf.later n1 (Pre.refl _), w1.1 rfl, fun b' rt2 fps2 G2 H2 r2 n2 hk => q b' rt2 fps2 G2 H2 r2 (n1.trans n2) hk⟩
    | true => exact q true rt1 fps1 G1 H1 r1 n1 (w1.2 rfl)⟩
theorem ww_andD (ha : PT X ea (tT K C U ta)) (hb : PW X (.BoolOp .And (eb :: rest) pos) (tT K C U tb)) : PW X (.BoolOp .And (ea :: eb :: rest) pos) (tT K C U (wAndD ta tb)) := pw_imp (pw_and ha hb) t_andD
theorem ww_orD (ha : PT X ea (tT K C U ta)) (hb : PW X (.BoolOp .Or (eb :: rest) pos) (tT K C U tb)) : PW X (.BoolOp .Or (ea :: eb :: rest) pos) (tT K C U (wOrD ta tb)) := pw_imp (pw_or ha hb) t_orD
def wAndE (wa wb : WE) : WE := fun sl rt k => wa sl rt fun x rt1 => match x with
  | .dat (.bool a) => (a = true → wb sl rt1 k) ∧ (a = false → k (.dat (.bool false)) rt1)
  | _ => False
def wOrE (wa wb : WE) : WE := fun sl rt k => wa sl rt fun x rt1 => match x with
  | .dat (.bool a) => (a = false → wb sl rt1 k) ∧ (a = true → k (.dat (.bool true)) rt1)
  | _ => False
theorem e_andE : ∀ σ H Q, tE K C U (wAndE wa wb) σ H Q → tAndV (tE K C U wa) (tE K C U wb) σ H Q := fun σ H Q ⟨sl, rt, ρ, fps, G, k, s, xf, w, q⟩ =>
  ⟨sl, rt, ρ, fps, G, _, s, xf, w, fun x rt1 fps1 G1 H1 v r1 n1 v1 w1 => by
    split at w1
    · rename_i a
      cases v1
      refine ⟨a, rfl, ?_⟩
      cases a with
      | true => exact ⟨sl, rt1, ρ, fps1, G1, k, s.step r1 n1 fun _ _ e => e, xf.later n1 (Pre.refl _), w1.1 rfl, fun y rt2 fps2 G2 H2 u r2 n2 v2 hk => q y rt2 fps2 G2 H2 u r2 (n1.trans n2) v2 hk⟩
      | false => exact q (.dat (.bool false)) rt1 fps1 G1 H1 _ r1 n1 (DR.bool _) (w1.2 rfl)
    · exact w1.elim⟩
theorem e_orE : ∀ σ H Q, tE K C U (wOrE wa wb) σ H Q → tOrV (tE K C U wa) (tE K C U wb) σ H Q := fun σ H Q ⟨sl, rt, ρ, fps, G, k, s, xf, w, q⟩ =>
  ⟨sl, rt, ρ, fps, G, _, s, xf, w, fun x rt1 fps1 G1 H1 v r1 n1 v1 w1 => by
    split at w1
    · rename_i a
      cases v1
      refine ⟨a, rfl, ?_⟩
      cases a with
      | false => exact ⟨sl, rt1, ρ, fps1, G1, k, s.step r1 n1 fun _ _ e => e, xf.later n1 (Pre.refl _), w1.1 rfl, fun y rt2 fps2 G2 H2 u r2 n2 v2 hk => q y rt2 fps2 G2 H2 u r2 (n1.trans n2) v2 hk⟩
      | true => exact q (.dat (.bool true)) rt1 fps1 G1 H1 _ r1 n1 (DR.bool _) (w1.2 rfl)
    · exact w1.elim⟩
theorem we_andE (ha : PE X ea (tE K C U wa)) (hb : PE X (.BoolOp .And (eb :: rest) pos) (tE K C U wb)) : PE X (.BoolOp .And (ea :: eb :: rest) pos) (tE K C U (wAndE wa wb)) := pe_imp (pe_and ha hb) e_andE
theorem we_orE (ha : PE X ea (tE K C U wa)) (hb : PE X (.BoolOp .Or (eb :: rest) pos) (tE K C U wb)) : PE X (.BoolOp .Or (ea :: eb :: rest) pos) (tE K C U (wOrE wa wb)) := pe_imp (pe_or ha hb) e_orE
end
end Wv
end

section
set_option Elab.async false
set_option linter.all false
set_option maxRecDepth 100000
set_option maxHeartbeats 4000000
namespace Wv
open PySem PySem.Spec PyProof.Rows L2 Evl
section
variable {K : PySem.W.Frag} {C : Cs} {U : UX} {G H G' H' G1 H1 G2 H2 : Hp} {sl sl' : Slots} {rt rt' : Roots} {σ : L2.St} {ρ ρ' ρ1 : List Addr} {fps fps' fps1 : List (List Addr)}
variable {X : Cx} {CX : CXT} {a b c e o : Expr} {es rest : List Expr} {wa wb wc : WE} {pos p apos cpos : Pos} {Z : WEnds} {E : L2.St → XK} {st : Stmt} {k : Nat} {f Ca : Addr} {fd : FuncData} {ps : List Str} {sp : Sp} {x m name : Str} {ta to : TE} {t : TA} {ds : List Value}
/-! ### what never comes to pass -/
def wNever : WS := fun _ _ _ => False
theorem ws_never : PS X st (tS K C U wNever) := ⟨fun _ _ _ _ _ _ h => by
  obtain ⟨_, _, _, _, _, _, _, z, _⟩ := h
  exact z.elim⟩
def cNever : CW := fun _ _ _ _ => False
theorem ok_never {P : Program} {w : World} {mg : Str → Option Value} {base : Heap} {CX : CXT} : FnOk P w K mg base CX k f fd ps (spW K C cNever) :=
  ⟨fun vs H Q E h => by obtain ⟨_, _, _, _, _, _, _, _, _, z, _⟩ := h; exact z.elim, fun A outer s H args us vs Q E hr he hb hv h => by obtain ⟨_, _, _, _, _, _, _, _, _, z, _⟩ := h; exact z.elim⟩
/-! ### try whose body raises nothing -/
def wTry0 (u : WS) : WS := fun Z sl rt => u { Z with ex := fun _ _ _ => False } sl rt
theorem s_try0 {u : WS} : ∀ D σ H, tS K C U (wTry0 u) D σ H → tS K C (fun _ _ _ _ => False) u D σ H := fun D σ H ⟨Z, sl, rt, ρ, fps, G, s, w, f⟩ =>
  ⟨{ Z with ex := fun _ _ _ => False }, sl, rt, ρ, fps, G, s, w, { f with xf := Xf.no }⟩
theorem ws_try0 {u : WS} {body : List Stmt} {h₀ : ExceptHandler} {hs : List ExceptHandler} (hb : PSs X.nox body (tS K C (fun _ _ _ _ => False) u)) : PS X (.Try body (h₀ :: hs) [] [] pos) (tS K C U (wTry0 u)) := ps_imp (ps_try_thru0 hb) s_try0
/-! ### a place as data, and back -/
def wBk (w : WE) : WO := fun sl rt k => w sl rt fun x rt1 => match x with
  | .ref r p => match tatN rt1 r p with
    | some (.nm a _) => k (.dat (.cst (.ref a))) rt1
    | _ => False
  | _ => False
theorem o_bk {w : WE} : ∀ σ H Q, tO K C U (wBk w) σ H Q → tE K C U w σ H Q := fun σ H Q ⟨sl, rt, ρ, fps, G, k, s, xf, w, q⟩ =>
  ⟨sl, rt, ρ, fps, G, _, s, xf, w, fun x rt1 fps1 G1 H1 v r1 n1 v1 w1 => by
    split at w1
    · rename_i r p
      split at w1
      · rename_i a t ht
        obtain ⟨b, h1, h2, h3⟩ := v1
        obtain ⟨w0, L, fu, R, k1, k2, _, _⟩ := r1.atN ht h1
        rw [h2] at k1
        cases k1
        have e : v = .ref a := by cases k2; rfl
        exact q (.dat (.cst (.ref a))) rt1 fps1 [] G1 H1 v r1 n1 (Own.dat (by rw [e]; exact .cst _)) (fun _ z => nomatch z) w1
      · exact w1.elim
    · exact w1.elim⟩
theorem wo_bk {w : WE} (h : PE X e (tE K C U w)) : PE X e (tO K C U (wBk w)) := pe_imp h o_bk
def wRes (w : WE) : WE := fun sl rt k => w sl rt fun x rt1 => match x with
  | .dat (.cst (.ref a)) => ∃ r t, rt1[r]? = some (.nm a t) ∧ t.isD = false ∧ k (.ref r []) rt1
  | _ => False
theorem e_res {w : WE} : ∀ σ H Q, tE K C U (wRes w) σ H Q → tE K C U w σ H Q := fun σ H Q ⟨sl, rt, ρ, fps, G, k, s, xf, w, q⟩ =>
  ⟨sl, rt, ρ, fps, G, _, s, xf, w, fun x rt1 fps1 G1 H1 v r1 n1 v1 w1 => by
    split at w1
    · rename_i a
      obtain ⟨r, t, h1, h2, w1⟩ := w1
      have e : v = .ref a := by cases v1; rfl
      obtain ⟨b, L, fu, R, z1, z2, _, _⟩ := r1.root.split h1
      cases z2 with
      | nm z2 => exact q (.ref r []) rt1 fps1 G1 H1 v r1 n1 ⟨a, z1, by rw [e]; rfl, by rw [e]; exact z2.nodeB h2⟩ w1
    · exact w1.elim⟩
theorem we_res {w : WE} (h : PE X e (tE K C U w)) : PE X e (tE K C U (wRes w)) := pe_imp h e_res
/-! ### a method that gets all roots -/
def wMethA (c : Nat) (cw : CW) (wo : WE) (w : WA) : WO := fun sl rt k => wo sl rt fun x rt1 => isObj c x rt1 ∧ w sl rt1 fun xs rt2 => cw (x :: xs) rt2 k fun y ts' => sl.ex y sl.sl ts'
theorem o_methA {c : Nat} {cw : CW} {wo : WE} {w : WA} {m : Str} (hm : m ∉ C.ly c) : ∀ σ H Q, tO K C U (wMethA c cw wo w) σ H Q → tMethX (C.at_ c) m (spW K C cw) (fun σ cls d H => U cls d σ H) (tE K C U wo) (tA K C U w) σ H Q := fun σ H Q ⟨sl, rt, ρ, fps, G, k, s, xf, w, q⟩ =>
  ⟨sl, rt, ρ, fps, G, _, s, xf, w, fun x rt1 fps1 G1 H1 v r1 n1 v1 ⟨hx, w1⟩ => by
    obtain ⟨a, dx, fs, rfl, h, n⟩ := r1.isObj v1 hx
    refine ⟨a, dx, fs, rfl, h, look_no fun z => hm (List.mem_of_mem_take (by rw [← n]; exact z)), sl, rt1, ρ, fps1, G1, _, s.step r1 n1 fun _ _ e => e, xf.later n1 (Pre.refl _), w1, fun xs rt2 fps2 G2 H2 vs r2 n2 v2 w2 => ?_⟩
    have n3 := n1.trans n2
    exact ⟨G2, ρ, fps2, x :: xs, rt2, k, _, r2, .cons (v1.up n2 fun _ _ e => e) v2, w2, fun t rt' fps' fp G' H' v r' n' o' new hk => q t rt' fps' fp G' H' v r' (n3.trans n') o' (fun a ha => (new a ha).elim (fun y => n3.new a y) fun y => .inr (n3.dom a y)) hk,
      fun y rt' fps' G' H' cls d r' n' xr hk => xf y _ rt' σ ρ fps' G' H' cls d (s.step r' (n3.trans n') fun _ _ e => e) (n3.trans n') (Pre.refl _) (xr.early n3.dom) hk⟩⟩
theorem wo_methA {c : Nat} {cw : CW} {wo : WE} {w : WA} {m : Str} (hm : m ∉ C.ly c) (h : PE X e (tMethX (C.at_ c) m (spW K C cw) (fun σ cls d H => U cls d σ H) (tE K C U wo) (tA K C U w))) : PE X e (tO K C U (wMethA c cw wo w)) := pe_imp h (o_methA hm)
end
end Wv
end

section
set_option Elab.async false
set_option linter.all false
set_option maxRecDepth 100000
set_option maxHeartbeats 4000000
namespace Wv
open PySem PySem.Spec PyProof.Rows L2 Evl
section
variable {K : PySem.W.Frag} {C : Cs} {U : UX} {G H G' H' G1 H1 G2 H2 : Hp} {sl sl' : Slots} {rt rt' : Roots} {σ : L2.St} {ρ ρ' ρ1 : List Addr} {fps fps' fps1 : List (List Addr)}
variable {X : Cx} {CX : CXT} {a b c e o : Expr} {es rest : List Expr} {wa wb wc : WE} {pos p apos cpos : Pos} {Z : WEnds} {E : L2.St → XK} {st : Stmt} {k : Nat} {f Ca : Addr} {fd : FuncData} {ps : List Str} {sp : Sp} {x m name : Str} {ta to : TE} {t : TA} {ds : List Value}
/-! ### a new list that never changes -/
def tFzl (t : TE) : TE := fun σ H Q => t σ H fun v H1 => ∃ a xs, v = .ref a ∧ H1 a = some (.lst xs) ∧ ∀ od, Q v (upd H1 a (.frz od (.lst xs)))
theorem pe_fzl (h : PE X e ta) : PE X e (tFzl ta) := by
  refine ⟨fun pins s σ H Q I hw => ?_⟩
  refine thn (h.run pins s σ H _ I hw) fun v s1 ⟨x, H1, I1, r, q⟩ => ?_
  obtain ⟨a, xs, rfl, ha, q⟩ := q
  obtain ⟨od, I2⟩ := I1.lock ha trivial
  exact ⟨_, _, I2, r, q od⟩
def wRepF (wa wb : WE) : WE := fun sl rt k => wa sl rt fun x rt1 => wb sl rt1 fun y rt2 => match lstOf x rt2, y with
  | some ds, .dat (.int n) => (-100000 ≤ n ∧ n ≤ 100000) ∧ ds.length * n.toNat ≤ 100000 ∧ k (.dat (.fzl (List.replicate n.toNat ds).flatten)) rt2
  | _, _ => False
theorem e_repF : ∀ σ H Q, tE K C U (wRepF wa wb) σ H Q → tFzl (tOp rRep (tE K C U wa) (tE K C U wb)) σ H Q := fun σ H Q ⟨sl, rt, ρ, fps, G, k, s, xf, w, q⟩ =>
  ⟨sl, rt, ρ, fps, G, _, s, xf, w, fun x rt1 fps1 G1 H1 v r1 n1 v1 w1 => ⟨sl, rt1, ρ, fps1, G1, _, s.step r1 n1 fun _ _ e => e, xf.later n1 (Pre.refl _), w1, fun y rt2 fps2 G2 H2 u r2 n2 v2 w2 => by
    split at w2
    · rename_i ds n e1
      obtain ⟨a, xs, rfl, h1, d1⟩ := r2.lstOf e1 (v1.up n2 fun _ _ e => e)
      cases v2
      refine ⟨a, n, xs, rfl, rfl, h1, by omega, by omega, sz_of (by rw [d1.len]; exact w2.2.1), fun p hp => ?_⟩
      refine ⟨p, _, rfl, upd_same, fun od => ?_⟩
      rw [upd_upd]
      exact q (.dat (.fzl _)) rt2 fps2 _ _ _ (r2.laid hp) ((n1.trans n2).trans (Nx.laid r2.sub hp _)) (.fzl upd_same (DRs.up (Ex.new (fresh_back r2.sub hp)) _ _ (d1.rep n.toNat))) w2.2.2
    · exact w2.elim⟩⟩
theorem we_repF (ha : PE X a (tE K C U wa)) (hb : PE X b (tE K C U wb)) : PE X (.BinOp a .Mult b pos) (tE K C U (wRepF wa wb)) := pe_imp (pe_fzl (pe_op op_rep ha hb)) e_repF
/-- t * n -/
def wRepT (wa wb : WE) : WE := fun sl rt k => wa sl rt fun x rt1 => wb sl rt1 fun y rt2 => match x, y with
  | .dat (.tup ds), .dat (.int n) => ds ≠ [] ∧ (2 ≤ n ∧ n ≤ 1000) ∧ ds.length ≤ 1000 ∧ k (.dat (.tup (List.replicate n.toNat ds).flatten)) rt2
  | _, _ => False
theorem e_repT : ∀ σ H Q, tE K C U (wRepT wa wb) σ H Q → tOp (rRepT K) (tE K C U wa) (tE K C U wb) σ H Q := fun σ H Q ⟨sl, rt, ρ, fps, G, k, s, xf, w, q⟩ =>
  ⟨sl, rt, ρ, fps, G, _, s, xf, w, fun x rt1 fps1 G1 H1 v r1 n1 v1 w1 => ⟨sl, rt1, ρ, fps1, G1, _, s.step r1 n1 fun _ _ e => e, xf.later n1 (Pre.refl _), w1, fun y rt2 fps2 G2 H2 u r2 n2 v2 w2 => by
    have v1 := v1.up n2 fun _ _ e => e
    split at w2
    · rename_i ds n _
      cases v2
      cases v1 with
      | @tup a xs _ h1 d1 =>
        obtain ⟨w0, w3, w4, w5⟩ := w2
        refine ⟨a, n, xs, rfl, rfl, ex_t r2.sub h1, fun z => w0 ?_, w3.1, w3.2, by rw [d1.len]; exact w4, fun p hp => ?_⟩
        · have := d1.len
          rw [z] at this
          exact List.eq_nil_of_length_eq_zero this.symm
        · exact q (.dat (.tup _)) rt2 fps2 _ _ _ (r2.laid hp) ((n1.trans n2).trans (Nx.laid r2.sub hp _)) (.tup (st_of upd_same) (DRs.up (Ex.new (fresh_back r2.sub hp)) _ _ (d1.rep n.toNat))) w5
    · exact w2.elim⟩⟩
theorem we_repT (ha : PE X a (tE X.K C U wa)) (hb : PE X b (tE X.K C U wb)) : PE X (.BinOp a .Mult b pos) (tE X.K C U (wRepT wa wb)) := pe_imp (pe_op op_repT ha hb) e_repT
/-! ### xs.pop(i) -/
def wPop (wo : WE) (w : WA) : WE := fun sl rt k => wo sl rt fun x rt1 => match x with
  | .ref r p => match tat rt1 r p with
    | some (.lst _) => w sl rt1 fun ys rt2 => match ys with
      | [.dat (.int n)] => match tat rt2 r p with
        | some (.lst ts) => (-100000 ≤ n ∧ n ≤ 100000) ∧ ts.all leafT = true ∧ ∃ j d, seqIndex? n ts.length = some j ∧ ts[j]? = some (.dat d) ∧ k (.dat d) (rt2.modify r (T.put (.lst (ts.eraseIdx j)) p))
        | _ => False
      | _ => False
    | _ => False
  | _ => False
theorem TRs.leaves : ∀ {ts : List T} {vs : List V} {fp : List Addr}, TRs K C G H vs ts fp → ts.all leafT = true → fp = [] ∧ ∀ (i : Nat) v, vs[i]? = some v → ∀ H', Ex G H' → ¬ NodeV H' v
  | _, _, _, .nil, _ => ⟨rfl, fun _ _ z => by simp at z⟩
  | _, _, _, .cons h r, l => by
    simp only [List.all_cons, Bool.and_eq_true] at l
    obtain ⟨h1, h2⟩ := TRs.leaves r l.2
    obtain ⟨_, k1, k2⟩ := leaf_ok l.1 h
    refine ⟨by rw [k1, h1]; rfl, fun i v hi => ?_⟩
    cases i with
    | zero => cases Option.some.inj hi; exact k2
    | succ i => exact h2 i v hi
theorem TRs.erase : ∀ {ts : List T} {vs : List V} (j : Nat), TRs K C G H vs ts [] → ts.all leafT = true → TRs K C G H (vs.eraseIdx j) (ts.eraseIdx j) [] := by
  intro ts vs j h l
  suffices ∀ {ts : List T} {vs : List V} {fp : List Addr} (j : Nat), TRs K C G H vs ts fp → ts.all leafT = true → TRs K C G H (vs.eraseIdx j) (ts.eraseIdx j) [] from this j h l
  intro ts
  induction ts with
  | nil =>
    intro vs fp j h _
    cases h
    exact .nil
  | cons t ts ih =>
    intro vs fp j h l
    simp only [List.all_cons, Bool.and_eq_true] at l
    cases h with
    | cons h r =>
      obtain ⟨_, k1, _⟩ := leaf_ok l.1 h
      obtain ⟨k2, _⟩ := TRs.leaves r l.2
      subst k1 k2
      cases j with
      | zero => exact r
      | succ j => exact TRs.cons (fp := []) (fq := []) h (ih j r l.2)
theorem e_pop {wo : WE} {w : WA} : ∀ σ H Q, tE K C U (wPop wo w) σ H Q → tBM K "list" rPopAt (tE K C U wo) (tA K C U w) σ H Q := fun σ H Q ⟨sl, rt, ρ, fps, G, k, s, xf, w, q⟩ =>
  ⟨sl, rt, ρ, fps, G, _, s, xf, w, fun x rt1 fps1 G1 H1 v r1 n1 v1 w1 => by
    split at w1
    · rename_i r p
      split at w1
      · rename_i ts0 ht0
        obtain ⟨a, fu, k1, k2, k3, _⟩ := r1.get ht0 v1
        cases k3 with
        | @lst b xs0 _ fq0 hb0 tr0 =>
          refine ⟨.inl ⟨rfl, xs0, sq_of hb0⟩, sl, rt1, ρ, fps1, G1, _, s.step r1 n1 fun _ _ e => e, xf.later n1 (Pre.refl _), w1, fun ys rt2 fps2 G2 H2 vs r2 n2 vv w2 => ?_⟩
          have v2 := v1.up n2 fun _ _ e => e
          split at w2
          · rename_i n
            split at w2
            · rename_i ts ht
              obtain ⟨hn, hl, j, d, hj, hd, w2⟩ := w2
              obtain ⟨a', fu, z1, z2, z3, _⟩ := r2.get ht v2
              cases z3 with
              | @lst _ xs _ fq hb tr =>
                obtain ⟨e0, lv⟩ := tr.leaves hl
                subst e0
                have idn : Idn H2 (upd H2 b (.lst (xs.eraseIdx j))) := idn_lst hb fun i q hq hn => absurd hn (lv i q hq _ r2.sub)
                obtain ⟨fps3, r3, mem, hbF⟩ := r2.write (t' := .lst (ts.eraseIdx j)) (fn := []) ht z1 z2 (by intro d q; cases q) idn (fun fu hfu => by
                  cases hfu with
                  | @lst _ xs' _ fq' hb' tr' =>
                    rw [hb] at hb'
                    cases hb'
                    obtain ⟨e1, _⟩ := tr'.leaves hl
                    subst e1
                    refine ⟨List.mem_cons_self, fun nd dis => ⟨[b], .lst upd_same ?_, by simp⟩⟩
                    exact (TRs.stay (Ex.refl _) _ _ _ tr' fun q hq => nomatch hq).erase j hl) List.nodup_nil (fun _ q => nomatch q) (fun _ q => nomatch q)
                cases vv with
                | cons va vr =>
                  cases vr
                  cases va
                  obtain ⟨y, fy, y1, y2, _⟩ := tr.get hd
                  refine ⟨b, xs, n, j, y, rfl, rfl, hb, by omega, by omega, by rw [TRs.len tr]; exact hj, y1, ?_⟩
                  have nW : Nx fps2.flatten G2 H2 G2 (upd H2 b (.lst (xs.eraseIdx j))) fps2.flatten := Nx.write (fps' := fps2) hbF (by rw [hb]; exact fun q => nomatch q) idn (fp := []) (fun _ q => nomatch q)
                  have n5 : Nx fps.flatten G H G2 (upd H2 b (.lst (xs.eraseIdx j))) fps3.flatten := ((n1.trans n2).trans nW).less fun l hl => by
                    rcases mem l hl with q | q
                    · exact q
                    · cases q
                  cases y2 with
                  | dat y2 => exact q (.dat d) _ fps3 G2 _ _ r3 n5 y2 w2
            · exact w2.elim
          · exact w2.elim
      · exact w1.elim
    · exact w1.elim⟩
theorem we_pop {wo : WE} {w : WA} (h : PE X e (tBM K "list" rPopAt (tE K C U wo) (tA K C U w))) : PE X e (tE K C U (wPop wo w)) := pe_imp h e_pop
end
end Wv
end

section
set_option Elab.async false
set_option linter.all false
set_option maxRecDepth 100000
set_option maxHeartbeats 4000000
namespace Wv
open PySem PySem.Spec PyProof.Rows L2 Evl
section
variable {K : PySem.W.Frag} {C : Cs} {U : UX} {G H G' H' G1 H1 G2 H2 : Hp} {sl sl' : Slots} {rt rt' : Roots} {σ : L2.St} {ρ ρ' ρ1 : List Addr} {fps fps' fps1 : List (List Addr)}
variable {X : Cx} {CX : CXT} {a b c e o : Expr} {es rest : List Expr} {wa wb wc : WE} {pos p apos cpos : Pos} {Z : WEnds} {E : L2.St → XK} {st : Stmt} {k : Nat} {f Ca : Addr} {fd : FuncData} {ps : List Str} {sp : Sp} {x m name : Str} {ta to : TE} {t : TA} {ds : List Value}
/-! ### a leaf becomes a tree -/
theorem TRs.setT : ∀ {ts : List T} {vs : List V} {fp fq : List Addr} {j : Nat} {u t : T} {v : V}, TRs K C G H vs ts fp → ts[j]? = some u → leafT u = true → TR K C G H v t fq → ∃ fp', TRs K C G H (vs.set j v) (ts.set j t) fp' ∧ fp'.Perm (fp ++ fq)
  | _, _, _, _, _, _, _, _, .nil, e, _, _ => by simp at e
  | _, _, _, fq, 0, _, _, _, .cons (fp := fp) (fq := fr) h r, e, l, d => by
    cases Option.some.inj e
    obtain ⟨_, hf, _⟩ := leaf_ok l h
    subst hf
    exact ⟨_, .cons d r, by simpa using List.perm_append_comm⟩
  | _, _, _, _, j + 1, _, _, _, .cons (fp := fp) h r, e, l, d => by
    obtain ⟨fp', t1, t2⟩ := TRs.setT (j := j) r e l d
    exact ⟨_, .cons h t1, by rw [List.append_assoc]; exact List.Perm.append_left fp t2⟩
def wSetFT (F : Nat → Option Nat) (w : WO) (wx : WE) : WS := fun Z sl rt => w ⟨sl, Z.ex⟩ rt fun t rt1 => wx ⟨sl, Z.ex⟩ rt1 fun x rt2 => match x with
  | .ref r p => match tat rt2 r p with
    | some (.obj c ts) => match F c with
      | some i => ts.length < 900 ∧ ∃ u, ts[i]? = some u ∧ leafT u = true ∧ Z.nx sl (rt2.modify r (T.put (.obj c (ts.set i t)) p))
      | none => False
    | _ => False
  | _ => False
theorem s_setFT {F : Nat → Option Nat} {f : Str} (hF : FOk K C F f) {w : WO} {wx : WE} : ∀ D σ H, tS K C U (wSetFT F w wx) D σ H → sFld K (tE K C U wx) (tO K C U w) f D σ H := fun D σ H ⟨Z, sl, rt, ρ, fps, G, s, w, fn⟩ =>
  ⟨⟨sl, Z.ex⟩, rt, ρ, fps, G, _, s, fn.xf, w, fun t rt1 fps1 fp G1 H1 y r1 n1 o1 new w1 => ⟨⟨sl, Z.ex⟩, rt1, ρ, fps1, G1, _, s.step r1 n1 fun _ _ e => e, fn.xf.later n1 (Pre.refl _), w1, fun x rt2 fps2 G2 H2 v r2 n2 v2 w2 => by
    split at w2
    · rename_i r p
      split at w2
      · rename_i c ts ht
        split at w2
        · rename_i i hi
          obtain ⟨f1, f2, f3, f4⟩ := hF _ _ hi
          obtain ⟨a, fu, z1, z2, z3, _⟩ := r2.get ht v2
          have o2 := o1.past n2
          cases z3 with
          | @obj b dx fs _ _ fq hb nm tr =>
            have hlen : fs.length = ts.length := by
              have := TRs.len tr
              simpa using this
            obtain ⟨w0, w2⟩ := w2
            refine ⟨b, _, dx, fs, rfl, hb, f1, f2, by omega, ?_⟩
            obtain ⟨u, hu, hlf, w2⟩ := w2
            have hi2 : i < fs.length := by rw [hlen]; exact (List.getElem?_eq_some_iff.mp hu).1
            have e0 : putF f y fs = fs.set i (f, y) := putF_old nm f4 f3 hi2
            rw [e0]
            obtain ⟨vo, fo, q1, q2, _⟩ := tr.get hu
            have ms : (fs.set i (f, y)).map Prod.snd = (fs.map Prod.snd).set i y := by rw [List.map_set]
            have mf : (fs.set i (f, y)).map Prod.fst = (C.ly c).take (fs.set i (f, y)).length := by
              rw [List.map_set, nm, List.length_set]
              refine List.ext_getElem? fun j => ?_
              rw [List.getElem?_set]
              split
              · rename_i e
                subst e
                split
                · rw [List.getElem?_take_of_lt hi2, f3]
                · rename_i h
                  exfalso
                  rw [List.length_take] at h
                  have := (List.getElem?_eq_some_iff.mp f3).1
                  omega
              · rfl
            have idn : Idn H2 (upd H2 b (.ins (C.at_ c) dx (fs.set i (f, y)))) := idn_ins hb fun j q hq nq => by
              rw [ms]
              by_cases z : i = j
              · subst z
                rw [q1] at hq
                cases hq
                exact absurd nq ((leaf_ok hlf q2).2.2 _ r2.sub)
              · rw [List.getElem?_set_ne z]
                exact hq
            obtain ⟨fps3, r3, mem, hbF⟩ := r2.write (t' := .obj c (ts.set i t)) (fn := fp) ht z1 z2 (by intro d q; cases q) idn (fun fu hfu => by
              cases hfu with
              | @obj _ dx' fs' _ _ fq' hb' nm' tr' =>
                rw [hb] at hb'
                cases hb'
                refine ⟨List.mem_cons_self, fun nd dis => ?_⟩
                have nb := (List.nodup_cons.mp nd).1
                obtain ⟨fp', t1, t2⟩ := TRs.setT (TRs.stay (Ex.refl _) _ _ _ tr' fun q hq => upd_ne fun z => nb (by rw [← z]; exact hq)) hu hlf (TR.stay (H' := upd H2 b (.ins (C.at_ c) dx (fs.set i (f, y)))) (Ex.refl _) _ _ _ o2.tr fun q hq => upd_ne fun z => dis q hq (by rw [z]; exact List.mem_cons_self))
                refine ⟨b :: fp', .obj upd_same mf ?_, List.Perm.cons b t2⟩
                rw [ms]
                exact t1) o2.nd o2.ap o2.fr
            have nW : Nx fps2.flatten G2 H2 G2 (upd H2 b (.ins (C.at_ c) dx (fs.set i (f, y)))) fps2.flatten := Nx.write (fps' := fps2) hbF (by rw [hb]; exact fun q => nomatch q) idn (fp := []) (fun _ q => nomatch q)
            have n3 := (n1.trans n2).trans nW
            have n4 : Nx fps.flatten G H G2 (upd H2 b (.ins (C.at_ c) dx (fs.set i (f, y)))) fps3.flatten := ⟨n3.g, n3.keep, n3.dom, fun l hl => by
              rcases mem l hl with q | q
              · exact n3.new l q
              · exact new l q, n3.idn⟩
            exact fn.nx sl _ σ ρ fps3 G2 _ (s.step r3 n4 fun _ _ e => e) n4 (Pre.refl _) w2
        · exact w2.elim
      · exact w2.elim
    · exact w2.elim⟩⟩
theorem ws_setFT {F : Nat → Option Nat} {f : Str} (hF : FOk X.K C F f) {w : WO} {wx : WE} {pos' : Pos} (ha : PE X o (tE X.K C U wx)) (hv : PE X e (tO X.K C U w)) (hs : swapsWith e (some (.Attribute o f pos')) pos.line X.env = pure false) : PS X (.Assign [.Attribute o f pos'] e pos) (tS X.K C U (wSetFT F w wx)) :=
  ps_imp (ps_fld ha hv hs) (s_setFT hF)
end
end Wv
end

section
set_option Elab.async false
set_option linter.all false
set_option maxRecDepth 100000
set_option maxHeartbeats 4000000
namespace Wv
open PySem PySem.Spec PyProof.Rows L2 Evl
section
variable {K : PySem.W.Frag} {C : Cs} {U : UX} {G H G' H' G1 H1 G2 H2 : Hp} {sl sl' : Slots} {rt rt' : Roots} {σ : L2.St} {ρ ρ' ρ1 : List Addr} {fps fps' fps1 : List (List Addr)}
variable {X : Cx} {CX : CXT} {a b c e o : Expr} {es rest : List Expr} {wa wb wc : WE} {pos p apos cpos : Pos} {Z : WEnds} {E : L2.St → XK} {st : Stmt} {k : Nat} {f Ca : Addr} {fd : FuncData} {ps : List Str} {sp : Sp} {x m name : Str} {ta to : TE} {t : TA} {ds : List Value}
/-! ### o.f += e -/
def wAugF (F : Nat → Option Nat) (w : WE) (wx : WE) : WS := fun Z sl rt => wx ⟨sl, Z.ex⟩ rt fun x rt1 => match x with
  | .ref r p => match tat rt1 r p with
    | some (.obj c ts) => match F c with
      | some i => ∃ va, ts[i]? = some (.dat (.int va)) ∧ ts.length < 900 ∧ w ⟨sl, Z.ex⟩ rt1 fun y rt2 => rt2 = rt1 ∧ ∃ vb, y = .dat (.int vb) ∧ Z.nx sl (rt1.modify r (T.put (.obj c (ts.set i (.dat (.int (va + vb))))) p))
      | none => False
    | _ => False
  | _ => False
theorem s_augF {F : Nat → Option Nat} {f : Str} (hF : FOk K C F f) {w : WE} {wx : WE} : ∀ D σ H, tS K C U (wAugF F w wx) D σ H → sFldAug K (tE K C U wx) (tE K C U w) rAdd f D σ H := fun D σ H ⟨Z, sl, rt, ρ, fps, G, s, w, fn⟩ =>
  ⟨⟨sl, Z.ex⟩, rt, ρ, fps, G, _, s, fn.xf, w, fun x rt1 fps1 G1 H1 v r1 n1 v1 w1 => by
    split at w1
    · rename_i r p
      split at w1
      · rename_i c ts ht
        split at w1
        · rename_i i hi
          obtain ⟨va, hu, wl, w1⟩ := w1
          obtain ⟨f1, f2, f3, f4⟩ := hF _ _ hi
          obtain ⟨a0, fu0, y1, y2, y3, _⟩ := r1.get ht v1
          cases y3 with
          | @obj b dx0 fs0 _ _ fq0 hb0 nm0 tr0 =>
            obtain ⟨vo0, fo0, u1, u2, _⟩ := tr0.get hu
            have e0 : vo0 = .int va := by
              cases u2 with
              | dat h => cases h; rfl
            subst e0
            refine ⟨b, _, dx0, fs0, _, rfl, hb0, f1, f2, look_at nm0 f4 f3 u1, ⟨sl, Z.ex⟩, rt1, ρ, fps1, G1, _, s.step r1 n1 fun _ _ e => e, fn.xf.later n1 (Pre.refl _), w1, fun yv rt2 fps2 G2 H2 yy r2 n2 vy w2 => ?_⟩
            obtain ⟨e1, vb, rfl, w2⟩ := w2
            subst e1
            cases vy
            have v2 := v1.up n2 fun _ _ e => e
            obtain ⟨a, fu, z1, z2, z3, _⟩ := r2.get ht v2
            cases z3 with
            | @obj _ dx fs _ _ fq hb nm tr =>
              have hlen : fs.length = ts.length := by
                have := TRs.len tr
                simpa using this
              refine ⟨va, vb, rfl, rfl, dx, fs, hb, by omega, ?_⟩
              have hi2 : i < fs.length := by rw [hlen]; exact (List.getElem?_eq_some_iff.mp hu).1
              have e0 : putF f (.int (va + vb)) fs = fs.set i (f, .int (va + vb)) := putF_old nm f4 f3 hi2
              rw [e0]
              obtain ⟨vo, fo, q1, q2, _⟩ := tr.get hu
              have ms : (fs.set i (f, .int (va + vb))).map Prod.snd = (fs.map Prod.snd).set i (.int (va + vb)) := by rw [List.map_set]
              have mf : (fs.set i (f, .int (va + vb))).map Prod.fst = (C.ly c).take (fs.set i (f, .int (va + vb))).length := by
                rw [List.map_set, nm, List.length_set]
                refine List.ext_getElem? fun j => ?_
                rw [List.getElem?_set]
                split
                · rename_i e
                  subst e
                  split
                  · rw [List.getElem?_take_of_lt hi2, f3]
                  · rename_i h
                    exfalso
                    rw [List.length_take] at h
                    have := (List.getElem?_eq_some_iff.mp f3).1
                    omega
                · rfl
              have idn : Idn H2 (upd H2 b (.ins (C.at_ c) dx (fs.set i (f, .int (va + vb))))) := idn_ins hb fun j q hq nq => by
                rw [ms]
                by_cases z : i = j
                · subst z
                  rw [q1] at hq
                  cases hq
                  exact absurd nq ((leaf_ok (t := .dat (.int va)) rfl q2).2.2 _ r2.sub)
                · rw [List.getElem?_set_ne z]
                  exact hq
              obtain ⟨fps3, r3, mem, hbF⟩ := r2.write (t' := .obj c (ts.set i (.dat (.int (va + vb))))) (fn := []) ht z1 z2 (by intro d q; cases q) idn (fun fu hfu => by
                cases hfu with
                | @obj _ dx' fs' _ _ fq' hb' nm' tr' =>
                  rw [hb] at hb'
                  cases hb'
                  refine ⟨List.mem_cons_self, fun nd dis => ?_⟩
                  have nb := (List.nodup_cons.mp nd).1
                  refine ⟨b :: fq', .obj upd_same mf ?_, by rw [List.append_nil]⟩
                  rw [ms]
                  exact TRs.set (TRs.stay (Ex.refl _) _ _ _ tr' fun q hq => upd_ne fun z => nb (by rw [← z]; exact hq)) hu rfl (DR.int _)) List.nodup_nil (fun _ q => nomatch q) (fun _ q => nomatch q)
              have nW : Nx fps2.flatten G2 H2 G2 (upd H2 b (.ins (C.at_ c) dx (fs.set i (f, .int (va + vb))))) fps2.flatten := Nx.write (fps' := fps2) hbF (by rw [hb]; exact fun q => nomatch q) idn (fp := []) (fun _ q => nomatch q)
              have n3 := (n1.trans n2).trans nW
              have n4 : Nx fps.flatten G H G2 (upd H2 b (.ins (C.at_ c) dx (fs.set i (f, .int (va + vb))))) fps3.flatten := n3.less fun l hl => by
                rcases mem l hl with q | q
                · exact q
                · cases q
              exact fn.nx sl _ σ ρ fps3 G2 _ (s.step r3 n4 fun _ _ e => e) n4 (Pre.refl _) w2
        · exact w1.elim
      · exact w1.elim
    · exact w1.elim⟩
theorem ws_augF {F : Nat → Option Nat} {f : Str} (hF : FOk X.K C F f) {w : WE} {wx : WE} {tpos : Pos} (ha : PE X o (tE X.K C U wx)) (hv : PE X e (tE X.K C U w)) : PS X (.AugAssign (.Attribute o f tpos) .Add e pos) (tS X.K C U (wAugF F w wx)) :=
  ps_imp (ps_fldaug ha hv in_add) (s_augF hF)
/-! ### == of lists that are owned, too -/
def valPy (x : Val) (rt : Roots) : Option PyData := match x with
  | .dat d => d.py
  | .ref r p => match listOf (.ref r p) rt with
    | some ds => (D.pys ds).map .list
    | none => none
theorem RSt.valPy (s : RSt K C rt ρ fps G H) {x : Val} {v : V} {d : PyData} (h : valPy x rt = some d) (hv : VR K C G H ρ x v) : Dp K H v d := by
  unfold Wv.valPy at h
  split at h
  · exact DR.py s.sub _ _ _ hv h
  · split at h
    · rename_i ds e
      obtain ⟨q, hq, rfl⟩ := Option.map_eq_some_iff.mp h
      obtain ⟨a, xs, rfl, k1, k2⟩ := s.listOf e hv
      exact .lst k1 (DRs.py s.sub _ _ _ k2 hq)
    · cases h
def sEqV (neg : Bool) : Sem2 := fun x y rt k => ∃ px py, valPy x rt = some px ∧ valPy y rt = some py ∧ SeqAt.shaped px = true ∧ SeqAt.shaped py = true ∧ k (.bool (if neg then !PyData.eqv px py else PyData.eqv px py))
theorem s_eqV : S2 K C (sEqV false) (fun x y H Q => rEq x y H Q ∨ rEqD K x y H Q) := fun rt ρ fps G H x y v u s a b k Q w q => by
  obtain ⟨px, py, h1, h2, h3, h4, w⟩ := w
  exact .inr ⟨px, py, s.valPy h1 a, s.valPy h2 b, h3, h4, q _ _ w (.bool _)⟩
theorem s_neV : S2 K C (sEqV true) (fun x y H Q => rNe x y H Q ∨ rNeD K x y H Q) := fun rt ρ fps G H x y v u s a b k Q w q => by
  obtain ⟨px, py, h1, h2, h3, h4, w⟩ := w
  exact .inr ⟨px, py, s.valPy h1 a, s.valPy h2 b, h3, h4, q _ _ w (.bool _)⟩
/-! ### an item of a written dict -/
def KTab (K : PySem.W.Frag) (C : Cs) (w : World) (a : Addr) (tb : Str → Option D) : Prop := ∀ z d, tb z = some d → ∃ v, KDct K w a z v ∧ ∀ G, DR K C G v d
def wKD (tb : Str → Option D) (w : WE) : WE := fun sl rt k => w sl rt fun x rt1 => match x with
  | .dat (.str z) => ∃ d, tb z = some d ∧ k (.dat d) rt1
  | _ => False
theorem e_kd {wd : World} {a : Addr} {tb : Str → Option D} (hT : KTab K C wd a tb) {w : WE} : ∀ σ H Q, tE K C U (wKD tb w) σ H Q → tOp (rIxD K wd) (tC (.ref a)) (tE K C U w) σ H Q := fun σ H Q ⟨sl, rt, ρ, fps, G, k, s, xf, w, q⟩ =>
  ⟨sl, rt, ρ, fps, G, _, s, xf, w, fun x rt1 fps1 G1 H1 v r1 n1 v1 w1 => by
    split at w1
    · obtain ⟨d, hd, w1⟩ := w1
      cases v1
      obtain ⟨u, h1, h2⟩ := hT _ _ hd
      exact ⟨a, _, u, rfl, rfl, h1, q (.dat d) rt1 fps1 G1 H1 _ r1 n1 (h2 _) w1⟩
    · exact w1.elim⟩
theorem we_kd {a : Addr} {tb : Str → Option D} (hT : KTab X.K C X.w a tb) {w : WE} (h : PE X e (tOp (rIxD X.K X.w) (tC (.ref a)) (tE X.K C U w))) : PE X e (tE X.K C U (wKD tb w)) := pe_imp h (e_kd hT)
end
end Wv
end

section
set_option Elab.async false
set_option linter.all false
set_option maxRecDepth 100000
set_option maxHeartbeats 4000000
namespace Wv
open PySem PySem.Spec PyProof.Rows L2 Evl
section
variable {K : PySem.W.Frag} {C : Cs} {U : UX} {X : Cx} {st : Stmt}
/-! ### a, b, c = e, f, g -/
def wPar3 (i j l : Nat) (w : WA) : WS := fun Z sl rt => w ⟨sl, Z.ex⟩ rt fun xs rt1 => match xs with
  | [x, y, z] => Z.nx (((sl.set i (some x)).set j (some y)).set l (some z)) rt1
  | _ => False
theorem s_par3 {i j l : Nat} {w : WA} : ∀ D σ H, tS K C U (wPar3 i j l w) D σ H → tPar3 i j l (tA K C U w) D σ H := fun D σ H ⟨Z, sl, rt, ρ, fps, G, s, w, f⟩ =>
  ⟨⟨sl, Z.ex⟩, rt, ρ, fps, G, _, s, f.xf, w, fun xs rt1 fps1 G1 H1 vs r1 n1 v1 w1 => by
    split at w1
    · cases v1 with
      | cons a r =>
        cases r with
        | cons b r =>
          cases r with
          | cons c r =>
            cases r
            exact ⟨_, _, _, rfl, f.nx _ _ _ ρ fps1 G1 H1 ((((s.step r1 n1 fun _ _ e => e).set a).set b).set c) n1 (Pre.refl _) w1⟩
    · exact w1.elim⟩
theorem ws_par3 {i j l : Nat} {w : WA} (h : PS X st (tPar3 i j l (tA K C U w))) : PS X st (tS K C U (wPar3 i j l w)) := ps_imp h s_par3
end
end Wv
end

section
set_option linter.all false
set_option maxRecDepth 100000
namespace Wv
open PySem PySem.Spec PyProof.Rows L2 Evl
section
variable {K : PySem.W.Frag} {w : World}
/-! ### what the program's top has written: tuples, dicts -/
def vchk : List Value → List V → Bool
  | [], [] => true
  | .str x _ :: us, .str s :: ss => decide (x = s) && vchk us ss
  | .int x _ :: us, .int s :: ss => decide (x = s) && vchk us ss
  | .ref x :: us, .ref s :: ss => decide (x = s) && vchk us ss
  | .bool x :: us, .bl s :: ss => decide (x = s) && vchk us ss
  | .none :: us, .non :: ss => vchk us ss
  | _, _ => false
theorem vchk_ok : ∀ {us : List Value} {ss : List V}, vchk us ss = true → Vals ss us
  | [], [], _ => .nil
  | .str x t :: us, .str s :: ss, h => by
    have h' : (decide (x = s) && vchk us ss) = true := h
    rw [Bool.and_eq_true] at h'
    have e := of_decide_eq_true h'.1
    subst e
    exact .cons ⟨t, rfl⟩ (vchk_ok h'.2)
  | .int x t :: us, .int s :: ss, h => by
    have h' : (decide (x = s) && vchk us ss) = true := h
    rw [Bool.and_eq_true] at h'
    have e := of_decide_eq_true h'.1
    subst e
    exact .cons ⟨t, rfl⟩ (vchk_ok h'.2)
  | .ref x :: us, .ref s :: ss, h => by
    have h' : (decide (x = s) && vchk us ss) = true := h
    rw [Bool.and_eq_true] at h'
    have e := of_decide_eq_true h'.1
    subst e
    exact .cons rfl (vchk_ok h'.2)
  | .bool x :: us, .bl s :: ss, h => by
    have h' : (decide (x = s) && vchk us ss) = true := h
    rw [Bool.and_eq_true] at h'
    have e := of_decide_eq_true h'.1
    subst e
    exact .cons rfl (vchk_ok h'.2)
  | .none :: us, .non :: ss, h => .cons rfl (vchk_ok (show vchk us ss = true from h))
theorem dr_tup {a : Addr} {od : Option Addr} {its : Array Value} {n : Nat} {sl : Array (Option Value)} {vs : List V} {ds : List D} (l : K.lookup a = some ⟨.type "tuple", od, .seq its n, sl⟩) (h : vchk its.toList vs = true) (hz : vs.length ≤ 100000) (r : ∀ (C : Cs) (G : Hp), DRs K C G vs ds) : ∀ (C : Cs) (G : Hp), DR K C G (.ref a) (.tup ds) := fun C G => by
  have v := vchk_ok h
  refine .tup (.inr ⟨_, its, n, l, rfl, rfl, ?_, v⟩) (r C G)
  have e := v.length
  exact sz_of (by rw [← Array.length_toList, ← e]; exact hz)
def KRows (K : PySem.W.Frag) (C : Cs) (w : World) (a : Addr) (rows : List (Str × D)) : Prop := ∀ z d, (z, d) ∈ rows → ∃ v, KDct K w a z v ∧ ∀ G, DR K C G v d
theorem krow_nil {C : Cs} {a : Addr} : KRows K C w a [] := fun _ _ h => (nomatch h)
theorem krow_cons {C : Cs} {a : Addr} {z : Str} {d : D} {rows : List (Str × D)} {v : V} {u : Value} {es : Array DictEntry} {n : Nat} (l : K.lookup a = some ⟨.type "dict", none, .dict es n, #[]⟩) (k : PySem.W.KeysLit w.params es.toList) (e : PySem.W.nsIn K a z = some (some u)) (r : RelV v u) (hd : ∀ G, DR K C G v d)
    (t : KRows K C w a rows) : KRows K C w a ((z, d) :: rows) := fun z' d' h => by
  rcases List.mem_cons.mp h with h | h
  · cases h
    exact ⟨v, ⟨es, n, u, l, k, e, r⟩, hd⟩
  · exact t _ _ h
theorem lookup_mem {α β : Type} [BEq α] [LawfulBEq α] : ∀ {l : List (α × β)} {x : α} {y : β}, l.lookup x = some y → (x, y) ∈ l
  | (a, b) :: l, x, y, h => by
    rw [List.lookup_cons] at h
    split at h
    · rename_i e
      have e := eq_of_beq e
      subst e
      cases h
      exact List.mem_cons_self
    · exact List.mem_cons_of_mem _ (lookup_mem h)
theorem ktab {C : Cs} {a : Addr} {rows : List (Str × D)} (h : KRows K C w a rows) : KTab K C w a fun z => List.lookup z rows := fun z d e => h z d (lookup_mem e)
end
end Wv
end

section
set_option Elab.async false
set_option linter.all false
set_option maxRecDepth 100000
set_option maxHeartbeats 4000000
namespace Wv
open PySem PySem.Spec PyProof.Rows L2 Evl
section
variable {K : PySem.W.Frag} {C : Cs} {U : UX} {G H G' H' G1 H1 G2 H2 : Hp} {sl sl' : Slots} {rt rt' : Roots} {σ : L2.St} {ρ ρ' ρ1 : List Addr} {fps fps' fps1 : List (List Addr)}
variable {X : Cx} {CX : CXT} {a b c e o i value : Expr} {es rest : List Expr} {wa wb wc : WE} {pos p apos cpos pos' : Pos} {Z : WEnds} {E : L2.St → XK} {st : Stmt} {k : Nat} {f Ca : Addr} {fd : FuncData} {ps : List Str} {sp : Sp} {x m name : Str} {ta to : TE} {t : TA} {ds : List Value}
/-! ### dicts whose keys are ints and texts -/
def D.key : D → Option Key
  | .int i => some (.inl i)
  | .str s => some (.inr s)
  | _ => none
theorem key_ok {d : D} {v : V} {q : Key} (h : D.key d = some q) (r : DR K C G v d) : v = kV q := by
  unfold D.key at h
  split at h
  · cases h; cases r; rfl
  · cases h; cases r; rfl
  · cases h
def kat : List Key → Key → Option Nat
  | [], _ => none
  | a :: l, q => if a = q then some 0 else (kat l q).map (· + 1)
theorem kat_val {q : Key} : ∀ {kvs : List (Key × V)} {j : Nat} {v : V}, kat (kvs.map Prod.fst) q = some j → (kvs.map Prod.snd)[j]? = some v → valV kvs q = some v
  | [], _, _, h, _ => by cases h
  | (a, u) :: kvs, j, v, h, hv => by
    have h : (if a = q then some 0 else (kat (kvs.map Prod.fst) q).map (· + 1)) = some j := h
    by_cases e : a = q
    · rw [if_pos e] at h
      cases h
      rw [valV_pos e]
      exact hv
    · rw [if_neg e] at h
      obtain ⟨j', h1, rfl⟩ := Option.map_eq_some_iff.mp h
      rw [valV_neg e]
      exact kat_val h1 (by simpa using hv)
theorem kat_none {q : Key} : ∀ {kvs : List (Key × V)}, kat (kvs.map Prod.fst) q = none → valV kvs q = none
  | [], _ => valV_nil
  | (a, u) :: kvs, h => by
    have h : (if a = q then some 0 else (kat (kvs.map Prod.fst) q).map (· + 1)) = none := h
    by_cases e : a = q
    · rw [if_pos e] at h
      cases h
    · rw [if_neg e] at h
      rw [valV_neg e]
      exact kat_none (Option.map_eq_none_iff.mp h)
theorem kat_lt {q : Key} : ∀ {ks : List Key} {j : Nat}, kat ks q = some j → ks[j]? = some q
  | [], _, h => by cases h
  | a :: ks, j, h => by
    have h : (if a = q then some 0 else (kat ks q).map (· + 1)) = some j := h
    by_cases e : a = q
    · rw [if_pos e] at h
      cases h
      rw [e]
      rfl
    · rw [if_neg e] at h
      obtain ⟨j', h1, rfl⟩ := Option.map_eq_some_iff.mp h
      have := kat_lt h1
      simpa using this
/-- d[k] -/
def wKey (wa wb : WE) : WE := fun sl rt k => wa sl rt fun x rt1 => wb sl rt1 fun y rt2 => match y with
  | .dat d => match D.key d with
    | some q => match x with
      | .ref r p => match tat rt2 r p with
        | some (.dct ks ts) => ∃ j u, kat ks q = some j ∧ ts[j]? = some u ∧ k (Val.of r (p ++ [j]) u) rt2
        | _ => False
      | .dat (.dct ks ds) => ∃ j u, kat ks q = some j ∧ ds[j]? = some u ∧ k (.dat u) rt2
      | _ => False
    | none => False
  | _ => False
theorem e_key : ∀ σ H Q, tE K C U (wKey wa wb) σ H Q → tDGet (tE K C U wa) (tE K C U wb) σ H Q := fun σ H Q ⟨sl, rt, ρ, fps, G, k, s, xf, w, q⟩ =>
  ⟨sl, rt, ρ, fps, G, _, s, xf, w, fun x rt1 fps1 G1 H1 v r1 n1 v1 w1 => ⟨sl, rt1, ρ, fps1, G1, _, s.step r1 n1 fun _ _ e => e, xf.later n1 (Pre.refl _), w1, fun y rt2 fps2 G2 H2 u r2 n2 v2 w2 => by
    have v1 := v1.up n2 fun _ _ e => e
    split at w2
    · rename_i d
      split at w2
      · rename_i kq hq
        obtain rfl := key_ok hq v2
        split at w2
        · rename_i r p
          split at w2
          · rename_i ks ts ht
            obtain ⟨j, t, hj, hu, w2⟩ := w2
            obtain ⟨a, fu, k1, k2, k3, _⟩ := r2.get ht v1
            cases k3 with
            | dct h n tr =>
              subst n
              obtain ⟨z, fz, z1, z2, _⟩ := tr.get hu
              refine ⟨_, z, rfl, by rw [← kat_val hj z1]; exact DGet.k h, q _ rt2 fps2 G2 H2 z r2 (n1.trans n2) (VR.of k1 ?_ z2) w2⟩
              rw [fol_snoc, k2]
              show (match H2 _ with | some (.lst xs) => (xs[j]?).bind (fol H2 []) | some (.ins _ _ fs) => ((fs.map Prod.snd)[j]?).bind (fol H2 []) | some (.dK kvs) => ((kvs.map Prod.snd)[j]?).bind (fol H2 []) | _ => none) = some z
              rw [h]
              show (_[j]?).bind (fol H2 []) = some z
              rw [z1]
              rfl
          · exact w2.elim
        · rename_i ks ds
          obtain ⟨j, t, hj, hu, w2⟩ := w2
          cases v1 with
          | dct h n tr =>
            subst n
            obtain ⟨z, z1, z2⟩ := tr.get hu
            exact ⟨_, z, rfl, by rw [← kat_val hj z1]; exact DGet.k (r2.sub _ _ h), q (.dat _) rt2 fps2 G2 H2 z r2 (n1.trans n2) z2 w2⟩
        · exact w2.elim
      · exact w2.elim
    · exact w2.elim⟩⟩
theorem we_key (hu : X.A.units + 1 < cLine) (ha : PE X a (tE K C U wa)) (hb : PE X b (tE K C U wb)) (hs : NoSl b) : PE X (.Subscript a b pos) (tE K C U (wKey wa wb)) := pe_imp (pe_dget hu ha hb hs) e_key
theorem idn_dk {b : Addr} {fs fs' : List (Key × V)} (hb : H b = some (.dK fs)) (k : ∀ (i : Nat) x, (fs.map Prod.snd)[i]? = some x → NodeV H x → (fs'.map Prod.snd)[i]? = some x) : Idn H (upd H b (.dK fs')) := by
  refine Idn.of (fun w hw => ?_) (fun a i w hw hn => ?_)
  · obtain ⟨a, rfl, h⟩ := hw
    refine ⟨a, rfl, ?_⟩
    by_cases z : a = b
    · exact .inr (.inr ⟨fs', by rw [z, upd_same]⟩)
    · rw [upd_ne z]
      exact h
  · obtain ⟨v, h, rfl⟩ := hw
    by_cases z : a = b
    · subst z
      have h' : (match H a with | some (.lst xs) => (xs[i]?).bind (fol H []) | some (.ins _ _ fs) => ((fs.map Prod.snd)[i]?).bind (fol H []) | some (.dK kvs) => ((kvs.map Prod.snd)[i]?).bind (fol H []) | _ => none) = some v := h
      rw [hb] at h'
      have h2 : ((fs.map Prod.snd)[i]?).bind (fol H []) = some v := h'
      show (match upd H a (.dK fs') a with | some (.lst xs) => (xs[i]?).bind (fol (upd H a (.dK fs')) []) | some (.ins _ _ fs) => ((fs.map Prod.snd)[i]?).bind (fol (upd H a (.dK fs')) []) | some (.dK kvs) => ((kvs.map Prod.snd)[i]?).bind (fol (upd H a (.dK fs')) []) | _ => none) = some v
      rw [upd_same]
      show ((fs'.map Prod.snd)[i]?).bind (fol (upd H a (.dK fs')) []) = some v
      cases q : (fs.map Prod.snd)[i]? with
      | none => rw [q] at h2; cases h2
      | some y =>
        rw [q] at h2
        cases Option.some.inj h2
        rw [k i v q hn]
        rfl
    · show (match upd H b (.dK fs') a with | some (.lst xs) => (xs[i]?).bind (fol (upd H b (.dK fs')) []) | some (.ins _ _ fs) => ((fs.map Prod.snd)[i]?).bind (fol (upd H b (.dK fs')) []) | some (.dK kvs) => ((kvs.map Prod.snd)[i]?).bind (fol (upd H b (.dK fs')) []) | _ => none) = some v
      rw [upd_ne z]
      exact h
theorem putK_at {q : Key} {v : V} : ∀ {kvs : List (Key × V)} {j : Nat}, (kvs.map Prod.fst).Nodup → kat (kvs.map Prod.fst) q = some j → (kvs.map fun kv => if kv.1 = q then (kv.1, v) else kv) = kvs.set j (q, v)
  | [], _, _, h => by cases h
  | (a, u) :: kvs, j, nd, h => by
    have h : (if a = q then some 0 else (kat (kvs.map Prod.fst) q).map (· + 1)) = some j := h
    have nd : (a :: kvs.map Prod.fst).Nodup := nd
    rw [List.nodup_cons] at nd
    by_cases e : a = q
    · rw [if_pos e] at h
      cases h
      subst e
      show (if a = a then (a, v) else (a, u)) :: (kvs.map fun kv => if kv.1 = a then (kv.1, v) else kv) = (a, v) :: kvs
      rw [if_pos rfl]
      congr 1
      have : ∀ kv ∈ kvs, (if kv.1 = a then (kv.1, v) else kv) = kv := fun kv hkv => if_neg fun z => nd.1 (by rw [← z]; exact List.mem_map_of_mem (f := Prod.fst) hkv)
      rw [List.map_congr_left this, List.map_id']
    · rw [if_neg e] at h
      obtain ⟨j', h1, rfl⟩ := Option.map_eq_some_iff.mp h
      show (if a = q then (a, v) else (a, u)) :: (kvs.map fun kv => if kv.1 = q then (kv.1, v) else kv) = (a, u) :: kvs.set j' (q, v)
      rw [if_neg e, putK_at nd.2 h1]
theorem putK_old {q : Key} {v : V} {kvs : List (Key × V)} {j : Nat} (nd : (kvs.map Prod.fst).Nodup) (h : kat (kvs.map Prod.fst) q = some j) : putK kvs q v = kvs.set j (q, v) := by
  unfold putK
  have hj : (kvs.map Prod.snd)[j]? ≠ none := fun z => by
    have h1 := (List.getElem?_eq_some_iff.mp (kat_lt h)).1
    rw [List.getElem?_eq_none_iff] at z
    rw [List.length_map] at h1 z
    omega
  obtain ⟨u, hu⟩ := Option.ne_none_iff_exists'.mp hj
  rw [valV_any, kat_val h hu]
  exact putK_at nd h
/-- d[k] = e -/
def wKeySet (w : WO) (wx wk : WE) : WS := fun Z sl rt => w ⟨sl, Z.ex⟩ rt fun t rt1 => wx ⟨sl, Z.ex⟩ rt1 fun x rt2 => wk ⟨sl, Z.ex⟩ rt2 fun y rt3 => match x, y with
  | .ref r p, .dat d => match D.key d with
    | some q => match tat rt3 r p with
      | some (.dct ks ts) => ts.length < 900 ∧ ((∃ j u, kat ks q = some j ∧ ks.Nodup ∧ ts[j]? = some u ∧ leafT u = true ∧ Z.nx sl (rt3.modify r (T.put (.dct ks (ts.set j t)) p))) ∨
          (kat ks q = none ∧ Z.nx sl (rt3.modify r (T.put (.dct (ks ++ [q]) (ts ++ [t])) p))))
      | _ => False
    | none => False
  | _, _ => False
theorem s_keySet {w : WO} {wx wk : WE} : ∀ D σ H, tS K C U (wKeySet w wx wk) D σ H → sDPut (tE K C U wx) (tE K C U wk) (tO K C U w) D σ H := fun D σ H ⟨Z, sl, rt, ρ, fps, G, s, w, fn⟩ =>
  ⟨⟨sl, Z.ex⟩, rt, ρ, fps, G, _, s, fn.xf, w, fun t rt1 fps1 fp G1 H1 y r1 n1 o1 new w1 => ⟨⟨sl, Z.ex⟩, rt1, ρ, fps1, G1, _, s.step r1 n1 fun _ _ e => e, fn.xf.later n1 (Pre.refl _), w1, fun x rt2 fps2 G2 H2 v r2 n2 v2 w2 =>
    ⟨⟨sl, Z.ex⟩, rt2, ρ, fps2, G2, _, s.step r2 (n1.trans n2) fun _ _ e => e, fn.xf.later (n1.trans n2) (Pre.refl _), w2, fun x3 rt3 fps3 G3 H3 v3 r3 n3 v3' w3 => by
    split at w3
    · rename_i r p d
      split at w3
      · rename_i kq hq
        split at w3
        · rename_i ks ts ht
          obtain rfl := key_ok hq v3'
          obtain ⟨a, fu, z1, z2, z3, _⟩ := r3.get ht (v2.up n3 fun _ _ e => e)
          have o2 := (o1.past n2).past n3
          have n23 := n2.trans n3
          cases z3 with
          | @dct b kvs _ _ fq hb nm tr =>
            subst nm
            have hlen : kvs.length = ts.length := by
              have := TRs.len tr
              simpa using this
            obtain ⟨w0, w3⟩ := w3
            have hsz : kvs.length < sizeLine := by rw [sizeLine_eq]; omega
            refine ⟨b, _, rfl, DPut.k hb hsz, ?_⟩
            rcases w3 with ⟨j, u, hj, nd, hu, hlf, w3⟩ | ⟨hj, w3⟩
            · have hi2 : j < kvs.length := by rw [hlen]; exact (List.getElem?_eq_some_iff.mp hu).1
              rw [putK_old nd hj]
              obtain ⟨vo, fo, q1, q2, _⟩ := tr.get hu
              have ms : (kvs.set j (kq, y)).map Prod.snd = (kvs.map Prod.snd).set j y := by rw [List.map_set]
              have mf : (kvs.set j (kq, y)).map Prod.fst = kvs.map Prod.fst := by
                rw [List.map_set]
                refine List.ext_getElem? fun l => ?_
                rw [List.getElem?_set]
                split
                · rename_i e
                  subst e
                  rw [if_pos (by rw [List.length_map]; exact hi2), kat_lt hj]
                · rfl
              have idn : Idn H3 (upd H3 b (.dK (kvs.set j (kq, y)))) := idn_dk hb fun l q hq nq => by
                rw [ms]
                by_cases z : j = l
                · subst z
                  rw [q1] at hq
                  cases hq
                  exact absurd nq ((leaf_ok hlf q2).2.2 _ r3.sub)
                · rw [List.getElem?_set_ne z]
                  exact hq
              obtain ⟨fps4, r4, mem, hbF⟩ := r3.write (t' := .dct (kvs.map Prod.fst) (ts.set j t)) (fn := fp) ht z1 z2 (by intro d q; cases q) idn (fun fu hfu => by
                cases hfu with
                | @dct _ kvs' _ _ fq' hb' nm' tr' =>
                  rw [hb] at hb'
                  cases hb'
                  refine ⟨List.mem_cons_self, fun nd dis => ?_⟩
                  have nb := (List.nodup_cons.mp nd).1
                  obtain ⟨fp', t1, t2⟩ := TRs.setT (TRs.stay (Ex.refl _) _ _ _ tr' fun q hq => upd_ne fun z => nb (by rw [← z]; exact hq)) hu hlf (TR.stay (H' := upd H3 b (.dK (kvs.set j (kq, y)))) (Ex.refl _) _ _ _ o2.tr fun q hq => upd_ne fun z => dis q hq (by rw [z]; exact List.mem_cons_self))
                  refine ⟨b :: fp', .dct upd_same mf ?_, List.Perm.cons b t2⟩
                  rw [ms]
                  exact t1) o2.nd o2.ap o2.fr
              have nW : Nx fps3.flatten G3 H3 G3 (upd H3 b (.dK (kvs.set j (kq, y)))) fps3.flatten := Nx.write (fps' := fps3) hbF (by rw [hb]; exact fun q => nomatch q) idn (fp := []) (fun _ q => nomatch q)
              have n5 := (n1.trans n23).trans nW
              have n4 : Nx fps.flatten G H G3 (upd H3 b (.dK (kvs.set j (kq, y)))) fps4.flatten := ⟨n5.g, n5.keep, n5.dom, fun l hl => by
                rcases mem l hl with q | q
                · exact n5.new l q
                · exact new l q, n5.idn⟩
              exact fn.nx sl _ σ ρ fps4 G3 _ (s.step r4 n4 fun _ _ e => e) n4 (Pre.refl _) w3
            · rw [putK_new y (kat_none hj)]
              have idn : Idn H3 (upd H3 b (.dK (kvs ++ [(kq, y)]))) := idn_dk hb fun l q hq _ => by
                rw [List.map_append, List.getElem?_append_left (List.getElem?_eq_some_iff.mp hq).1]
                exact hq
              obtain ⟨fps4, r4, mem, hbF⟩ := r3.write (t' := .dct (kvs.map Prod.fst ++ [kq]) (ts ++ [t])) (fn := fp) ht z1 z2 (by intro d q; cases q) idn (fun fu hfu => by
                cases hfu with
                | @dct _ kvs' _ _ fq' hb' nm' tr' =>
                  rw [hb] at hb'
                  cases hb'
                  refine ⟨List.mem_cons_self, fun nd dis => ?_⟩
                  have nb := (List.nodup_cons.mp nd).1
                  refine ⟨b :: (fq' ++ (fp ++ [])), .dct upd_same ?_ ?_, ?_⟩
                  · rw [List.map_append]
                    rfl
                  · rw [List.map_append]
                    exact TRs.app (TRs.stay (Ex.refl _) _ _ _ tr' fun q hq => upd_ne fun z => nb (by rw [← z]; exact hq)) (.cons (TR.stay (Ex.refl _) _ _ _ o2.tr fun q hq => upd_ne fun z => dis q hq (by rw [z]; exact List.mem_cons_self)) .nil)
                  · rw [List.append_nil]
                    exact List.Perm.refl _) o2.nd o2.ap o2.fr
              have nW : Nx fps3.flatten G3 H3 G3 (upd H3 b (.dK (kvs ++ [(kq, y)]))) fps3.flatten := Nx.write (fps' := fps3) hbF (by rw [hb]; exact fun q => nomatch q) idn (fp := []) (fun _ q => nomatch q)
              have n5 := (n1.trans n23).trans nW
              have n4 : Nx fps.flatten G H G3 (upd H3 b (.dK (kvs ++ [(kq, y)]))) fps4.flatten := ⟨n5.g, n5.keep, n5.dom, fun l hl => by
                rcases mem l hl with q | q
                · exact n5.new l q
                · exact new l q, n5.idn⟩
              exact fn.nx sl _ σ ρ fps4 G3 _ (s.step r4 n4 fun _ _ e => e) n4 (Pre.refl _) w3
        · exact w3.elim
      · exact w3.elim
    · exact w3.elim⟩⟩⟩
theorem ws_keySet {w : WO} {wx wk : WE} (hu : X.A.units + 1 < cLine) (ho : PE X o (tE K C U wx)) (hi : PE X i (tE K C U wk)) (hv : PE X value (tO K C U w)) (hs : swapsWith value (some (.Subscript o i pos')) pos.line X.env = pure false) :
    PS X (.Assign [.Subscript o i pos'] value pos) (tS K C U (wKeySet w wx wk)) := ps_imp (ps_dput hu ho hi hv hs) s_keySet
/-! ### several new trees; the display of a dict -/
structure Owns (K : PySem.W.Frag) (C : Cs) (fps : List (List Addr)) (G H : Hp) (ts : List T) (vs : List V) (fp : List Addr) : Prop where
  tr : TRs K C G H vs ts fp
  nd : fp.Nodup
  ap : ∀ a ∈ fp, a ∉ fps.flatten
  fr : ∀ a ∈ fp, G a = none
def wOs : List WO → Cxt → Roots → (List T → Roots → Prop) → Prop
  | [], _, rt, k => k [] rt
  | w :: ws, sl, rt, k => w sl rt fun t rt1 => wOs ws sl rt1 fun ts rt2 => k (t :: ts) rt2
theorem TRs.inH {ts : List T} {vs : List V} {fp : List Addr} : TRs K C G H vs ts fp → ∀ a ∈ fp, H a ≠ none := by
  induction ts generalizing vs fp with
  | nil => intro h a ha; cases h; cases ha
  | cons t ts ih =>
    intro h a ha
    cases h with
    | cons h r =>
      rcases List.mem_append.mp ha with z | z
      · exact h.inH a z
      · exact ih r a z
theorem pairs_ok {sl : Cxt} : ∀ {l : List (Key × WO)} {rt : Roots} {fps : List (List Addr)} {G H : Hp} {k : List T → Roots → Prop} {Q : List (V × V) → Hp → Prop}, St K C sl.sl rt σ ρ fps G H → Xf K C U ρ fps G H sl.ex → wOs (l.map Prod.snd) sl rt k →
    (∀ ts rt' fps' fp G' H' vs, RSt K C rt' ρ fps' G' H' → Nx fps.flatten G H G' H' fps'.flatten → Owns K C fps' G' H' ts vs fp → (∀ a ∈ fp, a ∈ fps.flatten ∨ H a = none) → vs.length = l.length → k ts rt' → Q (((l.map Prod.fst).map kV).zip vs) H') →
    tPairs (l.map fun q => (tC (kV q.1), tO K C U q.2)) σ H Q
  | [], rt, fps, G, H, k, Q, s, xf, w, q => q [] rt fps [] G H [] s.toRSt (Nx.refl _ _ _) ⟨.nil, List.nodup_nil, fun _ z => (nomatch z), fun _ z => (nomatch z)⟩ (fun _ z => (nomatch z)) rfl w
  | (kk, wo) :: l, rt, fps, G, H, k, Q, s, xf, w, q => by
    show tO K C U wo σ H _
    refine ⟨sl, rt, ρ, fps, G, _, s, xf, w, fun t rt1 fps1 fp1 G1 H1 v r1 n1 o1 new1 w1 => ?_⟩
    refine pairs_ok (l := l) (s.step r1 n1 fun _ _ e => e) (xf.later n1 (Pre.refl _)) w1 fun ts rt2 fps2 fp2 G2 H2 vs r2 n2 o2 new2 hl w2 => ?_
    have o1' := o1.past n2
    have dis : ∀ a ∈ fp1, a ∉ fp2 := fun a h1 h2 => by
      rcases new2 a h2 with z | z
      · exact o1.ap a h1 z
      · exact o1.inH a h1 z
    refine q (t :: ts) rt2 fps2 (fp1 ++ fp2) G2 H2 (v :: vs) r2 (n1.trans n2) ⟨.cons o1'.tr o2.tr, ?_, ?_, ?_⟩ ?_ (by simp [hl]) w2
    · rw [List.nodup_append]
      exact ⟨o1'.nd, o2.nd, fun a h1 b h2 e => dis a h1 (by rw [e]; exact h2)⟩
    · intro a ha
      rcases List.mem_append.mp ha with z | z
      · exact o1'.ap a z
      · exact o2.ap a z
    · intro a ha
      rcases List.mem_append.mp ha with z | z
      · exact o1'.fr a z
      · exact o2.fr a z
    · intro a ha
      rcases List.mem_append.mp ha with z | z
      · exact new1 a z
      · rcases new2 a z with y | y
        · exact n1.new a y
        · exact .inr (n1.dom a y)
theorem merge_nd : ∀ (kvs acc : List (Key × V)), ((acc ++ kvs).map Prod.fst).Nodup → mergeK acc kvs = acc ++ kvs
  | [], acc, _ => by simp [mergeK]
  | (q, v) :: kvs, acc, nd => by
    have hn : valV acc q = none := by
      cases z : valV acc q with
      | none => rfl
      | some u =>
        exfalso
        have h1 := valV_any q acc
        rw [z] at h1
        have h1 : (acc.any fun kv => decide (kv.1 = q)) = true := h1
        obtain ⟨kv, h2, h3⟩ := List.any_eq_true.mp h1
        have h3 := of_decide_eq_true h3
        rw [List.map_append, List.nodup_append] at nd
        exact nd.2.2 kv.1 (List.mem_map_of_mem (f := Prod.fst) h2) q (by simp) h3
    show mergeK (putK acc q v) kvs = _
    rw [putK_new v hn, merge_nd kvs (acc ++ [(q, v)]) (by rw [List.append_assoc]; exact nd), List.append_assoc]
    rfl
/-- {'a': e, ..} -/
def wDisp (l : List (Key × WO)) : WO := fun sl rt k => (l.map Prod.fst).Nodup ∧ l.length ≤ 15 ∧ wOs (l.map Prod.snd) sl rt fun ts rt1 => k (.dct (l.map Prod.fst) ts) rt1
theorem zip_snd {α β : Type} : ∀ {as : List α} {bs : List β}, bs.length = as.length → (as.zip bs).map Prod.snd = bs
  | [], [], _ => rfl
  | a :: as, b :: bs, h => by
    show b :: (as.zip bs).map Prod.snd = _
    rw [zip_snd (by simpa using h)]
  | [], _ :: _, h => by cases h
  | _ :: _, [], h => by cases h
theorem zip_fst {α β : Type} : ∀ {as : List α} {bs : List β}, bs.length = as.length → (as.zip bs).map Prod.fst = as
  | [], [], _ => rfl
  | a :: as, b :: bs, h => by
    show a :: (as.zip bs).map Prod.fst = _
    rw [zip_fst (by simpa using h)]
  | [], _ :: _, h => by cases h
  | _ :: _, [], h => by cases h
theorem zip_kV : ∀ {as : List Key} {bs : List V}, (as.map kV).zip bs = (as.zip bs).map fun kv => (kV kv.1, kv.2)
  | [], _ => rfl
  | _ :: _, [] => rfl
  | a :: as, b :: bs => by
    show (kV a, b) :: (as.map kV).zip bs = (kV a, b) :: (as.zip bs).map fun kv => (kV kv.1, kv.2)
    rw [zip_kV]
theorem o_disp {l : List (Key × WO)} : ∀ σ H Q, tO K C U (wDisp l) σ H Q → tDisp (l.map fun q => (tC (kV q.1), tO K C U q.2)) σ H Q := fun σ H Q ⟨sl, rt, ρ, fps, G, k, s, xf, ⟨nd, h15, w⟩, q⟩ p hp => by
  have n0 : Nx fps.flatten G H G (upd H p (.dK [])) fps.flatten := Nx.grow hp
  have r0 : RSt K C rt ρ fps G (upd H p (.dK [])) := s.toRSt.grow (Ex.new hp)
  have pn : p ∉ fps.flatten := fun z => s.root.inH p z hp
  refine pairs_ok (s.step r0 n0 fun _ _ e => e) (xf.later n0 (Pre.refl _)) w fun ts rt' fps' fp G' H' vs r' n' o' new hl w' => ?_
  have hpk := n'.keep p (.dK []) upd_same pn
  have hp2 : H' p = some (.dK []) := hpk.1
  have hG0 : G p = none := by
    cases z : G p with
    | none => rfl
    | some o => have := s.sub p o z; rw [hp] at this; cases this
  have hG : G' p = none := hpk.2 hG0
  have pf : p ∉ fp := fun z => by
    rcases new p z with y | y
    · exact pn y
    · rw [upd_same] at y; cases y
  have pf' : p ∉ fps'.flatten := fun z => by
    rcases n'.new p z with y | y
    · exact pn y
    · rw [upd_same] at y; cases y
  refine ⟨hp2, (l.map Prod.fst).zip vs, zip_kV, by rw [List.length_zip, List.length_map]; exact Nat.le_trans (Nat.min_le_left _ _) h15, ?_⟩
  have e1 : ((l.map Prod.fst).zip vs).map Prod.fst = l.map Prod.fst := zip_fst (by rw [hl, List.length_map])
  have e2 : ((l.map Prod.fst).zip vs).map Prod.snd = vs := zip_snd (by rw [hl, List.length_map])
  rw [merge_nd _ [] (by rw [List.nil_append, e1]; exact nd), List.nil_append]
  have idn : Idn H' (upd H' p (.dK ((l.map Prod.fst).zip vs))) := idn_dk hp2 fun i x h _ => by simp at h
  refine q _ rt' fps' (p :: fp) G' _ (.ref p) ⟨fun a o e => ?_, Rts.stay (Ex.refl _) r'.root fun a ha => upd_ne fun z => pf' (by rw [← z]; exact ha), r'.nd, r'.fr⟩ ⟨n'.g, fun a o h na => ?_, fun a h => upd_none (n'.dom a (upd_none h)), fun a h => ?_, ((idn_new hp).trans n'.idn).trans idn⟩
    ⟨.dct upd_same e1 (by rw [e2]; exact TRs.stay (Ex.refl _) _ _ _ o'.tr fun a ha => upd_ne fun z => pf (by rw [← z]; exact ha)), List.nodup_cons.mpr ⟨pf, o'.nd⟩, fun a ha => ?_, fun a ha => ?_⟩ (fun a ha => ?_) w'
  · have z : a ≠ p := fun z => by rw [z, hG] at e; cases e
    rw [upd_ne z]
    exact r'.sub a o e
  · have z : a ≠ p := fun z => by rw [z, hp] at h; cases h
    obtain ⟨k1, k2⟩ := n'.keep a o (by rw [upd_ne z]; exact h) na
    exact ⟨by rw [upd_ne z]; exact k1, k2⟩
  · rcases n'.new a h with y | y
    · exact .inl y
    · exact .inr (upd_none y)
  · rcases List.mem_cons.mp ha with z | z
    · rw [z]; exact pf'
    · exact o'.ap a z
  · rcases List.mem_cons.mp ha with z | z
    · rw [z]; exact hG
    · exact o'.fr a z
  · rcases List.mem_cons.mp ha with z | z
    · rw [z]; exact .inr hp
    · rcases new a z with y | y
      · exact .inl y
      · exact .inr (upd_none y)
theorem wo_disp {keys : List (Option Expr)} {values : List Expr} {l : List (Key × WO)} (h : PPs X pos keys values (l.map fun q => (tC (kV q.1), tO K C U q.2))) (hall : keys.all (·.isSome) = true) (hl : keys.length = values.length) (h0 : keys ≠ []) (h15 : keys.length ≤ 15) :
    PE X (.Dict keys values pos) (tO K C U (wDisp l)) := pe_imp (pe_disp h hall hl h0 h15) o_disp
/-! ### what a name owns goes into something new -/
def wMv (wa : WE) : WO := fun sl rt k => wa sl rt fun x rt1 => match x with
  | .dat d => k (.dat d) rt1
  | .ref r [] => match rt1[r]? with
    | some t => k t (rt1.set r (.dat .any))
    | none => False
  | _ => False
theorem o_mv : ∀ σ H Q, tO K C U (wMv wa) σ H Q → tE K C U wa σ H Q := fun σ H Q ⟨sl, rt, ρ, fps, G, k, s, xf, w, q⟩ =>
  ⟨sl, rt, ρ, fps, G, _, s, xf, w, fun x rt1 fps1 G1 H1 v r1 n1 v1 w1 => by
    split at w1
    · exact q (.dat _) rt1 fps1 [] G1 H1 v r1 n1 (Own.dat v1) (fun _ z => nomatch z) w1
    · rename_i r
      split at w1
      · rename_i t ht
        obtain ⟨a, h1, h2, h3⟩ := v1
        obtain ⟨b, L, fu, R, z1, z2, z3, z4⟩ := r1.root.split ht
        rw [h1] at z1
        cases z1
        have e : v = .ref a := (Option.some.inj h2).symm
        obtain ⟨fps2, y1, y2⟩ := z4 G1 H1 (.dat .any) [] (Ex.refl _) (fun _ _ => rfl) (.dat (.any _))
        have nd := r1.nd
        rw [z3] at nd
        rw [List.nodup_append] at nd
        obtain ⟨n2, n3, n4⟩ := nd
        rw [List.nodup_append] at n3
        have e2 : fps2.flatten = L ++ R := by rw [y2]; simp
        have sub : ∀ c ∈ fps2.flatten, c ∈ fps1.flatten := fun c hc => by
          rw [e2] at hc
          rw [z3]
          rcases List.mem_append.mp hc with z | z <;> simp [z]
        refine q t _ fps2 fu G1 H1 v ⟨r1.sub, y1, ?_, fun c hc => r1.fr c (sub c hc)⟩ (n1.less sub) ⟨by rw [e]; exact z2, n3.1, fun c hc hc2 => ?_, fun c hc => r1.fr c (by rw [z3]; simp [hc])⟩ (fun c hc => n1.new c (by rw [z3]; simp [hc])) w1
        · rw [e2, List.nodup_append]
          exact ⟨n2, n3.2.1, fun c h1 d h2 => n4 c h1 d (List.mem_append_right _ h2)⟩
        · rw [e2] at hc2
          rcases List.mem_append.mp hc2 with z | z
          · exact n4 c z c (List.mem_append_left _ hc) rfl
          · exact n3.2.2 c hc c z rfl
      · exact w1.elim
    · exact w1.elim⟩
theorem wo_mv (h : PE X e (tE K C U wa)) : PE X e (tO K C U (wMv wa)) := pe_imp h o_mv
end
end Wv
end

section
set_option Elab.async false
set_option linter.all false
set_option maxRecDepth 100000
set_option maxHeartbeats 4000000
namespace Wv
open PySem PySem.Spec PyProof.Rows L2 Evl
section
variable {K : PySem.W.Frag} {C : Cs} {U : UX} {G H G' H' G1 H1 G2 H2 : Hp} {sl sl' : Slots} {rt rt' : Roots} {σ : L2.St} {ρ ρ' ρ1 : List Addr} {fps fps' fps1 : List (List Addr)}
variable {X : Cx} {CX : CXT} {a b c e o i value : Expr} {es rest : List Expr} {wa wb wc : WE} {pos p apos cpos pos' : Pos} {Z : WEnds} {E : L2.St → XK} {st : Stmt} {k : Nat} {f Ca : Addr} {fd : FuncData} {ps : List Str} {sp : Sp} {x m name : Str} {ta to : TE} {t : TA} {ds : List Value}
/-! ### errors of the program's own -/
theorem fol_ex (h : Ex H H') : ∀ (p : List Nat) (v w : V), fol H p v = some w → fol H' p v = some w
  | [], _, _, e => e
  | i :: p, v, w, e => by
    cases v with
    | ref a =>
      have e : (match H a with | some (.lst xs) => (xs[i]?).bind (fol H p) | some (.ins _ _ fs) => ((fs.map Prod.snd)[i]?).bind (fol H p) | some (.dK kvs) => ((kvs.map Prod.snd)[i]?).bind (fol H p) | _ => none) = some w := e
      show (match H' a with | some (.lst xs) => (xs[i]?).bind (fol H' p) | some (.ins _ _ fs) => ((fs.map Prod.snd)[i]?).bind (fol H' p) | some (.dK kvs) => ((kvs.map Prod.snd)[i]?).bind (fol H' p) | _ => none) = some w
      have go : ∀ o : Option V, o.bind (fol H p) = some w → o.bind (fol H' p) = some w := fun o z => by
        cases o with
        | none => cases z
        | some u => exact fol_ex h p u w z
      split at e
      · rename_i xs hb
        rw [h _ _ hb]
        exact go _ e
      · rename_i fs hb
        rw [h _ _ hb]
        exact go _ e
      · rename_i fs hb
        rw [h _ _ hb]
        exact go _ e
      · cases e
    | _ => cases e
theorem idn_ex (h : Ex H H') : Idn H H' := fun p v w e n => by
  refine ⟨fol_ex h p v w e, ?_⟩
  obtain ⟨a, rfl, n⟩ := n
  refine ⟨a, rfl, ?_⟩
  rcases n with ⟨xs, n⟩ | ⟨c, dx, fs, n⟩ | ⟨kvs, n⟩
  · exact .inl ⟨xs, h _ _ n⟩
  · exact .inr (.inl ⟨c, dx, fs, h _ _ n⟩)
  · exact .inr (.inr ⟨kvs, h _ _ n⟩)
theorem ex_none (h : Ex H H') {l : Addr} (e : H' l = none) : H l = none := by
  cases z : H l with
  | none => rfl
  | some o => rw [h l o z] at e; cases e
theorem Nx.ex (h : Ex H H') (fp : List Addr) : Nx fp G H G H' fp := ⟨Ex.refl G, fun l o e _ => ⟨h l o e, fun z => z⟩, fun l e => ex_none h e, fun _ z => .inl z, idn_ex h⟩
mutual
theorem TR.noxd : ∀ (t : T) (v : V) (fp : List Addr), TR K C G H v t fp → ∀ a ∈ fp, ∀ fs, H a ≠ some (.xd fs)
  | .dat d, _, _, h, a, ha, fs => by cases h; cases ha
  | .lst ts, _, _, h, a, ha, fs => by
    cases h with
    | lst h r =>
      rcases List.mem_cons.mp ha with z | z
      · rw [z, h]; exact fun q => nomatch q
      · exact TRs.noxd ts _ _ r a z fs
  | .obj c ts, _, _, h, a, ha, fs => by
    cases h with
    | obj h n r =>
      rcases List.mem_cons.mp ha with z | z
      · rw [z, h]; exact fun q => nomatch q
      · exact TRs.noxd ts _ _ r a z fs
  | .dct c ts, _, _, h, a, ha, fs => by
    cases h with
    | dct h n r =>
      rcases List.mem_cons.mp ha with z | z
      · rw [z, h]; exact fun q => nomatch q
      · exact TRs.noxd ts _ _ r a z fs
  | .nm _ t, _, _, h, a, ha, fs => by
    cases h with
    | nm h => exact TR.noxd t _ _ h a ha fs
theorem TRs.noxd : ∀ (ts : List T) (vs : List V) (fp : List Addr), TRs K C G H vs ts fp → ∀ a ∈ fp, ∀ fs, H a ≠ some (.xd fs)
  | [], _, _, h, a, ha, fs => by cases h; cases ha
  | t :: ts, _, _, h, a, ha, fs => by
    cases h with
    | cons h r =>
      rcases List.mem_append.mp ha with z | z
      · exact TR.noxd t _ _ h a z fs
      · exact TRs.noxd ts _ _ r a z fs
end
theorem Rts.noxd : ∀ {rt : Roots} {ρ : List Addr} {fps : List (List Addr)}, Rts K C G H rt ρ fps → ∀ a ∈ fps.flatten, ∀ fs, H a ≠ some (.xd fs)
  | _, _, _, .nil, a, ha, fs => by simp at ha
  | _, _, _, .cons h r, a, ha, fs => by
    rw [List.flatten_cons] at ha
    rcases List.mem_append.mp ha with z | z
    · exact TR.noxd _ _ _ h a z fs
    · exact Rts.noxd r a z fs
theorem DRs.rev : ∀ {vs : List V} {ds : List D}, DRs K C G vs ds → DRs K C G vs.reverse ds.reverse
  | _, _, .nil => .nil
  | _, _, .cons h r => by
    rw [List.reverse_cons, List.reverse_cons]
    exact DRs.app (DRs.rev r) (.cons h .nil)
/-- the __init__ of an error's class: its arguments are its fields -/
def spX (C : Addr) (fs : List Str) : Sp := fun vs H Q _ => ∃ (a : Addr) (xs : List V), vs = .ref a :: xs ∧ xs.length = fs.length ∧ H a = some (exo a C none) ∧
  ∀ (dx : Addr) (H' : Hp), H dx = none → dx ≠ a → H' a = some (exo a C (some dx)) → H' dx = some (exd dx (fs.zip xs).reverse) → (∀ b o, b ≠ a → H b = some o → H' b = some o) → Q .non H'
theorem pmk_mine {X : Cx} {p pos : Pos} {e : Expr} {es : List Expr} {ta : TA} {cls : Str} {C fI : Addr} {k : Nat} {fd : FuncData} {ps : List Str} {sp : Sp}
    (T : OexC X.K C)
    (iC : PySem.W.findIn X.K (.ref C) "__init__" = some (some (.ref fI)))
    (tI : PySem.W.typeIn X.K (.ref fI) = some (.type "function"))
    (F1 : FnOk X.prog X.w X.K X.mg X.base CX0 k fI fd ps sp)
    (room : Room (k + 1) X.A) (hb : Binds X.K fd ps [])
    (hg : Gl X cls) (hm : X.mg cls = some (.ref C)) (ha : PA X (e :: es) ta)
    (q1 : (cls == ("__debug__" : Str)) = false := by decide)
    (q2 : starEach (e :: es) X.env = (false, eval e X.env) :: starEach es X.env := by rfl)
    (q3 : (backTo pos (starEach es X.env)).any (·.1) = false := by rfl) :
    L2N.PMk X (.Call (.Name cls p) (e :: es) [] pos) (tMkO C sp [] ta) := by
  intro pins st σ H Q inv want
  obtain ⟨_, _, _, _, mro, _, _, _, _, _, _, _, _, _, _, atC, vb⟩ := T.cls
  refine wpAny_Call_Name_kw (ld_glob inv hg hm ?_ q1)
  refine PySem.W.callWith_K (h₀ := X.base) inv.ok.mod.kin T.kC (thn (ha.run pos pins st σ H _ inv want) fun us st1 found => ?_) q2 q3
  obtain ⟨vs, Hv, inv1, rel, few, next⟩ := found
  refine ⟨inv1.kIn, ?_⟩
  show wpAny _ _ (call (.ref C) us) _ _ _
  obtain ⟨hp, gens, drawn, tok, os⟩ := st1
  have above : hp.objs.size ≤ hp.objs.size + 1 := Nat.le_succ _
  have free : Hv (hp.objs.size + 1) = none := inv1.hok.fresh above
  have promise := next (hp.objs.size + 1) free
  -- the heap with the arguments' tuple and the bare error
  generalize made : (hp.push (PySem.W.kdv_tup us)).push (PySem.HandSPX.excO C hp.objs.size) = hp2
  have stays : ∀ b o, hp.get? b = some o → hp2.get? b = some o := fun b o z => by
    rw [← made]
    exact Heap.get?_push_of_some _ (Heap.get?_push_of_some _ z)
  have bare : hp2.get? (hp.objs.size + 1) = some (PySem.HandSPX.excO C hp.objs.size) := by
    rw [← made]
    heap_get
  have inv2 : Inv X pins σ (upd Hv (hp.objs.size + 1) (exo (hp.objs.size + 1) C none)) ⟨hp2, gens, drawn, tok, os⟩ :=
    inv1.laid (t' := tok) (a := hp.objs.size + 1) (h' := hp2) stays above (exo_ok bare)
  have rel2 : Vals (V.ref (hp.objs.size + 1) :: (vs ++ [])) (Value.ref (hp.objs.size + 1) :: us ++ []) := .cons rfl (rel.append .nil)
  have nargs : (Value.ref (hp.objs.size + 1) :: us ++ []).length = ps.length := by
    have z := rel2.length
    rw [F1.len _ _ _ _ promise] at z
    exact z.symm
  have fits : us.length ≤ sizeLine := by
    have z := Paired.length rel
    rw [sizeLine_eq]
    omega
  subst made
  refine wpAny_call (PySem.HandSPX.call_own F.excBase_ValueError (fun Y => PySem.HandSPX.refsVE_contains Y mro vb) (inv1.kIn _ _ atC) (PySem.W.looks_findIn inv1.kIn iC) (fun self => PySem.W.bind_fn inv1.kIn self tI) fits ?_)
  refine codeAny_mono (F1.run _ X.stack _ _ ⟨Value.ref (hp.objs.size + 1) :: us, []⟩ (Value.ref (hp.objs.size + 1) :: us ++ []) _ _ (fun _ _ _ => False) (room.make C us []) (inv2.env0.make C us []) (hb _ (Value.ref (hp.objs.size + 1) :: us) inv2.kIn nargs) rel2 promise) fun r st2 got => ?_
  cases r with
  | error er => exact (show False from got).elim
  | ok fl =>
    cases fl with
    | next => exact (show False from got).elim
    | brk => exact (show False from got).elim
    | cont => exact (show False from got).elim
    | ret u =>
      obtain ⟨v, Hx, sameOs, bares, un, holds, rv, isNone, d, fs, atE, atD, newD, fin⟩ := got
      subst isNone
      obtain ⟨hx, gx, dx, tx, ox⟩ := st2
      obtain ⟨t0, G, J, kG, gone, its, nil⟩ := mk_end0 (d2 := dx) (t2 := tx) inv1 above stays un holds sameOs bares atE atD newD
      refine ⟨rv, hp.objs.size + 1, _, _, ⟨G, gx, dx, tx, ox⟩, _, .ref C, some d, rfl, J, kG, gone, its, ⟨rfl, rfl, fun ws hw => ?_⟩, rfl, rfl, nil, rfl, bares, raises_own T.exC T.tyC, fin⟩
      cases hw
      rfl
/-- raise C(..) -/
def wRaise (c n : Nat) (w : WA) : WS := fun Z sl rt => w ⟨sl, Z.ex⟩ rt fun xs rt1 => match datsV xs with
  | some ds => ds.length = n ∧ Z.ex ⟨c, ds.reverse⟩ sl rt1
  | none => False
theorem datsV_len : ∀ {xs : List Val} {ds : List D}, datsV xs = some ds → ds.length = xs.length
  | [], _, h => by cases h; rfl
  | .dat d :: xs, ds, h => by
    obtain ⟨es, h1, rfl⟩ := Option.map_eq_some_iff.mp (show (datsV xs).map (d :: ·) = some ds from h)
    rw [List.length_cons, List.length_cons, datsV_len h1]
  | .ref _ _ :: _, _, h => by cases h
theorem rev_map_fst {α β : Type} {as : List α} {bs : List β} (h : bs.length = as.length) : ((as.zip bs).reverse).map Prod.fst = as.reverse := by
  rw [List.map_reverse, zip_fst h]
theorem rev_map_snd {α β : Type} {as : List α} {bs : List β} (h : bs.length = as.length) : ((as.zip bs).reverse).map Prod.snd = bs.reverse := by
  rw [List.map_reverse, zip_snd h]
theorem s_raise {c : Nat} {fs : List Str} {w : WA} (hl : C.ly c = fs.reverse) (hn : fs.length ≤ 100) : ∀ (D : Ends) σ H, tS K C U (wRaise c fs.length w) D σ H → tMkO (C.at_ c) (spX (C.at_ c) fs) [] (tA K C U w) σ H fun cls d H' => U cls d σ H' := fun D σ H ⟨Z, sl, rt, ρ, fps, G, s, w, fn⟩ =>
  ⟨⟨sl, Z.ex⟩, rt, ρ, fps, G, _, s, fn.xf, w, fun xs rt1 fps1 G1 H1 vs r1 n1 v1 w1 => by
    split at w1
    · rename_i ds hd
      obtain ⟨h100, w1⟩ := w1
      have hx : xs.length = fs.length := (datsV_len hd).symm.trans h100
      have hv := VRs.len v1
      have dr := VRs.dats v1 hd
      have hd2 := DRs.len dr
      refine ⟨by omega, fun a ha => ⟨a, vs, by rw [List.append_nil], by rw [hv, hx], upd_same, fun dx H2 h1 hne h2 h3 h4 => ⟨rfl, dx, _, h2, h3, upd_none h1, ?_⟩⟩⟩
      have ex2 : Ex H1 (upd (del H2 a) dx (.xd (fs.zip vs).reverse)) := fun b o e => by
        have z1 : b ≠ a := fun z => by rw [z, ha] at e; cases e
        have z2 : b ≠ dx := fun z => by rw [z, upd_none h1] at e; cases e
        rw [upd_ne z2, del_ne z1]
        exact h4 b o z1 (by rw [upd_ne z1]; exact e)
      have hvl : vs.length = fs.length := by rw [hv, hx]
      refine fn.xf ⟨c, ds.reverse⟩ sl rt1 σ ρ fps1 G1 _ _ _ (s.step (r1.grow ex2) (n1.trans (Nx.ex ex2 _)) fun _ _ e => e) (n1.trans (Nx.ex ex2 _)) (Pre.refl _) ⟨rfl, dx, _, rfl, n1.dom _ (upd_none h1), upd_same, ?_, ?_⟩ w1
      · rw [rev_map_fst hvl, hl, List.length_reverse, List.length_zip, hvl, Nat.min_self, ← List.length_reverse, List.take_length]
      · rw [rev_map_snd hvl]
        exact dr.rev
    · exact w1.elim⟩
theorem ws_raise {c : Nat} {fs : List Str} {w : WA} {fI : Addr} {cls : Str} (hl : C.ly c = fs.reverse) (hn : fs.length ≤ 100) (hc : X.calm = true) (tk : L2N.Takes X U)
    (T : OexC X.K (C.at_ c)) (iC : PySem.W.findIn X.K (.ref (C.at_ c)) "__init__" = some (some (.ref fI))) (tI : PySem.W.typeIn X.K (.ref fI) = some (.type "function")) (F1 : FnOk X.prog X.w X.K X.mg X.base CX0 k fI fd ps (spX (C.at_ c) fs))
    (room : Room (k + 1) X.A) (hb : Binds X.K fd ps []) (hg : Gl X cls) (hm : X.mg cls = some (.ref (C.at_ c))) (ha : PA X (e :: es) (tA K C U w)) (q1 : (cls == ("__debug__" : Str)) = false := by decide)
    (q2 : starEach (e :: es) X.env = (false, eval e X.env) :: starEach es X.env := by rfl) (q3 : (backTo pos' (starEach es X.env)).any (·.1) = false := by rfl) :
    PS X (.Raise (some (.Call (.Name cls p) (e :: es) [] pos')) none pos) (tS K C U (wRaise c fs.length w)) := ps_imp (L2N.ps_raise hc tk (pmk_mine T iC tI F1 room hb hg hm ha q1 q2 q3)) (s_raise hl hn)
/-! ### try, except C as x -/
theorem St.unset (s : St K C sl rt σ ρ fps G H) (i : Nat) : St K C (sl.set i none) rt (σ.set i none) ρ fps G H where
  toRSt := s.toRSt
  len := by rw [List.length_set, List.length_set]; exact s.len
  slot := fun j x h => by
    rw [List.getElem?_set] at h
    split at h
    · split at h <;> cases h
    · rename_i z
      obtain ⟨v, h1, h2⟩ := s.slot j x h
      exact ⟨v, by rw [List.getElem?_set_ne z]; exact h1, h2⟩
/-- the error's dict becomes data -/
theorem St.xd {dd : Addr} {fs : List (Str × V)} (s : St K C sl rt σ ρ fps G H) (h : H dd = some (.xd fs)) : ∃ G', Ex G G' ∧ G' dd = some (.xd fs) ∧ St K C sl rt σ ρ fps G' H ∧ ∀ l, G l = none → l ≠ dd → G' l = none := by
  have hex : Ex G (upd G dd (.xd fs)) := fun l o e => by
    by_cases z : l = dd
    · subst z
      have := s.sub l o e
      rw [h] at this
      cases this
      exact upd_same
    · rw [upd_ne z]; exact e
  have hsub : Ex (upd G dd (.xd fs)) H := fun l o e => by
    by_cases z : l = dd
    · subst z
      rw [upd_same] at e
      cases e
      exact h
    · rw [upd_ne z] at e
      exact s.sub l o e
  refine ⟨_, hex, upd_same, { sub := hsub, root := Rts.stay hex s.root fun _ _ => rfl, nd := s.nd, fr := fun l hl => ?_, len := s.len, slot := fun i x hx => ?_ }, fun l hl hn => by rw [upd_ne hn]; exact hl⟩
  · have z : l ≠ dd := fun z => Rts.noxd s.root l hl fs (by rw [z]; exact h)
    rw [upd_ne z]
    exact s.fr l hl
  · obtain ⟨v, h1, h2⟩ := s.slot i x hx
    refine ⟨v, h1, ?_⟩
    cases x with
    | dat d => exact DR.up hex d v h2
    | ref r p => exact h2
/-- err.f in the suite -/
def wXf (a dd c i : Nat) (j : Nat) : WE := fun sl rt k => ∃ ds d, sl.sl[i]? = some (some (.dat (.exn a dd c ds))) ∧ ds[j]? = some d ∧ k (.dat d) rt
theorem e_xf {a dd c i j : Nat} {fn : Str} (hl : (C.ly c)[j]? = some fn) (nd : (C.ly c).Nodup) : ∀ σ H Q, tE K C U (wXf a dd c i j) σ H Q → tXf a (.ref (C.at_ c)) (some dd) (C.at_ c) fn (tVar i) σ H Q := fun σ H Q ⟨sl, rt, ρ, fps, G, k, s, xf, ⟨ds, d, h1, h2, w⟩, q⟩ => by
  obtain ⟨v, hv, hr⟩ := s.slot i _ h1
  have hr : DR K C G v (.exn a dd c ds) := hr
  cases hr with
  | exn hG hn r =>
    obtain ⟨z, z1, z2⟩ := r.get h2
    exact ⟨.ref a, hv, rfl, rfl, dd, _, z, rfl, s.sub _ _ hG, look_at hn nd hl z1, q (.dat d) rt fps G H z s.toRSt (Nx.refl _ _ _) z2 w⟩
theorem we_xf {a dd c i j : Nat} {fn : Str} {oe : Obj} {pn : List (Addr × Obj)} (hl : (C.ly c)[j]? = some fn) (nd : (C.ly c).Nodup) (T : XfC X.K (C.at_ c)) (hno : PySem.W.findIn X.K (.ref (C.at_ c)) fn = some none)
    (hz : L2N.Zn (.ref (C.at_ c)) (some dd) oe) (hf : ∃ vs, oe.data = .fields vs) (he : PE (X.suite a ((a, oe) :: pn)) e (tVar i)) (hb : attributeBase e fn X.env (eval e X.env) = eval e X.env := by rfl) :
    PE (X.suite a ((a, oe) :: pn)) (.Attribute e fn pos) (tE X.K C U (wXf a dd c i j)) := pe_imp (pe_xf T hno hz.zc hf he hb) (e_xf hl nd)
/-! ### defs called within an except suite -/
theorem hotS {X : Cx} {a : Addr} {cls : Value} {d : Option Addr} {oe : Obj} {pn : List (Addr × Obj)} (hz : L2N.Zn cls d oe) (hf : ∃ vs, oe.data = .fields vs) : L2H.HotC (X.suite a ((a, oe) :: pn)) := by
  obtain ⟨vs, hv⟩ := hf
  exact ⟨(a, oe), ⟨rfl, vs, hv, hz.2.2 vs hv⟩, List.mem_cons_self⟩
theorem passZ {X : Cx} {E : L2.St → XK} : ∀ σ, PassesAt CX0 X σ (E σ) := fun σ pins H s e s' I c => c.elim
abbrev sp0 (K : PySem.W.Frag) (C : Cs) (cw : CW) : Sp := fun vs H Q _ => spW K C cw vs H Q fun _ _ _ => False
theorem ok_WH {P : Program} {w : World} {mg : Str → Option Value} {base : Heap} {x qual : Str} {st : Stmt} {f : Addr} {fd : FuncData} {N ps : List Str} {k n : Nat} {body : WS}
    (F : Fun K x qual st f fd) (S : FnScope N ps (defScope st)) (hn : N.length = ps.length + n)
    (der : ∀ (cdv : Value) (A : Around) (outer : List Env) (s : Shared) (H : Hp) (E : XK) (p : Addr × Obj), L2H.HotC (L2H.cxH CX0 P w K mg base N qual (defScope st) f cdv A outer s H E p).nox → L2H.RoomH k (A.deeper (envOfC qual (defScope st) s.heap.objs.size f cdv)) →
      PSs (L2H.cxH CX0 P w K mg base N qual (defScope st) f cdv A outer s H E p).nox (defBody st) (tS K C (fun _ _ _ _ => False) body)) :
    L2H.FnH P w K mg base CX0 (k + 1) f fd ps (sp0 K C (cwOf ps.length n body)) := by
  obtain ⟨oc, od, kV, doc, pm, an, cdv, ct, osl, rfl, lk, hcd⟩ := F.ex
  exact L2H.fn_ofH lk hcd S (fun vs H Q E h => spW_len h) fun A outer s H vs Q E p hot hr h => ⟨_, (der cdv A outer s H E p ⟨p, hot, List.mem_cons_self⟩ hr).nox, w_enter hn h⟩
/-- f(..), nothing raised -/
def wCall0 (cw : CW) (w : WA) : WO := fun sl rt k => w sl rt fun xs rt1 => dst (plc xs) = true ∧ match getR rt1 (plc xs) with
  | some ts => cw (ren xs) ts (fun t ts' => k t (putR rt1 (plc xs) ts')) fun _ _ => False
  | none => False
theorem o_callH {cw : CW} {w : WA} {E : L2.St → XK} : ∀ σ H Q, tO K C U (wCall0 cw w) σ H Q → tCallS (sp0 K C cw) E (tA K C U w) σ H Q := fun σ H Q ⟨sl, rt, ρ, fps, G, k, s, xf, w, q⟩ =>
  ⟨sl, rt, ρ, fps, G, _, s, xf, w, fun xs rt1 fps1 G1 H1 vs r1 n1 v1 ⟨hd, w1⟩ => by
    split at w1
    · rename_i ts ht
      exact sp_use (kx := fun _ _ => False) r1 v1 hd ht w1 (fun t rt' fps' fp G' H' v r' n' o' new hk => q t rt' fps' fp G' H' v r' (n1.trans n') o' (fun a ha => (new a ha).elim (fun y => n1.new a y) fun y => .inr (n1.dom a y)) hk)
        fun x rt' fps' G' H' cls d r' n' xr hk => hk.elim
    · exact w1.elim⟩
theorem wo_callH {cw : CW} {w : WA} {E : L2.St → XK} (h : PE X e (tCallS (sp0 K C cw) E (tA K C U w))) : PE X e (tO K C U (wCall0 cw w)) := pe_imp h o_callH
def wMeth0 (c : Nat) (cw : CW) (wo : WE) (w : WA) : WO := fun sl rt k => wo sl rt fun x rt1 => isObj c x rt1 ∧ w sl rt1 fun xs rt2 => dst (plc (x :: xs)) = true ∧ match getR rt2 (plc (x :: xs)) with
  | some ts => cw (ren (x :: xs)) ts (fun t ts' => k t (putR rt2 (plc (x :: xs)) ts')) fun _ _ => False
  | none => False
theorem o_methH {c : Nat} {cw : CW} {wo : WE} {w : WA} {m : Str} {E : L2.St → XK} (hm : m ∉ C.ly c) : ∀ σ H Q, tO K C U (wMeth0 c cw wo w) σ H Q → L2H.tMethH (C.at_ c) m (sp0 K C cw) E (tE K C U wo) (tA K C U w) σ H Q := fun σ H Q ⟨sl, rt, ρ, fps, G, k, s, xf, w, q⟩ =>
  ⟨sl, rt, ρ, fps, G, _, s, xf, w, fun x rt1 fps1 G1 H1 v r1 n1 v1 ⟨hx, w1⟩ => by
    obtain ⟨a, dx, fs, rfl, h, n⟩ := r1.isObj v1 hx
    refine ⟨a, dx, fs, rfl, h, look_no fun z => hm (List.mem_of_mem_take (by rw [← n]; exact z)), sl, rt1, ρ, fps1, G1, _, s.step r1 n1 fun _ _ e => e, xf.later n1 (Pre.refl _), w1, fun xs rt2 fps2 G2 H2 vs r2 n2 v2 ⟨hd, w2⟩ => ?_⟩
    split at w2
    · rename_i ts ht
      have n3 := n1.trans n2
      exact sp_use (kx := fun _ _ => False) r2 (.cons (v1.up n2 fun _ _ e => e) v2) hd ht w2 (fun t rt' fps' fp G' H' v r' n' o' new hk => q t rt' fps' fp G' H' v r' (n3.trans n') o' (fun a ha => (new a ha).elim (fun y => n3.new a y) fun y => .inr (n3.dom a y)) hk)
        fun y rt' fps' G' H' cls d r' n' xr hk => hk.elim
    · exact w2.elim⟩
theorem wo_methH {c : Nat} {cw : CW} {wo : WE} {w : WA} {m : Str} {E : L2.St → XK} (hm : m ∉ C.ly c) (h : PE X e (L2H.tMethH (C.at_ c) m (sp0 K C cw) E (tE K C U wo) (tA K C U w))) : PE X e (tO K C U (wMeth0 c cw wo w)) := pe_imp h (o_methH hm)
theorem noPassN {P : Program} {w : World} : ∀ σ : L2.St, PassesAt (L2N.CX P w) X σ (fun _ _ _ => False) := fun σ pins H s e s' I c => by
  obtain ⟨_, _, _, _, _, _, _, _, _, _, _, _, z⟩ := c
  exact z.elim
/-- the same where nothing is handled -/
theorem o_callN {cw : CW} {w : WA} {E : L2.St → XK} : ∀ σ H Q, tO K C U (wCall0 cw w) σ H Q → tCallS (spW K C cw) E (tA K C U w) σ H Q := fun σ H Q ⟨sl, rt, ρ, fps, G, k, s, xf, w, q⟩ =>
  ⟨sl, rt, ρ, fps, G, _, s, xf, w, fun xs rt1 fps1 G1 H1 vs r1 n1 v1 ⟨hd, w1⟩ => by
    split at w1
    · rename_i ts ht
      exact sp_use (kx := fun _ _ => False) r1 v1 hd ht w1 (fun t rt' fps' fp G' H' v r' n' o' new hk => q t rt' fps' fp G' H' v r' (n1.trans n') o' (fun a ha => (new a ha).elim (fun y => n1.new a y) fun y => .inr (n1.dom a y)) hk)
        fun x rt' fps' G' H' cls d r' n' xr hk => hk.elim
    · exact w1.elim⟩
theorem wo_callN {cw : CW} {w : WA} {E : L2.St → XK} (h : PE X e (tCallS (spW K C cw) E (tA K C U w))) : PE X e (tO K C U (wCall0 cw w)) := pe_imp h o_callN
theorem o_methN {c : Nat} {cw : CW} {wo : WE} {w : WA} {m : Str} {E : L2.St → XK} (hm : m ∉ C.ly c) : ∀ σ H Q, tO K C U (wMeth0 c cw wo w) σ H Q → tMethX (C.at_ c) m (spW K C cw) E (tE K C U wo) (tA K C U w) σ H Q := fun σ H Q ⟨sl, rt, ρ, fps, G, k, s, xf, w, q⟩ =>
  ⟨sl, rt, ρ, fps, G, _, s, xf, w, fun x rt1 fps1 G1 H1 v r1 n1 v1 ⟨hx, w1⟩ => by
    obtain ⟨a, dx, fs, rfl, h, n⟩ := r1.isObj v1 hx
    refine ⟨a, dx, fs, rfl, h, look_no fun z => hm (List.mem_of_mem_take (by rw [← n]; exact z)), sl, rt1, ρ, fps1, G1, _, s.step r1 n1 fun _ _ e => e, xf.later n1 (Pre.refl _), w1, fun xs rt2 fps2 G2 H2 vs r2 n2 v2 ⟨hd, w2⟩ => ?_⟩
    split at w2
    · rename_i ts ht
      have n3 := n1.trans n2
      exact sp_use (kx := fun _ _ => False) r2 (.cons (v1.up n2 fun _ _ e => e) v2) hd ht w2 (fun t rt' fps' fp G' H' v r' n' o' new hk => q t rt' fps' fp G' H' v r' (n3.trans n') o' (fun a ha => (new a ha).elim (fun y => n3.new a y) fun y => .inr (n3.dom a y)) hk)
        fun y rt' fps' G' H' cls d r' n' xr hk => hk.elim
    · exact w2.elim⟩
theorem wo_methN {c : Nat} {cw : CW} {wo : WE} {w : WA} {m : Str} {E : L2.St → XK} (hm : m ∉ C.ly c) (h : PE X e (tMethX (C.at_ c) m (spW K C cw) E (tE K C U wo) (tA K C U w))) : PE X e (tO K C U (wMeth0 c cw wo w)) := pe_imp h (o_methN hm)
/-! ### a local name that holds a def; a method by the class of a local name -/
def tCallLS (i : Nat) (f : Addr) (sp : Sp) (E : L2.St → XK) (t : TA) : TE := fun σ H Q => σ[i]? = some (some (.ref f)) ∧ t σ H fun vs H1 => sp vs H1 Q (E σ)
theorem pe_callLS {i : Nat} (F : FnOk X.prog X.w X.K X.mg X.base CX k f fd ps sp) (hr : Room k X.A) (hN : X.N[i]? = some x) (hv : Vis X.env.scope x) (hk : PySem.W.keepIn X.K (.ref f) = true) (hb : Binds X.K fd ps []) (hx : ∀ σ, PassesAt CX X σ (E σ)) (ha : PA X (e :: es) t)
    (hdb : (x == ("__debug__" : Str)) = false := by decide) (hcd : (x == ("__classdict__" : Str)) = false := by decide)
    (he : starEach (e :: es) X.env = (false, eval e X.env) :: starEach es X.env := by rfl) (hpl : (backTo pos (starEach es X.env)).any (·.1) = false := by rfl) : PE X (.Call (.Name x p) (e :: es) [] pos) (tCallLS i f sp E t) := by
  refine ⟨fun pins s σ H Q I h => ?_⟩
  obtain ⟨hs, ht⟩ := h
  refine wpAny_Call_Name_kw (thn ((pe_var (pos := p) hN hv hdb hcd).run pins s σ H (fun v H1 => v = .ref f ∧ H1 = H) I ⟨.ref f, hs, rfl, rfl⟩) fun u s1 ⟨v, H1, I1, r1, q1⟩ => ?_)
  obtain ⟨rfl, rfl⟩ := q1
  cases r1
  refine PySem.W.callWith_K (h₀ := X.base) I.ok.mod.kin hk (thn (ha.run pos pins s1 σ _ _ I1 ht) fun us s2 ⟨vs, H2, I2, r, q⟩ => ⟨I2.kIn, ?_⟩) he hpl
  exact run_fnSD (dvs := []) (ds := []) F hr hb .nil (hx σ) I2 r (by simpa using q)
/-- the slot i holds one of the defs js -/
def wCallF (js : List Nat) (tab : Nat → CW) (i : Nat) (w : WA) : WO := fun sl rt k => match sl.sl[i]? with
  | some (some (.dat (.fn j))) => j ∈ js ∧ wCall (tab j) w sl rt k
  | _ => False
theorem wo_callF {js : List Nat} {tab : Nat → CW} {i : Nat} {w : WA} (h : ∀ j ∈ js, PE X e (tCallLS i (C.fn j) (spW K C (tab j)) (fun σ cls d H => U cls d σ H) (tA K C U w))) : PE X e (tO K C U (wCallF js tab i w)) := ⟨fun pins s0 σ H Q I ⟨sl, rt, ρ, fps, G, k, s, xf, w0, q⟩ => by
  unfold wCallF at w0
  split at w0
  · rename_i j hj
    obtain ⟨hm, w0⟩ := w0
    obtain ⟨v, hv, hr⟩ := s.slot i _ hj
    have hr : DR K C G v (.fn j) := hr
    cases hr
    exact (h j hm).run pins s0 σ H Q I ⟨hv, o_call σ H Q ⟨sl, rt, ρ, fps, G, k, s, xf, w0, q⟩⟩
  · exact w0.elim⟩
/-- the slot i holds data of one of the classes cs -/
def wMethD (cs : List Nat) (tab : Nat → CW) (i : Nat) (w : WA) : WO := fun sl rt k => match sl.sl[i]? with
  | some (some (.dat (.obj c _))) => c ∈ cs ∧ wMethA c (tab c) (wVar i) w sl rt k
  | _ => False
theorem wo_methD {cs : List Nat} {tab : Nat → CW} {i : Nat} {w : WA} (h : ∀ c ∈ cs, PE X e (tO K C U (wMethA c (tab c) (wVar i) w))) : PE X e (tO K C U (wMethD cs tab i w)) := ⟨fun pins s0 σ H Q I ⟨sl, rt, ρ, fps, G, k, s, xf, w0, q⟩ => by
  unfold wMethD at w0
  split at w0
  · obtain ⟨hm, w0⟩ := w0
    exact (h _ hm).run pins s0 σ H Q I ⟨sl, rt, ρ, fps, G, k, s, xf, w0, q⟩
  · exact w0.elim⟩
/-! ### isinstance of a built-in type -/
def D.tyN : D → Option String
  | .non => some "NoneType"
  | .bool _ => some "bool"
  | .int _ => some "int"
  | .str _ => some "str"
  | .lst _ => some "list"
  | .tup _ => some "tuple"
  | .tpx _ => some "tuple"
  | .fzl _ => some "list"
  | _ => none
theorem tyN_ok {d : D} {v : V} {n : String} (e : Ex G H) (h : D.tyN d = some n) (r : DR K C G v d) : TyX K H v (.type n) := by
  unfold D.tyN at h
  split at h
  all_goals first
    | cases h; cases r; exact .base .non
    | cases h; cases r; exact .base (.bl _)
    | cases h; cases r; exact .base (.int _)
    | cases h; cases r; exact .base (.str _)
    | (cases h; cases r with
       | lst hG _ => exact .base (.lst (e _ _ hG)))
    | (cases h; cases r with
       | fzl hG _ => exact .base (.frz (e _ _ hG)))
    | (cases h; cases r with
       | tpx hG _ _ => exact .fTuple (e _ _ hG))
    | (cases h; cases r with
       | tup hS _ =>
         rcases ex_t e hS with hr | ⟨o, its, n, h1, h2, _⟩
         · rcases hr with h | ⟨o, h⟩
           · exact .base (.tup h)
           · exact .fTuple h
         · exact .kTuple h1 h2)
    | cases h
def wIsT (n : String) (w : WE) : WE := fun sl rt k => w sl rt fun x rt1 => match x with
  | .dat d => match D.tyN d with
    | some m => ∃ b, kitB m n = some b ∧ k (.dat (.bool b)) rt1
    | none => False
  | _ => False
theorem e_isT {n : String} {w : WE} : ∀ σ H Q, tE K C U (wIsT n w) σ H Q → tCB (rIsi K) (tCons (tE K C U w) (tCons (tC (.ty n)) tNil)) σ H Q := fun σ H Q ⟨sl, rt, ρ, fps, G, k, s, xf, w, q⟩ =>
  ⟨sl, rt, ρ, fps, G, _, s, xf, w, fun x rt1 fps1 G1 H1 v r1 n1 v1 w1 => by
    split at w1
    · rename_i d
      split at w1
      · rename_i m hm
        obtain ⟨b, hb, w1⟩ := w1
        exact ⟨v, _, _, _, b, rfl, .ty n, tyN_ok r1.sub hm v1, kit_ty hb, q (.dat (.bool b)) rt1 fps1 G1 H1 _ r1 n1 (DR.bool b) w1⟩
      · exact w1.elim
    · exact w1.elim⟩
theorem we_isT {n : String} {w : WE} (h : PE X e (tCB (rIsi K) (tCons (tE K C U w) (tCons (tC (.ty n)) tNil)))) : PE X e (tE K C U (wIsT n w)) := pe_imp h e_isT
/-! ### one class is caught -/
/-- try: u, except the class c0 as i: suite -/
def wTryA (c0 i : Nat) (suite : Addr → Addr → WS) (u : WS) : WS := fun Z sl rt => u { Z with ex := fun x sl1 rt1 => x.c = c0 ∧ ∀ a dd, suite a dd { Z with nx := fun sl2 rt2 => Z.nx (sl2.set i none) rt2, bk := fun sl2 rt2 => Z.bk (sl2.set i none) rt2, ct := fun sl2 rt2 => Z.ct (sl2.set i none) rt2, ex := fun _ _ _ => False } (sl1.set i (some (.dat (.exn a dd c0 x.ds)))) rt1 } sl rt
/-- try: u, except the class c0: suite -/
def wTryO (c0 : Nat) (suite : WS) (u : WS) : WS := fun Z sl rt => u { Z with ex := fun x sl1 rt1 => x.c = c0 ∧ suite { Z with ex := fun _ _ _ => False } sl1 rt1 } sl rt
abbrev tSu1 (K : PySem.W.Frag) (C : Cs) (c0 : Nat) (suite : Addr → Addr → WS) : Addr → Value → Option Addr → TS := fun a cls d D σ H => ∃ dd, cls = .ref (C.at_ c0) ∧ d = some dd ∧ tS K C (fun _ _ _ _ => False) (suite a dd) D σ H
theorem s_tryA {c0 i : Nat} {suite : Addr → Addr → WS} {u : WS} {cv : Value} (hM : PySem.W.exmOne K (.ref (C.at_ c0)) cv = some true) :
    ∀ D σ H, tS K C U (wTryA c0 i suite u) D σ H → tS K C (wAs K cv i (tSu1 K C c0 suite) U D) u D σ H := fun D σ H ⟨Z, sl, rt, ρ, fps, G, s, w, f⟩ => by
  refine ⟨{ Z with ex := fun x sl1 rt1 => x.c = c0 ∧ ∀ a dd, suite a dd { Z with nx := fun sl2 rt2 => Z.nx (sl2.set i none) rt2, bk := fun sl2 rt2 => Z.bk (sl2.set i none) rt2, ct := fun sl2 rt2 => Z.ct (sl2.set i none) rt2, ex := fun _ _ _ => False } (sl1.set i (some (.dat (.exn a dd c0 x.ds)))) rt1 }, sl, rt, ρ, fps, G, s, w, ⟨f.nx, f.rt, f.ro, f.bk, f.ct, fun x sl1 rt1 σ1 ρ1 fps1 G1 H1 cls d s1 n1 p1 xr hx => ?_⟩⟩
  obtain ⟨rfl, dd, fs, rfl, hd0, hd1, hn, hr⟩ := xr
  obtain ⟨hc, hx⟩ := hx
  refine ⟨true, by rw [hc]; exact hM, fun _ a ha => ?_, fun z => nomatch z⟩
  obtain ⟨G2, e2, hG2, s2, hk⟩ := s1.xd hd1
  have kp : ∀ l o, H l = some o → l ∉ fps.flatten → H1 l = some o ∧ (G l = none → G2 l = none) := fun l o hl hf => by
    obtain ⟨k1, k2⟩ := n1.keep l o hl hf
    refine ⟨k1, fun g => hk l (k2 g) fun z => ?_⟩
    rw [z, hd0] at hl
    cases hl
  have n2 : Nx fps.flatten G H G2 H1 fps1.flatten := ⟨n1.g.trans e2, kp, n1.dom, n1.new, n1.idn⟩
  rw [hc] at hn
  refine ⟨dd, by rw [hc], rfl, { Z with nx := fun sl2 rt2 => Z.nx (sl2.set i none) rt2, bk := fun sl2 rt2 => Z.bk (sl2.set i none) rt2, ct := fun sl2 rt2 => Z.ct (sl2.set i none) rt2, ex := fun _ _ _ => False }, _, rt1, ρ1, fps1, G2, s2.set (i := i) (x := .dat (.exn a dd c0 x.ds)) (DR.exn hG2 hn (DRs.up e2 _ _ hr)), hx a dd, ?_⟩
  exact ⟨fun sl' rt' σ' ρ' fps' G' H' s' n' p' h => f.nx _ rt' _ ρ' fps' G' H' (s'.unset i) (n2.trans n') (p1.trans p') h, fun v rt' ρ' fps' G' H' vv r' n' p' vr h => f.rt v rt' ρ' fps' G' H' vv r' (n2.trans n') (p1.trans p') vr h,
    fun t rt' ρ' fps' fp G' H' v r' n' p' o new h => f.ro t rt' ρ' fps' fp G' H' v r' (n2.trans n') (p1.trans p') o (fun l hl => (new l hl).elim (fun y => n2.new l y) fun y => .inr (n2.dom l y)) h,
    fun sl' rt' σ' ρ' fps' G' H' s' n' p' h => f.bk _ rt' _ ρ' fps' G' H' (s'.unset i) (n2.trans n') (p1.trans p') h, fun sl' rt' σ' ρ' fps' G' H' s' n' p' h => f.ct _ rt' _ ρ' fps' G' H' (s'.unset i) (n2.trans n') (p1.trans p') h, Xf.no⟩
theorem ws_tryA {c0 i : Nat} {n cn : Str} {suite : Addr → Addr → WS} {u : WS} {cv : Value} {body sts : List Stmt} {b₀ : Stmt} {np : Pos} (hM : PySem.W.exmOne X.K (.ref (C.at_ c0)) cv = some true)
    (hs : X.stack = X.env :: X.outer) (hf : X.env.frame = some X.env.locals) (hN : X.N.Nodup) (hi : X.N[i]? = some n) (hln : X.env.kindOf n = some .local) (hc : Names X cn cv) (tk : L2N.Takes X U)
    (hb : ∀ (W : WX) (pn : List (Addr × Obj)) (xe : Value → Shared → Prop), L2N.Takes (X.tr pn xe) W → PassesOwn (model X.prog X.w) X.A X.env xe → PSs (X.tr pn xe) body (tS X.K C W u))
    (hsu : ∀ (a : Addr) (oe : Obj) (dd : Addr) (pn : List (Addr × Obj)), L2N.Zn (.ref (C.at_ c0)) (some dd) oe → (∃ vs, oe.data = .fields vs) → PSs (X.suite a ((a, oe) :: pn)) (b₀ :: sts) (tS X.K C (fun _ _ _ _ => False) (suite a dd))) :
    PS X (.Try body [.ExceptHandler (some (.Name cn np)) (some n) (b₀ :: sts) pos'] [] [] pos) (tS X.K C U (wTryA c0 i suite u)) :=
  ps_imp (L2N.ps_try_as (tb := fun W => tS X.K C W u) (ts := tSu1 X.K C c0 suite) hs hf hN hi hln hc tk hb (fun a oe cls d pn hz hv => ⟨fun pins s σ H D I ⟨dd, h1, h2, w⟩ => (hsu a oe dd pn (by rw [← h1, ← h2]; exact hz) hv).run pins s σ H D I w⟩)) (s_tryA hM)
theorem s_tryO {c0 : Nat} {suite u : WS} {cv : Value} (hM : PySem.W.exmOne K (.ref (C.at_ c0)) cv = some true) :
    ∀ D σ H, tS K C U (wTryO c0 suite u) D σ H → tS K C (wMany K U D [(cv, fun _ _ _ => tS K C (fun _ _ _ _ => False) suite)]) u D σ H := fun D σ H ⟨Z, sl, rt, ρ, fps, G, s, w, f⟩ => by
  refine ⟨{ Z with ex := fun x sl1 rt1 => x.c = c0 ∧ suite { Z with ex := fun _ _ _ => False } sl1 rt1 }, sl, rt, ρ, fps, G, s, w, ⟨f.nx, f.rt, f.ro, f.bk, f.ct, fun x sl1 rt1 σ1 ρ1 fps1 G1 H1 cls d s1 n1 p1 xr hx => ?_⟩⟩
  obtain ⟨rfl, dd, fs, rfl, hd0, hd1, hn, hr⟩ := xr
  obtain ⟨hc, hx⟩ := hx
  refine ⟨true, by rw [hc]; exact hM, fun _ a ha => ?_, fun z => nomatch z⟩
  refine ⟨{ Z with ex := fun _ _ _ => False }, sl1, rt1, ρ1, fps1, G1, s1, hx, ?_⟩
  exact ⟨fun sl' rt' σ' ρ' fps' G' H' s' n' p' h => f.nx _ rt' _ ρ' fps' G' H' s' (n1.trans n') (p1.trans p') h, fun v rt' ρ' fps' G' H' vv r' n' p' vr h => f.rt v rt' ρ' fps' G' H' vv r' (n1.trans n') (p1.trans p') vr h,
    fun t rt' ρ' fps' fp G' H' v r' n' p' o new h => f.ro t rt' ρ' fps' fp G' H' v r' (n1.trans n') (p1.trans p') o (fun l hl => (new l hl).elim (fun y => n1.new l y) fun y => .inr (n1.dom l y)) h,
    fun sl' rt' σ' ρ' fps' G' H' s' n' p' h => f.bk _ rt' _ ρ' fps' G' H' s' (n1.trans n') (p1.trans p') h, fun sl' rt' σ' ρ' fps' G' H' s' n' p' h => f.ct _ rt' _ ρ' fps' G' H' s' (n1.trans n') (p1.trans p') h, Xf.no⟩
theorem ws_tryO {c0 : Nat} {cn : Str} {suite u : WS} {cv : Value} {body sts : List Stmt} {b₀ : Stmt} {np : Pos} (hM : PySem.W.exmOne X.K (.ref (C.at_ c0)) cv = some true)
    (hs : X.stack = X.env :: X.outer) (hf : X.env.frame = some X.env.locals) (hc : Names X cn cv) (tk : L2N.Takes X U)
    (hb : ∀ (W : WX) (pn : List (Addr × Obj)) (xe : Value → Shared → Prop), L2N.Takes (X.tr pn xe) W → PassesOwn (model X.prog X.w) X.A X.env xe → PSs (X.tr pn xe) body (tS X.K C W u))
    (hsu : ∀ (a : Addr) (oe : Obj) (cls : Value) (d : Option Addr) (pn : List (Addr × Obj)), L2N.Zn cls d oe → (∃ vs, oe.data = .fields vs) → PSs (X.suite a ((a, oe) :: pn)) (b₀ :: sts) (tS X.K C (fun _ _ _ _ => False) suite)) :
    PS X (.Try body [.ExceptHandler (some (.Name cn np)) none (b₀ :: sts) pos'] [] [] pos) (tS X.K C U (wTryO c0 suite u)) :=
  ps_imp (L2N.ps_try_many (tb := fun W => tS X.K C W u) hs hf tk hb (.cons hc hsu .nil)) (s_tryO hM)
theorem all_nil {P : Nat → Prop} : ∀ j ∈ ([] : List Nat), P j := fun _ h => (nomatch h)
theorem all_cons {P : Nat → Prop} {a : Nat} {l : List Nat} (h : P a) (r : ∀ j ∈ l, P j) : ∀ j ∈ a :: l, P j := fun j hj => by
  rcases List.mem_cons.mp hj with z | z
  · rw [z]; exact h
  · exact r j z
theorem unH {k : Nat} {A : Around} (r : L2H.RoomH k A) : A.units + 64 < cLine := by have := r.un; omega
theorem un1 {A : Around} (r : A.units + 64 < cLine) : A.units + 1 < cLine := by omega
end
end Wv
end

section
set_option linter.all false
set_option maxRecDepth 100000
set_option maxHeartbeats 4000000
namespace Wv
open PySem PySem.Spec PyProof.Rows L2 Evl
variable {P : Program} {w0 : World} {K : PySem.W.Frag} {C : Cs} {U : UX}
/-! ### isinstance of a list that is owned -/
def wIsL (n : String) (w : WE) : WE := fun sl rt k => w sl rt fun x rt1 => ∃ ds b, lstOf x rt1 = some ds ∧ kitB "list" n = some b ∧ k (.dat (.bool b)) rt1
theorem e_isL {n : String} {w : WE} : ∀ σ H Q, tE K C U (wIsL n w) σ H Q → tCB (rIsi K) (tCons (tE K C U w) (tCons (tC (.ty n)) tNil)) σ H Q := fun σ H Q ⟨sl, rt, ρ, fps, G, k, s, xf, w, q⟩ =>
  ⟨sl, rt, ρ, fps, G, _, s, xf, w, fun x rt1 fps1 G1 H1 v r1 n1 v1 w1 => by
    obtain ⟨ds, b, hl, hb, w1⟩ := w1
    obtain ⟨a, xs, rfl, hH, _⟩ := r1.lstOf hl v1
    exact ⟨_, _, _, _, b, rfl, .ty n, .base (.lst hH), kit_ty hb, q (.dat (.bool b)) rt1 fps1 G1 H1 _ r1 n1 (DR.bool b) w1⟩⟩
theorem we_isL {X : Cx} {e : Expr} {n : String} {w : WE} (h : PE X e (tCB (rIsi K) (tCons (tE K C U w) (tCons (tC (.ty n)) tNil)))) : PE X e (tE K C U (wIsL n w)) := pe_imp h e_isL
end Wv
end

section
set_option linter.all false
set_option maxRecDepth 100000
set_option maxHeartbeats 4000000
namespace Wv
open PySem PySem.Spec PyProof.Rows L2 Evl
variable {P : Program} {w0 : World} {K : PySem.W.Frag} {C : Cs} {U : UX} {G H : Hp}
/-! ### the place of a text in a written tuple of texts -/
theorem DRs.texts : ∀ {ss : List Str} {vs : List V}, DRs K C G vs (ss.map D.str) → vs = ss.map V.str
  | [], _, h => by cases h; rfl
  | s :: ss, _, h => by
    cases h with
    | cons a r =>
      cases a
      rw [DRs.texts r]
      rfl
def rTIx (K : PySem.W.Frag) : V → List V → Hp → VK → Prop := fun x xs H Q => ∃ p, ∃ ys : List Str, ∃ z j, x = .ref p ∧ xs = [.str z] ∧ SqT K H p (ys.map V.str) ∧ ys[j]? = some z ∧ (∀ m, m < j → ys[m]? ≠ some z) ∧ Q (.int (j : Nat)) H
def wIxG (ss : List Str) (w : WE) : WE := fun sl rt k => w sl rt fun x rt1 => match x with
  | .dat (.str z) => ∃ j : Nat, ss[j]? = some z ∧ (∀ m, m < j → ss[m]? ≠ some z) ∧ k (.dat (.int (j : Nat))) rt1
  | _ => False
theorem e_ixG {ss : List Str} {p : Addr} {w : WE} (ho : ∃ o, K.lookup p = some o ∧ o.cls = .type "tuple" ∧ o.dict = none) (hd : ∀ (C : Cs) (G : Hp), DR K C G (.ref p) (.tup (ss.map D.str))) :
    ∀ σ H Q, tE K C U (wIxG ss w) σ H Q → tBM K "tuple" (rTIx K) (tC (.ref p)) (tCons (tE K C U w) tNil) σ H Q := fun σ H Q ⟨sl, rt, ρ, fps, G, k, s, xf, w, q⟩ =>
  ⟨.inr (.inl ⟨rfl, ho⟩), sl, rt, ρ, fps, G, _, s, xf, w, fun x rt1 fps1 G1 H1 v r1 n1 v1 w1 => by
    split at w1
    · rename_i z
      obtain ⟨j, hj, hn, w1⟩ := w1
      cases v1
      have h1 := hd C G1
      cases h1 with
      | tup hS hr =>
        rw [DRs.texts hr] at hS
        exact ⟨p, ss, z, j, rfl, rfl, ex_t r1.sub hS, hj, hn, q (.dat (.int (j : Nat))) rt1 fps1 G1 H1 _ r1 n1 (DR.int _) w1⟩
    · exact w1.elim⟩
theorem we_ixG {X : Cx} {e : Expr} {ss : List Str} {p : Addr} {w : WE} (ho : ∃ o, X.K.lookup p = some o ∧ o.cls = .type "tuple" ∧ o.dict = none) (hd : ∀ (C : Cs) (G : Hp), DR X.K C G (.ref p) (.tup (ss.map D.str)))
    (h : PE X e (tBM X.K "tuple" (rTIx X.K) (tC (.ref p)) (tCons (tE X.K C U w) tNil))) : PE X e (tE X.K C U (wIxG ss w)) := pe_imp h (e_ixG ho hd)
end Wv
end

section
set_option Elab.async false
set_option linter.all false
set_option maxRecDepth 100000
set_option maxHeartbeats 4000000
namespace Wv
open PySem PySem.Spec PyProof.Rows L2 Evl
section
variable {K : PySem.W.Frag} {C : Cs} {U : UX} {G H G' H' G1 H1 G2 H2 : Hp} {sl sl' : Slots} {rt rt' rt2 : Roots} {σ : L2.St} {ρ ρ' ρ1 ρ2 : List Addr} {fps fps' fps1 fps2 : List (List Addr)}
variable {X : Cx} {CX : CXT} {a b c e o : Expr} {es rest : List Expr} {wa wb wc : WE} {pos p apos cpos : Pos} {Z : WEnds} {E : L2.St → XK} {st : Stmt} {k : Nat} {f Ca : Addr} {fd : FuncData} {ps : List Str} {sp : Sp} {x m name : Str} {ta to : TE} {t : TA} {ds : List Value}
/-! ### a def whose new roots live on -/
abbrev CWR := List Val → (Val → Roots → Prop) → Prop
def isDat : Val → Bool
  | .dat _ => true
  | .ref _ _ => false
variable (K C)
def spR (cw : CWR) : Sp := fun vs H Q _ => ∃ G args k, RSt K C [] [] [] G H ∧ VRs K C G H [] args vs ∧ cw args k ∧
  ∀ x rt' ρ' fps' G' H' v, RSt K C rt' ρ' fps' G' H' → Nx [] G H G' H' fps'.flatten → VR K C G' H' ρ' x v → k x rt' → Q v H'
variable {K C}
def cwOfR (m n : Nat) (w : WS) : CWR := fun args k => args.length = m ∧ w { nx := fun _ _ => False, rt := fun x rt' => k x rt' } (args.map some ++ List.replicate n none) []
theorem w_enterR {N ps : List Str} {n : Nat} {body : WS} {vs : List V} {Q : VK} {E : XK} (hn : N.length = ps.length + n) (h : spR K C (cwOfR ps.length n body) vs H Q E) : tS K C (fun c d _ H => E c d H) body { nx := fun _ H' => Q .non H', rt := Q } (L2.start N vs) H := by
  obtain ⟨G, args, k', r, va, ⟨h1, w⟩, q⟩ := h
  refine ⟨_, _, [], [], [], G, ⟨r, ?_, ?_⟩, w, ⟨?_, ?_, ?_, ?_, ?_, ?_⟩⟩
  · unfold L2.start
    simp only [List.length_append, List.length_map, List.length_replicate]
    rw [va.len, h1]
    omega
  · intro i x e
    by_cases hi : i < args.length
    · rw [List.getElem?_append_left (by rw [List.length_map]; exact hi), List.getElem?_map] at e
      cases e2 : args[i]? with
      | none => rw [e2] at e; cases e
      | some y =>
        rw [e2] at e
        cases e
        obtain ⟨v, h2, h3⟩ := va.get e2
        refine ⟨v, ?_, h3⟩
        unfold L2.start
        rw [List.getElem?_append_left (by rw [List.length_map, va.len]; exact hi), List.getElem?_map, h2]
        rfl
    · rw [List.getElem?_append_right (by rw [List.length_map]; omega), List.getElem?_replicate] at e
      split at e <;> cases e
  · exact fun _ _ _ _ _ _ _ _ _ _ h => h.elim
  · intro x rt' ρ' fps' G' H' v s' n' p' vr h
    exact q x rt' ρ' fps' G' H' v s' n' vr h
  · exact fun _ _ _ _ _ _ _ _ _ _ _ _ _ h => h.elim
  · exact fun _ _ _ _ _ _ _ _ _ _ h => h.elim
  · exact fun _ _ _ _ _ _ _ _ _ _ h => h.elim
  · exact Xf.no
theorem spR_len {ps : List Str} {n : Nat} {body : WS} {vs : List V} {Q : VK} {E : XK} (h : spR K C (cwOfR ps.length n body) vs H Q E) : vs.length = ps.length := by
  obtain ⟨G, args, k, r, v, ⟨h1, _⟩, _⟩ := h
  rw [v.len, h1]
theorem ok_WR {P : Program} {w : World} {mg : Str → Option Value} {base : Heap} {x qual : Str} {st : Stmt} {f : Addr} {fd : FuncData} {N ps : List Str} {k n : Nat} {body : WS}
    (F : Fun K x qual st f fd) (S : FnScope N ps (defScope st)) (hn : N.length = ps.length + n)
    (der : ∀ (cdv : Value) (A : Around) (outer : List Env) (s : Shared) (H : Hp) (E : XK), Room k (A.deeper (envOfC qual (defScope st) s.heap.objs.size f cdv)) → L2N.Takes (cxOf (L2N.CX P w) P w K mg base N qual (defScope st) f cdv A outer s H E) (fun c d _ H => E c d H) →
      PSs (cxOf (L2N.CX P w) P w K mg base N qual (defScope st) f cdv A outer s H E) (defBody st) (tS K C (fun c d _ H => E c d H) body)) :
    FnOk P w K mg base (L2N.CX P w) (k + 1) f fd ps (spR K C (cwOfR ps.length n body)) := by
  obtain ⟨oc, od, kV, doc, pm, an, cdv, ct, osl, rfl, lk, hcd⟩ := F.ex
  exact fn_of lk hcd S (fun vs H Q E h => spR_len h) fun A outer s H vs Q E hr h => ⟨_, der cdv A outer s H E hr (L2N.takes_of rfl rfl rfl rfl), w_enterR hn h⟩
theorem Rts.append : ∀ {rt : Roots} {ρ : List Addr} {fps : List (List Addr)}, Rts K C G H rt ρ fps → Rts K C G H rt2 ρ2 fps2 → Rts K C G H (rt ++ rt2) (ρ ++ ρ2) (fps ++ fps2)
  | _, _, _, .nil, h => h
  | _, _, _, .cons h r, h2 => .cons h (Rts.append r h2)
theorem RSt.join (r : RSt K C rt ρ fps G H) (r2 : RSt K C rt2 ρ2 fps2 G2 H2) (n : Nx [] G H G2 H2 fps2.flatten) : RSt K C (rt ++ rt2) (ρ ++ ρ2) (fps ++ fps2) G2 H2 ∧ Nx fps.flatten G H G2 H2 (fps ++ fps2).flatten := by
  have kp : ∀ a ∈ fps.flatten, H2 a = H a ∧ G2 a = none ∧ H a ≠ none := fun a ha => by
    have hn := r.root.inH a ha
    cases z : H a with
    | none => exact absurd z hn
    | some o =>
      obtain ⟨k1, k2⟩ := n.keep a o z (fun h => nomatch h)
      exact ⟨k1, k2 (r.fr a ha), fun h => nomatch h⟩
  have nw : ∀ a ∈ fps2.flatten, H a = none := fun a ha => by
    rcases n.new a ha with z | z
    · cases z
    · exact z
  refine ⟨⟨r2.sub, Rts.append (Rts.stay n.g r.root fun a ha => (kp a ha).1) r2.root, ?_, ?_⟩, ⟨n.g, fun l o h z => n.keep l o h (fun y => nomatch y), n.dom, fun l hl => ?_, n.idn⟩⟩
  · rw [List.flatten_append]
    exact List.nodup_append.mpr ⟨r.nd, r2.nd, fun a ha b hb e => (kp a ha).2.2 (by rw [e]; exact nw b hb)⟩
  · intro a ha
    rw [List.flatten_append] at ha
    rcases List.mem_append.mp ha with z | z
    · exact (kp a z).2.1
    · exact r2.fr a z
  · rw [List.flatten_append] at hl
    rcases List.mem_append.mp hl with z | z
    · exact .inl z
    · exact .inr (nw l z)
theorem VRs.allD : ∀ {xs : List Val} {vs : List V}, VRs K C G H ρ xs vs → xs.all isDat = true → VRs K C G H ρ' xs vs
  | _, _, .nil, _ => .nil
  | x :: xs, _, .cons h r, e => by
    simp only [List.all_cons, Bool.and_eq_true] at e
    cases x with
    | dat d => exact .cons h (VRs.allD r e.2)
    | ref _ _ => cases e.1
/-- x = f(..), f's new roots behind the caller's -/
def wAsgR (i : Nat) (cw : CWR) (w : WA) : WS := fun Z sl rt => w ⟨sl, Z.ex⟩ rt fun xs rt1 => xs.all isDat = true ∧ cw xs fun x rt2 => match x with
  | .dat d => Z.nx (sl.set i (some (.dat d))) (rt1 ++ rt2)
  | _ => False
theorem s_asgR {i : Nat} {cw : CWR} {w : WA} : ∀ D σ H, tS K C U (wAsgR i cw w) D σ H → tAsg (tCallS (spR K C cw) (fun σ cls d H => U cls d σ H) (tA K C U w)) (gName i) D σ H := fun D σ H ⟨Z, sl, rt, ρ, fps, G, s, w, f⟩ =>
  ⟨⟨sl, Z.ex⟩, rt, ρ, fps, G, _, s, f.xf, w, fun xs rt1 fps1 G1 H1 vs r1 n1 v1 ⟨hd, w1⟩ =>
    ⟨G1, xs, _, ⟨r1.sub, .nil, List.nodup_nil, fun _ h => nomatch h⟩, v1.allD hd, w1, fun x rt' ρ' fps' G' H' v r' n' vr k => by
      cases x with
      | ref _ _ => exact k.elim
      | dat d =>
        obtain ⟨r3, n3⟩ := r1.join r' n'
        have s3 := s.step r3 (n1.trans n3) (Pre.app ρ ρ')
        exact f.nx _ _ _ (ρ ++ ρ') (fps1 ++ fps') G' H' (s3.set (x := .dat d) vr) (n1.trans n3) (Pre.app ρ ρ') k⟩⟩
theorem ws_asgR {i : Nat} {cw : CWR} {w : WA} (h : PS X st (tAsg (tCallS (spR K C cw) (fun σ cls d H => U cls d σ H) (tA K C U w)) (gName i))) : PS X st (tS K C U (wAsgR i cw w)) := ps_imp h s_asgR
/-! ### f(..) of data that holds the place of a root -/
theorem rdd_dat : ∀ (xs : List Val) (rs : List Nat), xs.all isDat = true → rdd rs xs = rs
  | [], _, _ => rfl
  | .dat d :: xs, rs, h => rdd_dat xs rs (by simpa [isDat] using h)
  | .ref _ _ :: xs, _, h => by simp [isDat] at h
def wCallB (cw : CW) (w : WA) : WO := fun sl rt k => w sl rt fun xs rt1 => xs.all isDat = true ∧ ∃ r t, rt1[r]? = some t ∧ t.isD = false ∧ cw xs [t] (fun u ts' => k u (putR rt1 [(r, [])] ts')) fun _ _ => False
theorem o_callB {cw : CW} {w : WA} : ∀ σ H Q, tO K C U (wCallB cw w) σ H Q → tCallS (spW K C cw) (fun σ cls d H => U cls d σ H) (tA K C U w) σ H Q := fun σ H Q ⟨sl, rt, ρ, fps, G, k, s, xf, w, q⟩ =>
  ⟨sl, rt, ρ, fps, G, _, s, xf, w, fun xs rt1 fps1 G1 H1 vs r1 n1 v1 ⟨hd, r, t, h1, h2, w1⟩ => by
    obtain ⟨a, L, fu, R, z1, z2, _, _⟩ := r1.root.split h1
    have e1 : plc (.ref r [] :: xs) = [(r, [])] := by
      show (rdd [r] xs).map _ = _
      rw [rdd_dat xs [r] hd]
      rfl
    have v2 : VRs K C G1 H1 ρ (.ref r [] :: xs) (.ref a :: vs) := .cons ⟨a, z1, rfl, z2.nodeB h2⟩ v1
    have g1 : getR rt1 (plc (.ref r [] :: xs)) = some [t] := by
      rw [e1]
      have : tatN rt1 r [] = some t := by
        unfold tatN
        rw [h1]
        rfl
      simp only [getR, this]
    have d1 : dst (plc (.ref r [] :: xs)) = true := by
      rw [e1]
      rfl
    obtain ⟨bs, fpsc, b1, b2, b3, b4⟩ := borrowed r1 v2 d1 g1
    rw [e1] at b4
    have e2 : ren (.ref r [] :: xs) = .ref 0 [] :: xs := by
      have : ∀ ys : List Val, ys.all isDat = true → ys.map (renV [r]) = ys := by
        intro ys
        induction ys with
        | nil => exact fun _ => rfl
        | cons y ys ih =>
          intro h
          simp only [List.all_cons, Bool.and_eq_true] at h
          cases y with
          | dat d => rw [List.map_cons, ih h.2]; rfl
          | ref _ _ => cases h.1
      show (Val.ref r [] :: xs).map (renV (rdd [r] xs)) = _
      rw [rdd_dat xs [r] hd, List.map_cons, this xs hd]
      show Val.ref (List.idxOf r [r]) [] :: xs = _
      simp
    rw [e2] at b2
    cases b2 with
    | cons _ b2 =>
      refine ⟨G1, bs, fpsc, xs, [t], _, _, b1, b2, w1, ?_, fun _ _ _ _ _ _ _ _ _ _ h => h.elim⟩
      intro u ts' fpsc' fp G' H' v r' n' o' new hk
      obtain ⟨fps', y1, y2, y3⟩ := b4 ts' fpsc' G' H' r' n'
      exact q u _ fps' fp G' H' v y1 (n1.trans y2) ⟨o'.tr, o'.nd, y3 fp o'.ap new, o'.fr⟩ (fun a ha => (new a ha).elim (fun z => n1.new a (b3 a z)) fun z => .inr (n1.dom a z)) hk⟩
theorem wo_callB {cw : CW} {w : WA} (h : PE X e (tCallS (spW K C cw) (fun σ cls d H => U cls d σ H) (tA K C U w))) : PE X e (tO K C U (wCallB cw w)) := pe_imp h o_callB
end
end Wv
end

section
set_option linter.all false
set_option maxRecDepth 100000
namespace Bits
open PySem
theorem nat_step (x k : Nat) : x % 2 ^ (k + 1) = x % 2 ^ k + 2 ^ k * (x / 2 ^ k % 2) := by
  rw [Nat.pow_succ, Nat.mod_mul]
theorem bit_and1 (a b k : Nat) : (a &&& b) / 2 ^ k % 2 = (a / 2 ^ k % 2) * (b / 2 ^ k % 2) := by
  have h := Nat.testBit_and a b k
  simp only [Nat.testBit, Nat.shiftRight_eq_div_pow, Nat.one_and_eq_mod_two] at h
  rcases Nat.mod_two_eq_zero_or_one (a / 2 ^ k) with h1 | h1 <;> rcases Nat.mod_two_eq_zero_or_one (b / 2 ^ k) with h2 | h2 <;> rcases Nat.mod_two_eq_zero_or_one ((a &&& b) / 2 ^ k) with h3 | h3 <;> simp [h1, h2, h3] at h ⊢
theorem bit_or1 (a b k : Nat) : (a ||| b) / 2 ^ k % 2 = max (a / 2 ^ k % 2) (b / 2 ^ k % 2) := by
  have h := Nat.testBit_or a b k
  simp only [Nat.testBit, Nat.shiftRight_eq_div_pow, Nat.one_and_eq_mod_two] at h
  rcases Nat.mod_two_eq_zero_or_one (a / 2 ^ k) with h1 | h1 <;> rcases Nat.mod_two_eq_zero_or_one (b / 2 ^ k) with h2 | h2 <;> rcases Nat.mod_two_eq_zero_or_one ((a ||| b) / 2 ^ k) with h3 | h3 <;> simp [h1, h2, h3] at h ⊢
theorem bit_xor1 (a b k : Nat) : (a ^^^ b) / 2 ^ k % 2 = if a / 2 ^ k % 2 = b / 2 ^ k % 2 then 0 else 1 := by
  have h := Nat.testBit_xor a b k
  simp only [Nat.testBit, Nat.shiftRight_eq_div_pow, Nat.one_and_eq_mod_two] at h
  rcases Nat.mod_two_eq_zero_or_one (a / 2 ^ k) with h1 | h1 <;> rcases Nat.mod_two_eq_zero_or_one (b / 2 ^ k) with h2 | h2 <;> rcases Nat.mod_two_eq_zero_or_one ((a ^^^ b) / 2 ^ k) with h3 | h3 <;> simp [h1, h2, h3] at h ⊢
theorem b_not (x : Nat) : PySem.Builtin.bitNot (x : Int) = -(x : Int) - 1 := by unfold PySem.Builtin.bitNot; omega
theorem b_and (a b : Nat) : PySem.Builtin.bitAnd (a : Int) (b : Int) = ((a &&& b : Nat) : Int) := by
  unfold PySem.Builtin.bitAnd
  rw [decide_eq_true (Int.natCast_nonneg a), decide_eq_true (Int.natCast_nonneg b)]
  rfl
theorem b_or (a b : Nat) : PySem.Builtin.bitOr (a : Int) (b : Int) = ((a ||| b : Nat) : Int) := by
  unfold PySem.Builtin.bitOr
  rw [b_not, b_not]
  unfold PySem.Builtin.bitAnd
  rw [decide_eq_false (show ¬ (0 : Int) ≤ -(a : Int) - 1 by omega), decide_eq_false (show ¬ (0 : Int) ≤ -(b : Int) - 1 by omega)]
  show PySem.Builtin.bitNot (PySem.Builtin.bitNot (((PySem.Builtin.bitNot (-(a : Int) - 1)).toNat ||| (PySem.Builtin.bitNot (-(b : Int) - 1)).toNat : Nat) : Int)) = _
  have e1 : ∀ x : Nat, (PySem.Builtin.bitNot (-(x : Int) - 1)).toNat = x := fun x => by unfold PySem.Builtin.bitNot; omega
  rw [e1, e1, b_not]
  unfold PySem.Builtin.bitNot
  omega
theorem or_xor_and : ∀ (n a b : Nat), a ≤ n → (a ||| b) = (a ^^^ b) + (a &&& b)
  | 0, a, b, h => by
    have e : a = 0 := by omega
    rw [e, Nat.zero_or, Nat.zero_xor, Nat.zero_and]
    rfl
  | n + 1, a, b, h => by
    have ih := or_xor_and n (a / 2) (b / 2) (by omega)
    have h1 := bit_and1 a b 0
    have h2 := bit_or1 a b 0
    have h3 := bit_xor1 a b 0
    simp only [Nat.pow_zero, Nat.div_one] at h1 h2 h3
    have d1 : (a &&& b) / 2 = (a / 2) &&& (b / 2) := Nat.and_div_two
    have d2 : (a ||| b) / 2 = (a / 2) ||| (b / 2) := Nat.or_div_two
    have d3 : (a ^^^ b) / 2 = (a / 2) ^^^ (b / 2) := Nat.xor_div_two
    rw [← d1, ← d2, ← d3] at ih
    rcases Nat.mod_two_eq_zero_or_one a with x | x <;> rcases Nat.mod_two_eq_zero_or_one b with y | y <;> rw [x, y] at h1 h2 h3 <;> simp (decide := true) only [Nat.max_def, if_true, if_false, Nat.mul_zero, Nat.zero_mul, Nat.mul_one] at h1 h2 h3 <;> omega
theorem b_xor (a b : Nat) : PySem.Builtin.bitXor (a : Int) (b : Int) = ((a ^^^ b : Nat) : Int) := by
  unfold PySem.Builtin.bitXor
  rw [b_or, b_and, or_xor_and a a b (Nat.le_refl a)]
  omega
theorem div_bit {a : Int} (k : Nat) {bt : Int} (ha : 0 ≤ a) (e : bt = ((2 ^ k : Nat) : Int)) : a / bt % 2 = ((a.toNat / 2 ^ k % 2 : Nat) : Int) := by
  have ea : a = ((a.toNat : Nat) : Int) := by omega
  rw [e]
  conv => lhs; rw [ea]
  rfl
theorem two_pow_le {i n : Nat} (h : i < n) : 2 ^ i ≤ 2 ^ (n - 1) := Nat.pow_le_pow_right (by decide) (by omega)
theorem bt_le {i : Nat} {bt : Int} (h : i < 16) (e : bt = ((2 ^ i : Nat) : Int)) : 1 ≤ bt ∧ bt ≤ 32768 := by
  have h1 : 2 ^ i ≤ 32768 := two_pow_le (n := 16) h
  have h2 : 0 < 2 ^ i := Nat.pow_pos (by decide)
  omega
theorem shl_step (a : Int) (i : Nat) : a * 2 ^ i % 65536 * 2 % 65536 = a * 2 ^ (i + 1) % 65536 := by
  rw [Int.pow_succ, ← Int.mul_assoc]
  generalize a * 2 ^ i = x
  omega
theorem shr_step (a : Int) (i : Nat) : a / 2 ^ i / 2 = a / 2 ^ (i + 1) := by
  rw [Int.pow_succ]
  exact Int.ediv_ediv_of_nonneg (Int.pow_nonneg (by decide))
theorem bitAnd_nn {a b : Int} (ha : 0 ≤ a) (hb : 0 ≤ b) : PySem.Builtin.bitAnd a b = ((a.toNat &&& b.toNat : Nat) : Int) := by
  have ea : a = ((a.toNat : Nat) : Int) := by omega
  have eb : b = ((b.toNat : Nat) : Int) := by omega
  conv => lhs; rw [ea, eb]
  exact b_and _ _
theorem bitOr_nn {a b : Int} (ha : 0 ≤ a) (hb : 0 ≤ b) : PySem.Builtin.bitOr a b = ((a.toNat ||| b.toNat : Nat) : Int) := by
  have ea : a = ((a.toNat : Nat) : Int) := by omega
  have eb : b = ((b.toNat : Nat) : Int) := by omega
  conv => lhs; rw [ea, eb]
  exact b_or _ _
theorem bitXor_nn {a b : Int} (ha : 0 ≤ a) (hb : 0 ≤ b) : PySem.Builtin.bitXor a b = ((a.toNat ^^^ b.toNat : Nat) : Int) := by
  have ea : a = ((a.toNat : Nat) : Int) := by omega
  have eb : b = ((b.toNat : Nat) : Int) := by omega
  conv => lhs; rw [ea, eb]
  exact b_xor _ _
theorem w_and {a b : Int} (ha : 0 ≤ a ∧ a < 65536) (hb : 0 ≤ b ∧ b < 65536) : 0 ≤ PySem.Builtin.bitAnd a b ∧ PySem.Builtin.bitAnd a b < 65536 := by
  rw [bitAnd_nn ha.1 hb.1]
  have := Nat.and_lt_two_pow (n := 16) a.toNat (show b.toNat < 2 ^ 16 by show b.toNat < 65536; omega)
  have : a.toNat &&& b.toNat < 65536 := this
  omega
theorem w_or {a b : Int} (ha : 0 ≤ a ∧ a < 65536) (hb : 0 ≤ b ∧ b < 65536) : 0 ≤ PySem.Builtin.bitOr a b ∧ PySem.Builtin.bitOr a b < 65536 := by
  rw [bitOr_nn ha.1 hb.1]
  have := Nat.or_lt_two_pow (n := 16) (x := a.toNat) (y := b.toNat) (show a.toNat < 65536 by omega) (show b.toNat < 65536 by omega)
  have : a.toNat ||| b.toNat < 65536 := this
  omega
theorem w_xor {a b : Int} (ha : 0 ≤ a ∧ a < 65536) (hb : 0 ≤ b ∧ b < 65536) : 0 ≤ PySem.Builtin.bitXor a b ∧ PySem.Builtin.bitXor a b < 65536 := by
  rw [bitXor_nn ha.1 hb.1]
  have := Nat.xor_lt_two_pow (n := 16) (x := a.toNat) (y := b.toNat) (show a.toNat < 65536 by omega) (show b.toNat < 65536 by omega)
  have : a.toNat ^^^ b.toNat < 65536 := this
  omega
/-- one bit of a word -/
theorem and_bit {e : Int} (k : Nat) (he : 0 ≤ e) : (PySem.Builtin.bitAnd e ((2 ^ k : Nat) : Int) = 0) ↔ (e / ((2 ^ k : Nat) : Int) % 2 = 0) := by
  rw [bitAnd_nn he (Int.natCast_nonneg _), div_bit k he rfl]
  have e1 : (((2 ^ k : Nat) : Int)).toNat = 2 ^ k := Int.toNat_natCast _
  rw [e1]
  have hp : 0 < 2 ^ k := Nat.pow_pos (by decide)
  constructor
  · intro q
    have q : e.toNat &&& 2 ^ k = 0 := by exact_mod_cast q
    have h := bit_and1 e.toNat (2 ^ k) k
    rw [q, Nat.div_self hp, Nat.zero_div] at h
    have h : e.toNat / 2 ^ k % 2 = 0 := by simpa using h.symm
    rw [h]
    rfl
  · intro q
    have q : e.toNat / 2 ^ k % 2 = 0 := by exact_mod_cast q
    have : e.toNat &&& 2 ^ k = 0 := by
      refine Nat.eq_of_testBit_eq fun i => ?_
      rw [Nat.testBit_and, Nat.testBit_two_pow, Nat.zero_testBit]
      by_cases z : k = i
      · subst z
        have : Nat.testBit e.toNat k = false := by
          simp only [Nat.testBit, Nat.shiftRight_eq_div_pow, Nat.one_and_eq_mod_two, q]
          rfl
        rw [this]
        rfl
      · rw [decide_eq_false z, Bool.and_false]
    rw [this]
    rfl
end Bits
end

section
set_option Elab.async false
set_option linter.all false
set_option maxRecDepth 100000
set_option maxHeartbeats 4000000
namespace K07
open PySem PySem.Spec PyProof.Rows L2 Evl Wv
def topS (i : Nat) : Stmt := PySem.Challenge.pw_merestone_k07_whole_user_mode_sees_its_p.main.body.getD i (.Pass ⟨0, 0, 0, 0⟩)
structure DefAt (K : PySem.W.Frag) (mg : Str → Option Value) (x : Str) (st : Stmt) (f : Addr) (fd : FuncData) (ps : List Str) : Prop where
  F : Fun K x x st f fd
  g : mg x = some (.ref f)
  b : Binds K fd ps []
structure MethAt (K : PySem.W.Frag) (x q : Str) (st : Stmt) (f : Addr) (fd : FuncData) (ps : List Str) : Prop where
  F : Fun K x q st f fd
  b : Binds K fd ps []
def tpOPS : D := (.tup [(.str "halt"), (.str "set"), (.str "copy"), (.str "add"), (.str "sub"), (.str "mul"), (.str "and"), (.str "or"), (.str "xor"), (.str "shl"), (.str "shr"), (.str "addi"), (.str "load"), (.str "store"), (.str "jump"), (.str "jal"), (.str "beq"), (.str "bne"), (.str "blt"), (.str "call"), (.str "getu"), (.str "putu"), (.str "gets"), (.str "puts"), (.str "until"), (.str "rest")])
def tpKERNELONLY : D := (.tup [(.str "getu"), (.str "putu"), (.str "gets"), (.str "puts"), (.str "until"), (.str "rest")])
def tbGREATEST : Str → Option D := fun z => List.lookup z [("halt", (.tup [(.int 0), (.int 0), (.int 0)])), ("set", (.tup [(.int 7), (.int 0), (.int 0)])), ("copy", (.tup [(.int 7), (.int 7), (.int 0)])), ("add", (.tup [(.int 7), (.int 7), (.int 7)])), ("sub", (.tup [(.int 7), (.int 7), (.int 7)])), ("mul", (.tup [(.int 7), (.int 7), (.int 7)])), ("and", (.tup [(.int 7), (.int 7), (.int 7)])), ("or", (.tup [(.int 7), (.int 7), (.int 7)])), ("xor", (.tup [(.int 7), (.int 7), (.int 7)])), ("shl", (.tup [(.int 7), (.int 7), (.int 15)])), ("shr", (.tup [(.int 7), (.int 7), (.int 15)])), ("addi", (.tup [(.int 7), (.int 7), (.int 15)])), ("load", (.tup [(.int 7), (.int 7), (.int 15)])), ("store", (.tup [(.int 7), (.int 7), (.int 15)])), ("jump", (.tup [(.int 7), (.int 0), (.int 0)])), ("jal", (.tup [(.int 7), (.int 7), (.int 0)])), ("beq", (.tup [(.int 7), (.int 7), (.int 15)])), ("bne", (.tup [(.int 7), (.int 7), (.int 15)])), ("blt", (.tup [(.int 7), (.int 7), (.int 15)])), ("call", (.tup [(.int 0), (.int 0), (.int 15)])), ("getu", (.tup [(.int 7), (.int 7), (.int 0)])), ("putu", (.tup [(.int 7), (.int 7), (.int 0)])), ("gets", (.tup [(.int 7), (.int 0), (.int 6)])), ("puts", (.tup [(.int 7), (.int 0), (.int 4)])), ("until", (.tup [(.int 0), (.int 0), (.int 0)])), ("rest", (.tup [(.int 0), (.int 0), (.int 0)]))]
def tbACTIONS : Str → Option D := fun z => List.lookup z [("halt", .fn 0), ("set", .fn 1), ("copy", .fn 2), ("add", .fn 3), ("sub", .fn 3), ("mul", .fn 3), ("and", .fn 3), ("or", .fn 3), ("xor", .fn 3), ("shl", .fn 4), ("shr", .fn 5), ("addi", .fn 6), ("load", .fn 7), ("store", .fn 8), ("jump", .fn 9), ("jal", .fn 10), ("beq", .fn 11), ("bne", .fn 11), ("blt", .fn 11), ("call", .fn 12)]
def fld_machine : Nat → Option Nat := fun c => match c with
  | 3 => some 0
  | 4 => some 0
  | _ => none
def fld_memory : Nat → Option Nat := fun c => match c with
  | 5 => some 0
  | _ => none
def fld_rings : Nat → Option Nat := fun c => match c with
  | 5 => some 1
  | _ => none
def fld_inputs : Nat → Option Nat := fun c => match c with
  | 5 => some 2
  | _ => none
def fld_mode : Nat → Option Nat := fun c => match c with
  | 5 => some 3
  | _ => none
def fld_pc : Nat → Option Nat := fun c => match c with
  | 5 => some 4
  | _ => none
def fld_user : Nat → Option Nat := fun c => match c with
  | 5 => some 5
  | _ => none
def fld_kernel : Nat → Option Nat := fun c => match c with
  | 5 => some 6
  | _ => none
def fld_specials : Nat → Option Nat := fun c => match c with
  | 5 => some 7
  | _ => none
def fld_tick : Nat → Option Nat := fun c => match c with
  | 5 => some 8
  | _ => none
def fld_given : Nat → Option Nat := fun c => match c with
  | 5 => some 9
  | _ => none
def fld_kernel_view : Nat → Option Nat := fun c => match c with
  | 5 => some 10
  | _ => none
def fld_user_view : Nat → Option Nat := fun c => match c with
  | 5 => some 11
  | _ => none
abbrev sTrapInit : Stmt := inClass (topS 3) 0
abbrev NTrapInit : List Str := ["self", "cause", "value"]
abbrev PTrapInit : List Str := ["self", "cause", "value"]
theorem scTrapInit : FnScope NTrapInit PTrapInit (defScope sTrapInit) := ⟨rfl, rfl, rfl, by decide +kernel, rfl, by decide +kernel, by decide +kernel⟩

abbrev sWrap : Stmt := topS 12
abbrev NWrap : List Str := ["number"]
abbrev PWrap : List Str := ["number"]
theorem scWrap : FnScope NWrap PWrap (defScope sWrap) := ⟨rfl, rfl, rfl, by decide +kernel, rfl, by decide +kernel, by decide +kernel⟩
def wdWrap : WS :=
(wRet (wMod (wVar 0) (wC (.int 65536))))
@[irreducible] def cWrap : CW := cwOf 1 0 wdWrap

abbrev sAdd : Stmt := topS 13
abbrev NAdd : List Str := ["first", "second"]
abbrev PAdd : List Str := ["first", "second"]
theorem scAdd : FnScope NAdd PAdd (defScope sAdd) := ⟨rfl, rfl, rfl, by decide +kernel, rfl, by decide +kernel, by decide +kernel⟩
def wdAdd : WS :=
(wRetO (wCall0 cWrap (wCons (wAdd (wVar 0) (wVar 1)) wNil)))
@[irreducible] def cAdd : CW := cwOf 2 0 wdAdd

abbrev sSub : Stmt := topS 14
abbrev NSub : List Str := ["first", "second"]
abbrev PSub : List Str := ["first", "second"]
theorem scSub : FnScope NSub PSub (defScope sSub) := ⟨rfl, rfl, rfl, by decide +kernel, rfl, by decide +kernel, by decide +kernel⟩
def wdSub : WS :=
(wRetO (wCall cWrap (wCons (wSub (wVar 0) (wVar 1)) wNil)))
@[irreducible] def cSub : CW := cwOf 2 0 wdSub

abbrev sMul : Stmt := topS 15
abbrev NMul : List Str := ["first", "second"]
abbrev PMul : List Str := ["first", "second"]
theorem scMul : FnScope NMul PMul (defScope sMul) := ⟨rfl, rfl, rfl, by decide +kernel, rfl, by decide +kernel, by decide +kernel⟩
def wdMul : WS :=
(wRetO (wCall cWrap (wCons (wMul (wVar 0) (wVar 1)) wNil)))
@[irreducible] def cMul : CW := cwOf 2 0 wdMul

abbrev sBitAnd : Stmt := topS 16
abbrev NBitAnd : List Str := ["first", "second"]
abbrev PBitAnd : List Str := ["first", "second"]
theorem scBitAnd : FnScope NBitAnd PBitAnd (defScope sBitAnd) := ⟨rfl, rfl, rfl, by decide +kernel, rfl, by decide +kernel, by decide +kernel⟩
def wdBitAnd : WS :=
(wRet (wAnd (wVar 0) (wVar 1)))
@[irreducible] def cBitAnd : CW := cwOf 2 0 wdBitAnd

abbrev sBitOr : Stmt := topS 17
abbrev NBitOr : List Str := ["first", "second"]
abbrev PBitOr : List Str := ["first", "second"]
theorem scBitOr : FnScope NBitOr PBitOr (defScope sBitOr) := ⟨rfl, rfl, rfl, by decide +kernel, rfl, by decide +kernel, by decide +kernel⟩
def wdBitOr : WS :=
(wRet (wOr (wVar 0) (wVar 1)))
@[irreducible] def cBitOr : CW := cwOf 2 0 wdBitOr

abbrev sBitXor : Stmt := topS 18
abbrev NBitXor : List Str := ["first", "second"]
abbrev PBitXor : List Str := ["first", "second"]
theorem scBitXor : FnScope NBitXor PBitXor (defScope sBitXor) := ⟨rfl, rfl, rfl, by decide +kernel, rfl, by decide +kernel, by decide +kernel⟩
def wdBitXor : WS :=
(wRet (wXor (wVar 0) (wVar 1)))
@[irreducible] def cBitXor : CW := cwOf 2 0 wdBitXor

abbrev sShiftLeft : Stmt := topS 19
abbrev NShiftLeft : List Str := ["word", "count"]
abbrev PShiftLeft : List Str := ["word", "count"]
theorem scShiftLeft : FnScope NShiftLeft PShiftLeft (defScope sShiftLeft) := ⟨rfl, rfl, rfl, by decide +kernel, rfl, by decide +kernel, by decide +kernel⟩
def wdShiftLeft : WS :=
(wRetO (wCall cWrap (wCons (wShl (wVar 0) (wVar 1)) wNil)))
@[irreducible] def cShiftLeft : CW := cwOf 2 0 wdShiftLeft

abbrev sShiftRight : Stmt := topS 20
abbrev NShiftRight : List Str := ["word", "count"]
abbrev PShiftRight : List Str := ["word", "count"]
theorem scShiftRight : FnScope NShiftRight PShiftRight (defScope sShiftRight) := ⟨rfl, rfl, rfl, by decide +kernel, rfl, by decide +kernel, by decide +kernel⟩
def wdShiftRight : WS :=
(wRet (wShr (wVar 0) (wVar 1)))
@[irreducible] def cShiftRight : CW := cwOf 2 0 wdShiftRight

abbrev sFieldsFit : Stmt := topS 8
abbrev NFieldsFit : List Str := ["op", "a", "b", "c", "most_a", "most_b", "most_c"]
abbrev PFieldsFit : List Str := ["op", "a", "b", "c"]
theorem scFieldsFit : FnScope NFieldsFit PFieldsFit (defScope sFieldsFit) := ⟨rfl, rfl, rfl, by decide +kernel, rfl, by decide +kernel, by decide +kernel⟩
def wdFieldsFit : WS :=
(wSeq (wAsgT (tgTup [4, 5, 6]) (wKD tbGREATEST (wVar 0)))
(wRet (wAndV (wChain sLe sLe (wC (.int 0)) (wVar 1) (wVar 4)) (wAndV (wChain sLe sLe (wC (.int 0)) (wVar 2) (wVar 5)) (wChain sLe sLe (wC (.int 0)) (wVar 3) (wVar 6))))))
@[irreducible] def cFieldsFit : CW := cwOf 4 3 wdFieldsFit

abbrev sDecode : Stmt := topS 9
abbrev NDecode : List Str := ["word", "number", "op", "a", "b", "c"]
abbrev PDecode : List Str := ["word"]
theorem scDecode : FnScope NDecode PDecode (defScope sDecode) := ⟨rfl, rfl, rfl, by decide +kernel, rfl, by decide +kernel, by decide +kernel⟩
def wdDecode : WS :=
(wSeq (wAsg 1 (wDiv (wVar 0) (wC (.int 1024))))
(wSeq (wIf (wNotT (wB (wChain sLe sLt (wC (.int 0)) (wVar 1) (wCB fLen (wCons (wC tpOPS) wNil)))))
(wRet (wC .non))
wNext)
(wSeq (wAsg 2 (wIdx (wC tpOPS) (wVar 1)))
(wSeq (wPar3 3 4 5 (wCons (wMod (wDiv (wVar 0) (wC (.int 128))) (wC (.int 8))) (wCons (wMod (wDiv (wVar 0) (wC (.int 16))) (wC (.int 8))) (wCons (wMod (wVar 0) (wC (.int 16))) wNil))))
(wSeq (wIf (wNotT (wB (wFrz (wCall cFieldsFit (wCons (wVar 2) (wCons (wVar 3) (wCons (wVar 4) (wCons (wVar 5) wNil))))))))
(wRet (wC .non))
wNext)
(wRet (wTup (wCons (wVar 2) (wCons (wVar 3) (wCons (wVar 4) (wCons (wVar 5) wNil)))))))))))
@[irreducible] def cDecode : CW := cwOf 1 5 wdDecode

abbrev sWriteInput : Stmt := topS 24
abbrev NWriteInput : List Str := ["memory", "ring", "word", "count"]
abbrev PWriteInput : List Str := ["memory", "ring", "word"]
theorem scWriteInput : FnScope NWriteInput PWriteInput (defScope sWriteInput) := ⟨rfl, rfl, rfl, by decide +kernel, rfl, by decide +kernel, by decide +kernel⟩
def wdWriteInput : WS :=
(wSeq (wAsg 3 (wIdx (wVar 0) (wVar 1)))
(wSeq (wSetI (wVar 2) (wVar 0) (wAdd (wAdd (wVar 1) (wC (.int 2))) (wMod (wVar 3) (wC (.int 14)))))
(wSetI (wFrz (wCall cAdd (wCons (wVar 3) (wCons (wC (.int 1)) wNil)))) (wVar 0) (wVar 1))))
@[irreducible] def cWriteInput : CW := cwOf 3 1 wdWriteInput

abbrev sHalt : Stmt := topS 31
abbrev NHalt : List Str := ["parts", "registers", "pc", "view"]
abbrev PHalt : List Str := ["parts", "registers", "pc", "view"]
theorem scHalt : FnScope NHalt PHalt (defScope sHalt) := ⟨rfl, rfl, rfl, by decide +kernel, rfl, by decide +kernel, by decide +kernel⟩
def wdHalt : WS :=
(wRaise 1 2 (wCons (wC (.int 5)) (wCons (wC (.int 0)) wNil)))
@[irreducible] def cHalt : CW := cwOf 4 0 wdHalt

abbrev sCall : Stmt := topS 32
abbrev NCall : List Str := ["parts", "registers", "pc", "view"]
abbrev PCall : List Str := ["parts", "registers", "pc", "view"]
theorem scCall : FnScope NCall PCall (defScope sCall) := ⟨rfl, rfl, rfl, by decide +kernel, rfl, by decide +kernel, by decide +kernel⟩
def wdCall : WS :=
(wRaise 1 2 (wCons (wC (.int 3)) (wCons (wIdx (wVar 0) (wC (.int 3))) wNil)))
@[irreducible] def cCall : CW := cwOf 4 0 wdCall

abbrev sKernelViewInit : Stmt := inClass (topS 68) 0
abbrev NKernelViewInit : List Str := ["self", "machine"]
abbrev PKernelViewInit : List Str := ["self", "machine"]
theorem scKernelViewInit : FnScope NKernelViewInit PKernelViewInit (defScope sKernelViewInit) := ⟨rfl, rfl, rfl, by decide +kernel, rfl, by decide +kernel, by decide +kernel⟩
def wdKernelViewInit : WS :=
(wSetF fld_machine (wBk (wVar 1)) (wVar 0))
@[irreducible] def cKernelViewInit : CW := cwOf 2 0 wdKernelViewInit

abbrev sKernelViewLoad : Stmt := inClass (topS 68) 2
abbrev NKernelViewLoad : List Str := ["self", "address"]
abbrev PKernelViewLoad : List Str := ["self", "address"]
theorem scKernelViewLoad : FnScope NKernelViewLoad PKernelViewLoad (defScope sKernelViewLoad) := ⟨rfl, rfl, rfl, by decide +kernel, rfl, by decide +kernel, by decide +kernel⟩
def wdKernelViewLoad : WS :=
(wSeq (wIf (wB (wBin sGe (wVar 1) (wCB fLen (wCons (wFld fld_memory (wRes (wFld fld_machine (wVar 0)))) wNil))))
(wRaise 1 2 (wCons (wC (.int 2)) (wCons (wVar 1) wNil)))
wNext)
(wRet (wIdx (wFld fld_memory (wRes (wFld fld_machine (wVar 0)))) (wVar 1))))
@[irreducible] def cKernelViewLoad : CW := cwOf 2 0 wdKernelViewLoad

abbrev sKernelViewFetch : Stmt := inClass (topS 68) 1
abbrev NKernelViewFetch : List Str := ["self", "address"]
abbrev PKernelViewFetch : List Str := ["self", "address"]
theorem scKernelViewFetch : FnScope NKernelViewFetch PKernelViewFetch (defScope sKernelViewFetch) := ⟨rfl, rfl, rfl, by decide +kernel, rfl, by decide +kernel, by decide +kernel⟩
def wdKernelViewFetch : WS :=
(wRetO (wMethA 3 cKernelViewLoad (wVar 0) (wCons (wVar 1) wNil)))
@[irreducible] def cKernelViewFetch : CW := cwOf 2 0 wdKernelViewFetch

abbrev sKernelViewStore : Stmt := inClass (topS 68) 3
abbrev NKernelViewStore : List Str := ["self", "address", "word"]
abbrev PKernelViewStore : List Str := ["self", "address", "word"]
theorem scKernelViewStore : FnScope NKernelViewStore PKernelViewStore (defScope sKernelViewStore) := ⟨rfl, rfl, rfl, by decide +kernel, rfl, by decide +kernel, by decide +kernel⟩
def wdKernelViewStore : WS :=
(wSeq (wIf (wB (wBin sGe (wVar 1) (wCB fLen (wCons (wFld fld_memory (wRes (wFld fld_machine (wVar 0)))) wNil))))
(wRaise 1 2 (wCons (wC (.int 2)) (wCons (wVar 1) wNil)))
wNext)
(wSetI (wVar 2) (wFld fld_memory (wRes (wFld fld_machine (wVar 0)))) (wVar 1)))
@[irreducible] def cKernelViewStore : CW := cwOf 3 0 wdKernelViewStore

abbrev sUserViewInit : Stmt := inClass (topS 69) 0
abbrev NUserViewInit : List Str := ["self", "machine"]
abbrev PUserViewInit : List Str := ["self", "machine"]
theorem scUserViewInit : FnScope NUserViewInit PUserViewInit (defScope sUserViewInit) := ⟨rfl, rfl, rfl, by decide +kernel, rfl, by decide +kernel, by decide +kernel⟩
def wdUserViewInit : WS :=
(wSetF fld_machine (wBk (wVar 1)) (wVar 0))
@[irreducible] def cUserViewInit : CW := cwOf 2 0 wdUserViewInit

abbrev sUserViewIndexOf : Stmt := inClass (topS 69) 1
abbrev NUserViewIndexOf : List Str := ["self", "address", "right", "memory", "place", "entry", "index"]
abbrev PUserViewIndexOf : List Str := ["self", "address", "right"]
theorem scUserViewIndexOf : FnScope NUserViewIndexOf PUserViewIndexOf (defScope sUserViewIndexOf) := ⟨rfl, rfl, rfl, by decide +kernel, rfl, by decide +kernel, by decide +kernel⟩
def wdUserViewIndexOf : WS :=
(wSeq (wAsg 3 (wFld fld_memory (wRes (wFld fld_machine (wVar 0)))))
(wSeq (wAsg 4 (wAdd (wIdx (wFld fld_specials (wRes (wFld fld_machine (wVar 0)))) (wC (.int 3))) (wDiv (wVar 1) (wC (.int 16)))))
(wSeq (wIf (wOrT (wB (wBin sGe (wVar 1) (wC (.int 128)))) (wB (wBin sGe (wVar 4) (wCB fLen (wCons (wVar 3) wNil)))))
(wRaise 1 2 (wCons (wC (.int 2)) (wCons (wVar 1) wNil)))
wNext)
(wSeq (wAsg 5 (wIdx (wVar 3) (wVar 4)))
(wSeq (wAsg 6 (wAdd (wMul (wDiv (wVar 5) (wC (.int 8))) (wC (.int 16))) (wMod (wVar 1) (wC (.int 16)))))
(wSeq (wIf (wOrT (wB (wBin sGe (wVar 6) (wCB fLen (wCons (wVar 3) wNil)))) (wB (wBin (sEq false) (wAnd (wVar 5) (wVar 2)) (wC (.int 0)))))
(wRaise 1 2 (wCons (wC (.int 2)) (wCons (wVar 1) wNil)))
wNext)
(wRet (wVar 6))))))))
@[irreducible] def cUserViewIndexOf : CW := cwOf 3 4 wdUserViewIndexOf

abbrev sUserViewFetch : Stmt := inClass (topS 69) 2
abbrev NUserViewFetch : List Str := ["self", "address"]
abbrev PUserViewFetch : List Str := ["self", "address"]
theorem scUserViewFetch : FnScope NUserViewFetch PUserViewFetch (defScope sUserViewFetch) := ⟨rfl, rfl, rfl, by decide +kernel, rfl, by decide +kernel, by decide +kernel⟩
def wdUserViewFetch : WS :=
(wRet (wIdx (wFld fld_memory (wRes (wFld fld_machine (wVar 0)))) (wFrz (wMethA 4 cUserViewIndexOf (wVar 0) (wCons (wVar 1) (wCons (wC (.int 4)) wNil))))))
@[irreducible] def cUserViewFetch : CW := cwOf 2 0 wdUserViewFetch

abbrev sUserViewLoad : Stmt := inClass (topS 69) 3
abbrev NUserViewLoad : List Str := ["self", "address"]
abbrev PUserViewLoad : List Str := ["self", "address"]
theorem scUserViewLoad : FnScope NUserViewLoad PUserViewLoad (defScope sUserViewLoad) := ⟨rfl, rfl, rfl, by decide +kernel, rfl, by decide +kernel, by decide +kernel⟩
def wdUserViewLoad : WS :=
(wRet (wIdx (wFld fld_memory (wRes (wFld fld_machine (wVar 0)))) (wFrz (wMethA 4 cUserViewIndexOf (wVar 0) (wCons (wVar 1) (wCons (wC (.int 1)) wNil))))))
@[irreducible] def cUserViewLoad : CW := cwOf 2 0 wdUserViewLoad

abbrev sUserViewStore : Stmt := inClass (topS 69) 4
abbrev NUserViewStore : List Str := ["self", "address", "word"]
abbrev PUserViewStore : List Str := ["self", "address", "word"]
theorem scUserViewStore : FnScope NUserViewStore PUserViewStore (defScope sUserViewStore) := ⟨rfl, rfl, rfl, by decide +kernel, rfl, by decide +kernel, by decide +kernel⟩
def wdUserViewStore : WS :=
(wSetI (wVar 2) (wFld fld_memory (wRes (wFld fld_machine (wVar 0)))) (wFrz (wMethA 4 cUserViewIndexOf (wVar 0) (wCons (wVar 1) (wCons (wC (.int 2)) wNil)))))
@[irreducible] def cUserViewStore : CW := cwOf 3 0 wdUserViewStore

abbrev sSetWord : Stmt := topS 33
abbrev NSetWord : List Str := ["parts", "registers", "pc", "view"]
abbrev PSetWord : List Str := ["parts", "registers", "pc", "view"]
theorem scSetWord : FnScope NSetWord PSetWord (defScope sSetWord) := ⟨rfl, rfl, rfl, by decide +kernel, rfl, by decide +kernel, by decide +kernel⟩
def wdSetWord : WS :=
(wSeq (wSetI (wFrz (wMethD [3, 4] (fun c => match c with | 3 => cKernelViewFetch | 4 => cUserViewFetch | _ => cNever) 3 (wCons (wFrz (wCall cAdd (wCons (wVar 2) (wCons (wC (.int 1)) wNil)))) wNil))) (wVar 1) (wIdx (wVar 0) (wC (.int 1))))
(wRetO (wCall cAdd (wCons (wVar 2) (wCons (wC (.int 2)) wNil)))))
@[irreducible] def cSetWord : CW := cwOf 4 0 wdSetWord

abbrev sCopyWord : Stmt := topS 34
abbrev NCopyWord : List Str := ["parts", "registers", "pc", "view", "a", "b"]
abbrev PCopyWord : List Str := ["parts", "registers", "pc", "view"]
theorem scCopyWord : FnScope NCopyWord PCopyWord (defScope sCopyWord) := ⟨rfl, rfl, rfl, by decide +kernel, rfl, by decide +kernel, by decide +kernel⟩
def wdCopyWord : WS :=
(wSeq (wAsgT (tgTup [4, 5]) (wSlT (wVar 0) (wPart (wC (.int 1))) (wPart (wC (.int 3)))))
(wSeq (wSetI (wIdx (wVar 1) (wVar 5)) (wVar 1) (wVar 4))
(wRetO (wCall cAdd (wCons (wVar 2) (wCons (wC (.int 1)) wNil))))))
@[irreducible] def cCopyWord : CW := cwOf 4 2 wdCopyWord

abbrev sCalculated : Stmt := topS 35
abbrev NCalculated : List Str := ["op", "first", "second"]
abbrev PCalculated : List Str := ["op", "first", "second"]
theorem scCalculated : FnScope NCalculated PCalculated (defScope sCalculated) := ⟨rfl, rfl, rfl, by decide +kernel, rfl, by decide +kernel, by decide +kernel⟩
def wdCalculated : WS :=
(wSeq (wIf (wB (wBin (sEq false) (wVar 0) (wC (.str "add"))))
(wRetO (wCall cAdd (wCons (wVar 1) (wCons (wVar 2) wNil))))
wNext)
(wSeq (wIf (wB (wBin (sEq false) (wVar 0) (wC (.str "sub"))))
(wRetO (wCall cSub (wCons (wVar 1) (wCons (wVar 2) wNil))))
wNext)
(wSeq (wIf (wB (wBin (sEq false) (wVar 0) (wC (.str "mul"))))
(wRetO (wCall cMul (wCons (wVar 1) (wCons (wVar 2) wNil))))
wNext)
(wSeq (wIf (wB (wBin (sEq false) (wVar 0) (wC (.str "and"))))
(wRetO (wCall cBitAnd (wCons (wVar 1) (wCons (wVar 2) wNil))))
wNext)
(wSeq (wIf (wB (wBin (sEq false) (wVar 0) (wC (.str "or"))))
(wRetO (wCall cBitOr (wCons (wVar 1) (wCons (wVar 2) wNil))))
wNext)
(wRetO (wCall cBitXor (wCons (wVar 1) (wCons (wVar 2) wNil)))))))))
@[irreducible] def cCalculated : CW := cwOf 3 0 wdCalculated

abbrev sCalculate : Stmt := topS 36
abbrev NCalculate : List Str := ["parts", "registers", "pc", "view", "op", "a", "b", "c"]
abbrev PCalculate : List Str := ["parts", "registers", "pc", "view"]
theorem scCalculate : FnScope NCalculate PCalculate (defScope sCalculate) := ⟨rfl, rfl, rfl, by decide +kernel, rfl, by decide +kernel, by decide +kernel⟩
def wdCalculate : WS :=
(wSeq (wAsgT (tgTup [4, 5, 6, 7]) (wVar 0))
(wSeq (wSetI (wFrz (wCall cCalculated (wCons (wVar 4) (wCons (wIdx (wVar 1) (wVar 6)) (wCons (wIdx (wVar 1) (wVar 7)) wNil))))) (wVar 1) (wVar 5))
(wRetO (wCall cAdd (wCons (wVar 2) (wCons (wC (.int 1)) wNil))))))
@[irreducible] def cCalculate : CW := cwOf 4 4 wdCalculate

abbrev sShiftWordLeft : Stmt := topS 37
abbrev NShiftWordLeft : List Str := ["parts", "registers", "pc", "view", "_", "a", "b", "c"]
abbrev PShiftWordLeft : List Str := ["parts", "registers", "pc", "view"]
theorem scShiftWordLeft : FnScope NShiftWordLeft PShiftWordLeft (defScope sShiftWordLeft) := ⟨rfl, rfl, rfl, by decide +kernel, rfl, by decide +kernel, by decide +kernel⟩
def wdShiftWordLeft : WS :=
(wSeq (wAsgT (tgTup [4, 5, 6, 7]) (wVar 0))
(wSeq (wSetI (wFrz (wCall cShiftLeft (wCons (wIdx (wVar 1) (wVar 6)) (wCons (wVar 7) wNil)))) (wVar 1) (wVar 5))
(wRetO (wCall cAdd (wCons (wVar 2) (wCons (wC (.int 1)) wNil))))))
@[irreducible] def cShiftWordLeft : CW := cwOf 4 4 wdShiftWordLeft

abbrev sShiftWordRight : Stmt := topS 38
abbrev NShiftWordRight : List Str := ["parts", "registers", "pc", "view", "_", "a", "b", "c"]
abbrev PShiftWordRight : List Str := ["parts", "registers", "pc", "view"]
theorem scShiftWordRight : FnScope NShiftWordRight PShiftWordRight (defScope sShiftWordRight) := ⟨rfl, rfl, rfl, by decide +kernel, rfl, by decide +kernel, by decide +kernel⟩
def wdShiftWordRight : WS :=
(wSeq (wAsgT (tgTup [4, 5, 6, 7]) (wVar 0))
(wSeq (wSetI (wFrz (wCall cShiftRight (wCons (wIdx (wVar 1) (wVar 6)) (wCons (wVar 7) wNil)))) (wVar 1) (wVar 5))
(wRetO (wCall cAdd (wCons (wVar 2) (wCons (wC (.int 1)) wNil))))))
@[irreducible] def cShiftWordRight : CW := cwOf 4 4 wdShiftWordRight

abbrev sSmall : Stmt := topS 39
abbrev NSmall : List Str := ["c"]
abbrev PSmall : List Str := ["c"]
theorem scSmall : FnScope NSmall PSmall (defScope sSmall) := ⟨rfl, rfl, rfl, by decide +kernel, rfl, by decide +kernel, by decide +kernel⟩
def wdSmall : WS :=
(wSeq (wIf (wB (wBin sLt (wVar 0) (wC (.int 8))))
(wRet (wVar 0))
wNext)
(wRet (wSub (wVar 0) (wC (.int 16)))))
@[irreducible] def cSmall : CW := cwOf 1 0 wdSmall

abbrev sAddSmall : Stmt := topS 40
abbrev NAddSmall : List Str := ["parts", "registers", "pc", "view", "_", "a", "b", "c"]
abbrev PAddSmall : List Str := ["parts", "registers", "pc", "view"]
theorem scAddSmall : FnScope NAddSmall PAddSmall (defScope sAddSmall) := ⟨rfl, rfl, rfl, by decide +kernel, rfl, by decide +kernel, by decide +kernel⟩
def wdAddSmall : WS :=
(wSeq (wAsgT (tgTup [4, 5, 6, 7]) (wVar 0))
(wSeq (wSetI (wFrz (wCall cAdd (wCons (wIdx (wVar 1) (wVar 6)) (wCons (wFrz (wCall cSmall (wCons (wVar 7) wNil))) wNil)))) (wVar 1) (wVar 5))
(wRetO (wCall cAdd (wCons (wVar 2) (wCons (wC (.int 1)) wNil))))))
@[irreducible] def cAddSmall : CW := cwOf 4 4 wdAddSmall

abbrev sLoadWord : Stmt := topS 41
abbrev NLoadWord : List Str := ["parts", "registers", "pc", "view", "_", "a", "b", "c"]
abbrev PLoadWord : List Str := ["parts", "registers", "pc", "view"]
theorem scLoadWord : FnScope NLoadWord PLoadWord (defScope sLoadWord) := ⟨rfl, rfl, rfl, by decide +kernel, rfl, by decide +kernel, by decide +kernel⟩
def wdLoadWord : WS :=
(wSeq (wAsgT (tgTup [4, 5, 6, 7]) (wVar 0))
(wSeq (wSetI (wFrz (wMethD [3, 4] (fun c => match c with | 3 => cKernelViewLoad | 4 => cUserViewLoad | _ => cNever) 3 (wCons (wFrz (wCall cAdd (wCons (wIdx (wVar 1) (wVar 6)) (wCons (wVar 7) wNil)))) wNil))) (wVar 1) (wVar 5))
(wRetO (wCall cAdd (wCons (wVar 2) (wCons (wC (.int 1)) wNil))))))
@[irreducible] def cLoadWord : CW := cwOf 4 4 wdLoadWord

abbrev sStoreWord : Stmt := topS 42
abbrev NStoreWord : List Str := ["parts", "registers", "pc", "view", "_", "a", "b", "c"]
abbrev PStoreWord : List Str := ["parts", "registers", "pc", "view"]
theorem scStoreWord : FnScope NStoreWord PStoreWord (defScope sStoreWord) := ⟨rfl, rfl, rfl, by decide +kernel, rfl, by decide +kernel, by decide +kernel⟩
def wdStoreWord : WS :=
(wSeq (wAsgT (tgTup [4, 5, 6, 7]) (wVar 0))
(wSeq (wDrop (wFrz (wMethD [3, 4] (fun c => match c with | 3 => cKernelViewStore | 4 => cUserViewStore | _ => cNever) 3 (wCons (wFrz (wCall cAdd (wCons (wIdx (wVar 1) (wVar 6)) (wCons (wVar 7) wNil)))) (wCons (wIdx (wVar 1) (wVar 5)) wNil)))))
(wRetO (wCall cAdd (wCons (wVar 2) (wCons (wC (.int 1)) wNil))))))
@[irreducible] def cStoreWord : CW := cwOf 4 4 wdStoreWord

abbrev sJump : Stmt := topS 43
abbrev NJump : List Str := ["parts", "registers", "pc", "view"]
abbrev PJump : List Str := ["parts", "registers", "pc", "view"]
theorem scJump : FnScope NJump PJump (defScope sJump) := ⟨rfl, rfl, rfl, by decide +kernel, rfl, by decide +kernel, by decide +kernel⟩
def wdJump : WS :=
(wRet (wIdx (wVar 1) (wIdx (wVar 0) (wC (.int 1)))))
@[irreducible] def cJump : CW := cwOf 4 0 wdJump

abbrev sJumpAndLink : Stmt := topS 44
abbrev NJumpAndLink : List Str := ["parts", "registers", "pc", "view", "a", "b", "place"]
abbrev PJumpAndLink : List Str := ["parts", "registers", "pc", "view"]
theorem scJumpAndLink : FnScope NJumpAndLink PJumpAndLink (defScope sJumpAndLink) := ⟨rfl, rfl, rfl, by decide +kernel, rfl, by decide +kernel, by decide +kernel⟩
def wdJumpAndLink : WS :=
(wSeq (wAsgT (tgTup [4, 5]) (wSlT (wVar 0) (wPart (wC (.int 1))) (wPart (wC (.int 3)))))
(wSeq (wAsg 6 (wIdx (wVar 1) (wVar 5)))
(wSeq (wSetI (wFrz (wCall cAdd (wCons (wVar 2) (wCons (wC (.int 1)) wNil)))) (wVar 1) (wVar 4))
(wRet (wVar 6)))))
@[irreducible] def cJumpAndLink : CW := cwOf 4 3 wdJumpAndLink

abbrev sHolds : Stmt := topS 45
abbrev NHolds : List Str := ["op", "first", "second"]
abbrev PHolds : List Str := ["op", "first", "second"]
theorem scHolds : FnScope NHolds PHolds (defScope sHolds) := ⟨rfl, rfl, rfl, by decide +kernel, rfl, by decide +kernel, by decide +kernel⟩
def wdHolds : WS :=
(wSeq (wIf (wB (wBin (sEq false) (wVar 0) (wC (.str "beq"))))
(wRet (wBin (sEq false) (wVar 1) (wVar 2)))
wNext)
(wSeq (wIf (wB (wBin (sEq false) (wVar 0) (wC (.str "bne"))))
(wRet (wBin (sEq true) (wVar 1) (wVar 2)))
wNext)
(wRet (wBin sLt (wVar 1) (wVar 2)))))
@[irreducible] def cHolds : CW := cwOf 3 0 wdHolds

abbrev sBranch : Stmt := topS 46
abbrev NBranch : List Str := ["parts", "registers", "pc", "view", "op", "a", "b", "c", "behind"]
abbrev PBranch : List Str := ["parts", "registers", "pc", "view"]
theorem scBranch : FnScope NBranch PBranch (defScope sBranch) := ⟨rfl, rfl, rfl, by decide +kernel, rfl, by decide +kernel, by decide +kernel⟩
def wdBranch : WS :=
(wSeq (wAsgT (tgTup [4, 5, 6, 7]) (wVar 0))
(wSeq (wAsg 8 (wFrz (wCall cAdd (wCons (wVar 2) (wCons (wC (.int 1)) wNil)))))
(wSeq (wIf (wB (wFrz (wCall cHolds (wCons (wVar 4) (wCons (wIdx (wVar 1) (wVar 5)) (wCons (wIdx (wVar 1) (wVar 6)) wNil))))))
(wRetO (wCall cAdd (wCons (wVar 8) (wCons (wSub (wVar 7) (wC (.int 8))) wNil))))
wNext)
(wRet (wVar 8)))))
@[irreducible] def cBranch : CW := cwOf 4 5 wdBranch

def ftACTIONS : Nat → CW := fun j => match j with
  | 0 => cHalt
  | 1 => cSetWord
  | 2 => cCopyWord
  | 3 => cCalculate
  | 4 => cShiftWordLeft
  | 5 => cShiftWordRight
  | 6 => cAddSmall
  | 7 => cLoadWord
  | 8 => cStoreWord
  | 9 => cJump
  | 10 => cJumpAndLink
  | 11 => cBranch
  | 12 => cCall
  | _ => cNever
abbrev sCarryOut : Stmt := topS 48
abbrev NCarryOut : List Str := ["parts", "registers", "pc", "view", "action"]
abbrev PCarryOut : List Str := ["parts", "registers", "pc", "view"]
theorem scCarryOut : FnScope NCarryOut PCarryOut (defScope sCarryOut) := ⟨rfl, rfl, rfl, by decide +kernel, rfl, by decide +kernel, by decide +kernel⟩
def wdCarryOut : WS :=
(wSeq (wAsg 4 (wKD tbACTIONS (wIdx (wVar 0) (wC (.int 0)))))
(wRetO (wCallF [0, 1, 2, 3, 4, 5, 6, 7, 8, 9, 10, 11, 12] ftACTIONS 4 (wCons (wVar 0) (wCons (wVar 1) (wCons (wVar 2) (wCons (wVar 3) wNil)))))))
@[irreducible] def cCarryOut : CW := cwOf 4 1 wdCarryOut

abbrev sUserStep : Stmt := topS 49
abbrev NUserStep : List Str := ["registers", "pc", "view", "parts"]
abbrev PUserStep : List Str := ["registers", "pc", "view"]
theorem scUserStep : FnScope NUserStep PUserStep (defScope sUserStep) := ⟨rfl, rfl, rfl, by decide +kernel, rfl, by decide +kernel, by decide +kernel⟩
def wdUserStep : WS :=
(wSeq (wAsg 3 (wFrz (wCall cDecode (wCons (wFrz (wMethD [3, 4] (fun c => match c with | 3 => cKernelViewFetch | 4 => cUserViewFetch | _ => cNever) 2 (wCons (wVar 1) wNil))) wNil))))
(wSeq (wIf (wOrT (wB (wBin (sIs false) (wVar 3) (wC .non))) (wB (wBin (sIn false) (wIdx (wVar 3) (wC (.int 0))) (wC tpKERNELONLY))))
(wRaise 1 2 (wCons (wC (.int 1)) (wCons (wC (.int 0)) wNil)))
wNext)
(wRetO (wCall cCarryOut (wCons (wVar 3) (wCons (wVar 0) (wCons (wVar 1) (wCons (wVar 2) wNil))))))))
@[irreducible] def cUserStep : CW := cwOf 3 1 wdUserStep

abbrev sMachineInit : Stmt := inClass (topS 70) 0
abbrev NMachineInit : List Str := ["self", "memory", "rings", "inputs"]
abbrev PMachineInit : List Str := ["self", "memory", "rings", "inputs"]
theorem scMachineInit : FnScope NMachineInit PMachineInit (defScope sMachineInit) := ⟨rfl, rfl, rfl, by decide +kernel, rfl, by decide +kernel, by decide +kernel⟩
def wdMachineInit : WS :=
(wSeq (wSetF fld_memory (wListOf (wCons (wVar 1) wNil)) (wVar 0))
(wSeq (wSetF fld_rings (wListOf (wCons (wVar 2) wNil)) (wVar 0))
(wSeq (wSetF fld_inputs (wListOf (wCons (wVar 3) wNil)) (wVar 0))
(wSeq (wSetF fld_mode (wLift (wC (.str "kernel"))) (wVar 0))
(wSeq (wSetF fld_pc (wLift (wC (.int 0))) (wVar 0))
(wSeq (wSetF fld_user (wLift (wRepF (wFrz (wLst (wCons (wC (.int 0)) wNil))) (wC (.int 8)))) (wVar 0))
(wSeq (wSetF fld_kernel (wLift (wRepF (wFrz (wLst (wCons (wC (.int 0)) wNil))) (wC (.int 8)))) (wVar 0))
(wSeq (wSetF fld_specials (wLift (wRepF (wFrz (wLst (wCons (wC (.int 0)) wNil))) (wC (.int 7)))) (wVar 0))
(wSeq (wSetF fld_tick (wLift (wC (.int 0))) (wVar 0))
(wSeq (wSetF fld_given (wLift (wC (.int 0))) (wVar 0))
(wSeq (wSetF fld_kernel_view (wLift (wFrz (wMake 3 cKernelViewInit (wCons (wVar 0) wNil)))) (wVar 0))
(wSetF fld_user_view (wLift (wFrz (wMake 4 cUserViewInit (wCons (wVar 0) wNil)))) (wVar 0)))))))))))))
@[irreducible] def cMachineInit : CW := cwOf 4 0 wdMachineInit

abbrev sMachineTakeInputs : Stmt := inClass (topS 70) 1
abbrev NMachineTakeInputs : List Str := ["self", "tick", "device", "word"]
abbrev PMachineTakeInputs : List Str := ["self"]
theorem scMachineTakeInputs : FnScope NMachineTakeInputs PMachineTakeInputs (defScope sMachineTakeInputs) := ⟨rfl, rfl, rfl, by decide +kernel, rfl, by decide +kernel, by decide +kernel⟩
def wdMachineTakeInputs : WS :=
(wWhile (wAndT (wB (wBin sLt (wFld fld_given (wVar 0)) (wCB fLen (wCons (wFld fld_inputs (wVar 0)) wNil)))) (wB (wBin sLe (wIdx (wIdx (wFld fld_inputs (wVar 0)) (wFld fld_given (wVar 0))) (wC (.int 0))) (wFld fld_tick (wVar 0)))))
(wSeq (wAsgT (tgTup [1, 2, 3]) (wIdx (wFld fld_inputs (wVar 0)) (wFld fld_given (wVar 0))))
(wCut (wIf (wB (wBin (sEq false) (wVar 1) (wFld fld_tick (wVar 0))))
(wDrop (wFrz (wCall cWriteInput (wCons (wFld fld_memory (wVar 0)) (wCons (wIdx (wFld fld_rings (wVar 0)) (wVar 2)) (wCons (wVar 3) wNil))))))
wNext)
(wAugF fld_given (wC (.int 1)) (wVar 0)))))
@[irreducible] def cMachineTakeInputs : CW := cwOf 1 3 wdMachineTakeInputs

abbrev sMachineEnterKernel : Stmt := inClass (topS 70) 2
abbrev NMachineEnterKernel : List Str := ["self", "epc", "cause", "value"]
abbrev PMachineEnterKernel : List Str := ["self", "epc", "cause", "value"]
theorem scMachineEnterKernel : FnScope NMachineEnterKernel PMachineEnterKernel (defScope sMachineEnterKernel) := ⟨rfl, rfl, rfl, by decide +kernel, rfl, by decide +kernel, by decide +kernel⟩
def wdMachineEnterKernel : WS :=
(wSeq (wSetI (wVar 1) (wFld fld_specials (wVar 0)) (wC (.int 0)))
(wSeq (wSetI (wVar 2) (wFld fld_specials (wVar 0)) (wC (.int 1)))
(wSeq (wSetI (wVar 3) (wFld fld_specials (wVar 0)) (wC (.int 2)))
(wSeq (wSetI (wFrz (wCall0 cWrap (wCons (wFld fld_tick (wVar 0)) wNil))) (wFld fld_specials (wVar 0)) (wC (.int 6)))
(wSeq (wSetF fld_mode (wLift (wC (.str "kernel"))) (wVar 0))
(wSetF fld_pc (wLift (wC (.int 0))) (wVar 0)))))))
@[irreducible] def cMachineEnterKernel : CW := cwOf 4 0 wdMachineEnterKernel

abbrev sMachineUserTick : Stmt := inClass (topS 70) 3
abbrev NMachineUserTick : List Str := ["self", "caught", "epc"]
abbrev PMachineUserTick : List Str := ["self"]
theorem scMachineUserTick : FnScope NMachineUserTick PMachineUserTick (defScope sMachineUserTick) := ⟨rfl, rfl, rfl, by decide +kernel, rfl, by decide +kernel, by decide +kernel⟩
def wdMachineUserTick : WS :=
(wSeq (wIf (wB (wBin (sEq false) (wFrz (wCall cWrap (wCons (wFld fld_tick (wVar 0)) wNil))) (wIdx (wFld fld_specials (wVar 0)) (wC (.int 4)))))
(wSeq (wDrop (wFrz (wMeth 5 cMachineEnterKernel (wVar 0) (wCons (wFld fld_pc (wVar 0)) (wCons (wC (.int 6)) (wCons (wC (.int 0)) wNil))))))
wRetN)
wNext)
(wTryA 1 1 (fun a dd =>
(wSeq (wAsg 2 (wFld fld_pc (wVar 0)))
(wCut (wIf (wB (wBin (sEq false) (wXf a dd 1 1 1) (wC (.int 3))))
(wAsg 2 (wFrz (wCall0 cAdd (wCons (wVar 2) (wCons (wC (.int 1)) wNil)))))
wNext)
(wDrop (wFrz (wMeth0 5 cMachineEnterKernel (wVar 0) (wCons (wVar 2) (wCons (wXf a dd 1 1 1) (wCons (wXf a dd 1 1 0) wNil)))))))))
(wSetF fld_pc (wCall cUserStep (wCons (wFld fld_user (wVar 0)) (wCons (wFld fld_pc (wVar 0)) (wCons (wFld fld_user_view (wVar 0)) wNil)))) (wVar 0))))
@[irreducible] def cMachineUserTick : CW := cwOf 1 2 wdMachineUserTick

abbrev sMachineSpecial : Stmt := inClass (topS 70) 4
abbrev NMachineSpecial : List Str := ["self", "number"]
abbrev PMachineSpecial : List Str := ["self", "number"]
theorem scMachineSpecial : FnScope NMachineSpecial PMachineSpecial (defScope sMachineSpecial) := ⟨rfl, rfl, rfl, by decide +kernel, rfl, by decide +kernel, by decide +kernel⟩
def wdMachineSpecial : WS :=
(wSeq (wIf (wB (wBin (sEq false) (wVar 1) (wC (.int 5))))
(wRetO (wCall cWrap (wCons (wFld fld_tick (wVar 0)) wNil)))
wNext)
(wRet (wIdx (wFld fld_specials (wVar 0)) (wVar 1))))
@[irreducible] def cMachineSpecial : CW := cwOf 2 0 wdMachineSpecial

abbrev sMachineKernelOnly : Stmt := inClass (topS 70) 5
abbrev NMachineKernelOnly : List Str := ["self", "parts", "op", "a", "b", "c"]
abbrev PMachineKernelOnly : List Str := ["self", "parts"]
theorem scMachineKernelOnly : FnScope NMachineKernelOnly PMachineKernelOnly (defScope sMachineKernelOnly) := ⟨rfl, rfl, rfl, by decide +kernel, rfl, by decide +kernel, by decide +kernel⟩
def wdMachineKernelOnly : WS :=
(wSeq (wAsgT (tgTup [2, 3, 4, 5]) (wVar 1))
(wSeq (wIf (wB (wBin (sEq false) (wVar 2) (wC (.str "rest"))))
(wSeq (wSetF fld_mode (wLift (wC (.str "user"))) (wVar 0))
(wRet (wIdx (wFld fld_specials (wVar 0)) (wC (.int 0)))))
wNext)
(wSeq (wIf (wAndT (wB (wBin (sEq false) (wVar 2) (wC (.str "until")))) (wB (wBin (sEq true) (wFrz (wCall cWrap (wCons (wAdd (wFld fld_tick (wVar 0)) (wC (.int 1))) wNil))) (wIdx (wFld fld_specials (wVar 0)) (wC (.int 4))))))
(wRet (wFld fld_pc (wVar 0)))
wNext)
(wCut (wIf (wB (wBin (sEq false) (wVar 2) (wC (.str "getu"))))
(wSetI (wIdx (wFld fld_user (wVar 0)) (wVar 4)) (wFld fld_kernel (wVar 0)) (wVar 3))
wNext)
(wCut (wIf (wB (wBin (sEq false) (wVar 2) (wC (.str "putu"))))
(wSetI (wIdx (wFld fld_kernel (wVar 0)) (wVar 4)) (wFld fld_user (wVar 0)) (wVar 3))
wNext)
(wCut (wIf (wB (wBin (sEq false) (wVar 2) (wC (.str "gets"))))
(wSetI (wFrz (wMeth 5 cMachineSpecial (wVar 0) (wCons (wVar 5) wNil))) (wFld fld_kernel (wVar 0)) (wVar 3))
wNext)
(wCut (wIf (wB (wBin (sEq false) (wVar 2) (wC (.str "puts"))))
(wSetI (wIdx (wFld fld_kernel (wVar 0)) (wVar 3)) (wFld fld_specials (wVar 0)) (wVar 5))
wNext)
(wRetO (wCall cAdd (wCons (wFld fld_pc (wVar 0)) (wCons (wC (.int 1)) wNil)))))))))))
@[irreducible] def cMachineKernelOnly : CW := cwOf 2 4 wdMachineKernelOnly

abbrev sMachineKernelTick : Stmt := inClass (topS 70) 6
abbrev NMachineKernelTick : List Str := ["self", "parts"]
abbrev PMachineKernelTick : List Str := ["self"]
theorem scMachineKernelTick : FnScope NMachineKernelTick PMachineKernelTick (defScope sMachineKernelTick) := ⟨rfl, rfl, rfl, by decide +kernel, rfl, by decide +kernel, by decide +kernel⟩
def wdMachineKernelTick : WS :=
(wTryO 1
(wSetF fld_mode (wLift (wC (.str "broken"))) (wVar 0))
(wSeq (wAsg 1 (wFrz (wCall cDecode (wCons (wFrz (wMethA 3 cKernelViewFetch (wFld fld_kernel_view (wVar 0)) (wCons (wFld fld_pc (wVar 0)) wNil))) wNil))))
(wIf (wB (wBin (sIs false) (wVar 1) (wC .non)))
(wSetF fld_mode (wLift (wC (.str "broken"))) (wVar 0))
(wIf (wB (wBin (sIn false) (wIdx (wVar 1) (wC (.int 0))) (wC tpKERNELONLY)))
(wSetF fld_pc (wMeth 5 cMachineKernelOnly (wVar 0) (wCons (wVar 1) wNil)) (wVar 0))
(wSetF fld_pc (wCall cCarryOut (wCons (wVar 1) (wCons (wFld fld_kernel (wVar 0)) (wCons (wFld fld_pc (wVar 0)) (wCons (wFld fld_kernel_view (wVar 0)) wNil))))) (wVar 0))))))
@[irreducible] def cMachineKernelTick : CW := cwOf 1 1 wdMachineKernelTick

abbrev sMachineStep : Stmt := inClass (topS 70) 7
abbrev NMachineStep : List Str := ["self"]
abbrev PMachineStep : List Str := ["self"]
theorem scMachineStep : FnScope NMachineStep PMachineStep (defScope sMachineStep) := ⟨rfl, rfl, rfl, by decide +kernel, rfl, by decide +kernel, by decide +kernel⟩
def wdMachineStep : WS :=
(wSeq (wIf (wB (wBin (sEq false) (wFld fld_mode (wVar 0)) (wC (.str "broken"))))
wRetN
wNext)
(wSeq (wDrop (wFrz (wMeth 5 cMachineTakeInputs (wVar 0) wNil)))
(wCut (wIf (wB (wBin (sEq false) (wFld fld_mode (wVar 0)) (wC (.str "user"))))
(wDrop (wFrz (wMeth 5 cMachineUserTick (wVar 0) wNil)))
(wDrop (wFrz (wMeth 5 cMachineKernelTick (wVar 0) wNil))))
(wIf (wB (wBin (sEq true) (wFld fld_mode (wVar 0)) (wC (.str "broken"))))
(wSeq (wAugF fld_tick (wC (.int 1)) (wVar 0))
(wSetI (wFrz (wCall cWrap (wCons (wFld fld_tick (wVar 0)) wNil))) (wFld fld_specials (wVar 0)) (wC (.int 5))))
wNext))))
@[irreducible] def cMachineStep : CW := cwOf 1 0 wdMachineStep

abbrev sMachineState : Stmt := inClass (topS 70) 9
abbrev NMachineState : List Str := ["self", "registers"]
abbrev PMachineState : List Str := ["self"]
theorem scMachineState : FnScope NMachineState PMachineState (defScope sMachineState) := ⟨rfl, rfl, rfl, by decide +kernel, rfl, by decide +kernel, by decide +kernel⟩
def wdMachineState : WS :=
(wSeq (wAsg 1 (wTup (wCons (wTupOf (wCons (wFld fld_user (wVar 0)) wNil)) (wCons (wTupOf (wCons (wFld fld_kernel (wVar 0)) wNil)) (wCons (wTupOf (wCons (wFld fld_specials (wVar 0)) wNil)) wNil)))))
(wRet (wTup (wCons (wFld fld_mode (wVar 0)) (wCons (wFld fld_pc (wVar 0)) (wCons (wVar 1) (wCons (wFld fld_tick (wVar 0)) (wCons (wFld fld_given (wVar 0)) (wCons (wTupOf (wCons (wFld fld_memory (wVar 0)) wNil)) wNil)))))))))
@[irreducible] def cMachineState : CW := cwOf 1 1 wdMachineState

abbrev sResumed : Stmt := topS 71
abbrev NResumed : List Str := ["state", "rings", "inputs", "mode", "pc", "registers", "tick", "given", "memory", "user", "kernel", "specials", "machine"]
abbrev PResumed : List Str := ["state", "rings", "inputs"]
theorem scResumed : FnScope NResumed PResumed (defScope sResumed) := ⟨rfl, rfl, rfl, by decide +kernel, rfl, by decide +kernel, by decide +kernel⟩
def wdResumed : WS :=
(wSeq (wAsgT (tgTup [3, 4, 5, 6, 7, 8]) (wVar 0))
(wSeq (wAsgT (tgTup [9, 10, 11]) (wVar 5))
(wSeq (wNew 12 (wMakeN 5 cMachineInit (wCons (wVar 8) (wCons (wVar 1) (wCons (wVar 2) wNil)))))
(wSeq (wSetF fld_mode (wLift (wVar 3)) (wVar 12))
(wSeq (wSetF fld_pc (wLift (wVar 4)) (wVar 12))
(wSeq (wSetFT fld_user (wListOf (wCons (wVar 9) wNil)) (wVar 12))
(wSeq (wSetFT fld_kernel (wListOf (wCons (wVar 10) wNil)) (wVar 12))
(wSeq (wSetFT fld_specials (wListOf (wCons (wVar 11) wNil)) (wVar 12))
(wSeq (wSetF fld_tick (wLift (wVar 6)) (wVar 12))
(wSeq (wSetF fld_given (wLift (wVar 7)) (wVar 12))
(wRet (wVar 12))))))))))))
@[irreducible] def cResumed : CW := cwOf 3 10 wdResumed

abbrev sLawNumber : Stmt := topS 73
abbrev NLawNumber : List Str := ["cell", "k", "mixed"]
abbrev PLawNumber : List Str := ["cell", "k"]
theorem scLawNumber : FnScope NLawNumber PLawNumber (defScope sLawNumber) := ⟨rfl, rfl, rfl, by decide +kernel, rfl, by decide +kernel, by decide +kernel⟩
def wdLawNumber : WS :=
(wSeq (wIf (wB (wBin sGe (wVar 0) (wPow (wC (.int 10)) (wC (.int 18)))))
(wRet (wVar 0))
wNext)
(wSeq (wAsg 2 (wMod (wCB fInt (wCons (wAdd (wAdd (wMul (wVar 0) (wC (.int 48271))) (wMul (wVar 1) (wC (.int 69621)))) (wC (.int 11))) wNil)) (wC (.int 2147483647))))
(wRet (wMod (wCB fInt (wCons (wAdd (wMul (wVar 2) (wVar 2)) (wMul (wVar 1) (wC (.int 40692)))) wNil)) (wC (.int 2147483399))))))
@[irreducible] def cLawNumber : CW := cwOf 2 1 wdLawNumber

abbrev sLawWord : Stmt := topS 74
abbrev NLawWord : List Str := ["y", "kind", "rest", "op", "a", "b", "c"]
abbrev PLawWord : List Str := ["y"]
theorem scLawWord : FnScope NLawWord PLawWord (defScope sLawWord) := ⟨rfl, rfl, rfl, by decide +kernel, rfl, by decide +kernel, by decide +kernel⟩
def wdLawWord : WS :=
(wSeq (wAsg 1 (wMod (wCB fInt (wCons (wVar 0) wNil)) (wC (.int 8))))
(wSeq (wAsg 2 (wDiv (wVar 0) (wC (.int 8))))
(wSeq (wIf (wB (wBin sLt (wVar 1) (wC (.int 6))))
(wSeq (wAsg 3 (wIdx (wFrz (wLst (wCons (wC (.int 1)) (wCons (wC (.int 2)) (wCons (wC (.int 3)) (wCons (wC (.int 4)) (wCons (wC (.int 5)) (wCons (wC (.int 6)) (wCons (wC (.int 7)) (wCons (wC (.int 8)) (wCons (wC (.int 9)) (wCons (wC (.int 10)) (wCons (wC (.int 11)) (wCons (wC (.int 12)) (wCons (wC (.int 13)) (wCons (wC (.int 12)) (wCons (wC (.int 13)) (wCons (wC (.int 11)) (wCons (wC (.int 14)) (wCons (wC (.int 15)) (wCons (wC (.int 16)) (wCons (wC (.int 17)) (wCons (wC (.int 18)) (wCons (wC (.int 19)) (wCons (wC (.int 0)) (wCons (wC (.int 22)) wNil)))))))))))))))))))))))))) (wMod (wCB fInt (wCons (wVar 2) wNil)) (wC (.int 24)))))
(wSeq (wAsg 4 (wMod (wDiv (wVar 2) (wC (.int 24))) (wC (.int 8))))
(wSeq (wAsg 5 (wMod (wDiv (wVar 2) (wC (.int 192))) (wC (.int 8))))
(wSeq (wAsg 6 (wMod (wDiv (wVar 2) (wC (.int 1536))) (wC (.int 16))))
(wSeq (wIf (wB (wBin (sIn false) (wVar 3) (wTup (wCons (wC (.int 0)) (wCons (wC (.int 1)) (wCons (wC (.int 14)) (wCons (wC (.int 19)) wNil)))))))
(wRet (wAdd (wAdd (wMul (wVar 3) (wC (.int 1024))) (wMul (wMul (wVar 4) (wC (.int 128))) (wCB fInt (wCons (wBin (sIn false) (wVar 3) (wTup (wCons (wC (.int 1)) (wCons (wC (.int 14)) wNil)))) wNil)))) (wMul (wVar 6) (wCB fInt (wCons (wBin (sEq false) (wVar 3) (wC (.int 19))) wNil)))))
wNext)
(wSeq (wIf (wB (wBin (sIn false) (wVar 3) (wTup (wCons (wC (.int 2)) (wCons (wC (.int 15)) wNil)))))
(wRet (wAdd (wAdd (wMul (wVar 3) (wC (.int 1024))) (wMul (wVar 4) (wC (.int 128)))) (wMul (wVar 5) (wC (.int 16)))))
wNext)
(wRet (wAdd (wAdd (wAdd (wMul (wVar 3) (wC (.int 1024))) (wMul (wVar 4) (wC (.int 128)))) (wMul (wVar 5) (wC (.int 16)))) (wMod (wCB fInt (wCons (wVar 6) wNil)) (wIdx (wFrz (wLst (wCons (wC (.int 16)) (wCons (wC (.int 8)) wNil)))) (wCB fInt (wCons (wChain sLe sLe (wC (.int 3)) (wVar 3) (wC (.int 8))) wNil))))))))))))
wNext)
(wSeq (wIf (wB (wBin (sEq false) (wVar 1) (wC (.int 6))))
(wRet (wMod (wCB fInt (wCons (wVar 2) wNil)) (wC (.int 140))))
wNext)
(wRet (wMod (wCB fInt (wCons (wVar 2) wNil)) (wC (.int 65536))))))))
@[irreducible] def cLawWord : CW := cwOf 1 6 wdLawWord

abbrev sLawRow : Stmt := topS 75
abbrev NLawRow : List Str := ["cell", "k", "count", "row", "rest", "at"]
abbrev PLawRow : List Str := ["cell", "k", "count"]
theorem scLawRow : FnScope NLawRow PLawRow (defScope sLawRow) := ⟨rfl, rfl, rfl, by decide +kernel, rfl, by decide +kernel, by decide +kernel⟩
def wdLawRow : WS :=
(wSeq (wNew 3 (wLst wNil))
(wSeq (wAsg 4 (wC (.int 0)))
(wCut (wIf (wB (wBin sGe (wVar 0) (wPow (wC (.int 10)) (wC (.int 18)))))
(wAsg 4 (wVar 0))
wNext)
(wCut (wFor (wRng1 (wCons (wVar 2) wNil)) (tgName 5)
(wIf (wB (wBin sGt (wVar 4) (wC (.int 0))))
(wSeq (wApp (wVar 3) (wLift (wMod (wCB fInt (wCons (wVar 4) wNil)) (wC (.int 65536)))))
(wAsg 4 (wDiv (wVar 4) (wC (.int 65536)))))
(wApp (wVar 3) (wCall cLawWord (wCons (wFrz (wCall cLawNumber (wCons (wAdd (wMod (wCB fInt (wCons (wVar 0) wNil)) (wC (.int 1000003))) (wMul (wC (.int 31)) (wVar 5))) (wCons (wAdd (wVar 1) (wVar 5)) wNil)))) wNil)))))
(wRet (wVar 3))))))
@[irreducible] def cLawRow : CW := cwOf 3 3 wdLawRow

abbrev sLawPlain : Stmt := topS 76
abbrev NLawPlain : List Str := ["cells", "x", "words", "pages", "k", "y", "user", "inputs", "tick", "z", "frames"]
abbrev PLawPlain : List Str := ["cells"]
theorem scLawPlain : FnScope NLawPlain PLawPlain (defScope sLawPlain) := ⟨rfl, rfl, rfl, by decide +kernel, rfl, by decide +kernel, by decide +kernel⟩
def wdLawPlain : WS :=
(wSeq (wAsg 1 (wFrz (wCall cLawNumber (wCons (wIdx (wVar 0) (wC (.int 0))) (wCons (wC (.int 0)) wNil)))))
(wSeq (wAsg 2 (wFrz (wCall cLawRow (wCons (wIdx (wVar 0) (wC (.int 1))) (wCons (wC (.int 1)) (wCons (wC (.int 96)) wNil))))))
(wSeq (wNew 3 (wLst wNil))
(wCut (wFor (wRng1 (wCons (wC (.int 8)) wNil)) (tgName 4)
(wSeq (wAsg 5 (wFrz (wCall cLawNumber (wCons (wAdd (wDiv (wIdx (wVar 0) (wC (.int 2))) (wC (.int 4099))) (wMul (wC (.int 7)) (wVar 4))) (wCons (wAdd (wC (.int 40)) (wVar 4)) wNil)))))
(wApp (wVar 3) (wLift (wTup (wCons (wMod (wCB fInt (wCons (wVar 5) wNil)) (wC (.int 6))) (wCons (wIdx (wFrz (wLst (wCons (wC (.int 7)) (wCons (wC (.int 5)) (wCons (wC (.int 3)) (wCons (wC (.int 7)) (wCons (wC (.int 1)) (wCons (wC (.int 4)) (wCons (wC (.int 6)) (wCons (wC (.int 0)) wNil)))))))))) (wMod (wDiv (wVar 5) (wC (.int 6))) (wC (.int 8)))) wNil)))))))
(wSeq (wNew 6 (wLc (wRng1 (wCons (wC (.int 8)) wNil)) (tgName 4) [4] wYes (wLift (wIdx (wFrz (wCall cLawRow (wCons (wIdx (wVar 0) (wC (.int 2))) (wCons (wC (.int 60)) (wCons (wC (.int 8)) wNil))))) (wVar 4)))))
(wCut (wFor (wRng1 (wCons (wC (.int 8)) wNil)) (tgName 4)
(wIf (wB (wBin (sEq false) (wMod (wDiv (wVar 1) (wAdd (wC (.int 3)) (wVar 4))) (wC (.int 2))) (wC (.int 0))))
(wSetI (wMod (wCB fInt (wCons (wIdx (wVar 6) (wVar 4)) wNil)) (wC (.int 130))) (wVar 6) (wVar 4))
wNext))
(wSeq (wNew 7 (wLst wNil))
(wSeq (wAsg 8 (wC (.int 0)))
(wSeq (wAsg 9 (wFrz (wCall cLawNumber (wCons (wIdx (wVar 0) (wC (.int 3))) (wCons (wC (.int 5)) wNil)))))
(wCut (wFor (wRng1 (wCons (wMod (wCB fInt (wCons (wVar 9) wNil)) (wC (.int 13))) wNil)) (tgName 4)
(wSeq (wAsg 5 (wFrz (wCall cLawNumber (wCons (wAdd (wDiv (wIdx (wVar 0) (wC (.int 3))) (wC (.int 8209))) (wVar 4)) (wCons (wAdd (wC (.int 200)) (wVar 4)) wNil)))))
(wSeq (wAsg 8 (wAdd (wVar 8) (wIdx (wFrz (wLst (wCons (wC (.int 0)) (wCons (wC (.int 1)) (wCons (wC (.int 2)) (wCons (wC (.int 5)) (wCons (wC (.int 9)) wNil))))))) (wMod (wCB fInt (wCons (wVar 5) wNil)) (wC (.int 5))))))
(wApp (wVar 7) (wLift (wTup (wCons (wVar 8) (wCons (wMod (wDiv (wVar 5) (wC (.int 5))) (wC (.int 2))) (wCons (wMod (wDiv (wVar 5) (wC (.int 10))) (wC (.int 65536))) wNil)))))))))
(wSeq (wAsg 10 (wFrz (wLc (wRng1 (wCons (wC (.int 6)) wNil)) (tgName 4) [4] wYes (wSlL (wVar 2) (wPart (wMul (wC (.int 16)) (wVar 4))) (wPart (wAdd (wMul (wC (.int 16)) (wVar 4)) (wC (.int 16))))))))
(wRetO (wDisp [((Sum.inr "frames"), (wLift (wVar 10))), ((Sum.inr "pages"), (wMv (wVar 3))), ((Sum.inr "user"), (wMv (wVar 6))), ((Sum.inr "pc"), (wLift (wMod (wDiv (wVar 1) (wC (.int 19))) (wC (.int 128))))), ((Sum.inr "alarm"), (wLift (wMod (wDiv (wVar 1) (wC (.int 5))) (wC (.int 91))))), ((Sum.inr "inputs"), (wMv (wVar 7)))])))))))))))))
@[irreducible] def cLawPlain : CW := cwOf 1 10 wdLawPlain

abbrev sLawWorld : Stmt := topS 77
abbrev NLawWorld : List Str := ["plain", "x", "size", "memory", "at", "left", "k", "rest", "places", "base", "frame", "rights", "start", "specials", "kernel", "state", "inputs", "tick", "device", "word", "machine"]
abbrev PLawWorld : List Str := ["plain", "x"]
theorem scLawWorld : FnScope NLawWorld PLawWorld (defScope sLawWorld) := ⟨rfl, rfl, rfl, by decide +kernel, rfl, by decide +kernel, by decide +kernel⟩
def wdLawWorld : WS :=
(wSeq (wAsg 2 (wMul (wC (.int 16)) (wAdd (wC (.int 9)) (wMod (wCB fInt (wCons (wVar 1) wNil)) (wC (.int 9))))))
(wSeq (wNew 3 (wLc (wRng1 (wCons (wVar 2) wNil)) (tgName 4) [4] wYes (wLift (wMod (wDiv (wFrz (wCall cLawNumber (wCons (wAdd (wVar 1) (wMul (wC (.int 29)) (wVar 4))) (wCons (wVar 4) wNil)))) (wC (.int 3))) (wC (.int 65536))))))
(wSeq (wNew 5 (wLc (wRng1 (wCons (wDiv (wVar 2) (wC (.int 16))) wNil)) (tgName 6) [6] wYes (wLift (wVar 6))))
(wSeq (wAsg 7 (wDiv (wVar 1) (wC (.int 9))))
(wSeq (wNew 8 (wLst wNil))
(wCut (wFor (wRng1 (wCons (wC (.int 7)) wNil)) (tgName 6)
(wSeq (wApp (wVar 8) (wLift (wPop (wVar 5) (wCons (wMod (wCB fInt (wCons (wVar 7) wNil)) (wCB fLen (wCons (wVar 5) wNil))) wNil))))
(wAsg 7 (wDiv (wVar 7) (wC (.int 17))))))
(wSeq (wAsg 9 (wAdd (wMul (wC (.int 16)) (wIdx (wVar 8) (wC (.int 6)))) (wMod (wCB fInt (wCons (wVar 7) wNil)) (wC (.int 9)))))
(wCut (wFor (wRng1 (wCons (wC (.int 6)) wNil)) (tgName 6)
(wFor (wRng1 (wCons (wC (.int 16)) wNil)) (tgName 4)
(wSetI (wIdx (wIdx (wKey (wVar 0) (wC (.str "frames"))) (wVar 6)) (wVar 4)) (wVar 3) (wAdd (wMul (wC (.int 16)) (wIdx (wVar 8) (wVar 6))) (wVar 4)))))
(wCut (wFor (wRng1 (wCons (wC (.int 8)) wNil)) (tgName 6)
(wSeq (wAsgT (tgTup [10, 11]) (wIdx (wKey (wVar 0) (wC (.str "pages"))) (wVar 6)))
(wSetI (wAdd (wMul (wC (.int 8)) (wIdx (wVar 8) (wVar 10))) (wVar 11)) (wVar 3) (wAdd (wVar 9) (wVar 6)))))
(wSeq (wAsg 12 (wIdx (wFrz (wLst (wCons (wC (.int 0)) (wCons (wC (.int 65500)) (wCons (wMod (wDiv (wVar 1) (wC (.int 31))) (wC (.int 400000))) wNil))))) (wMod (wDiv (wVar 1) (wC (.int 11))) (wC (.int 3)))))
(wSeq (wAsg 13 (wTup (wCons (wMod (wDiv (wFrz (wCall cLawNumber (wCons (wVar 1) (wCons (wC (.int 7)) wNil)))) (wC (.int 5))) (wC (.int 65536))) (wCons (wC (.int 3)) (wCons (wC (.int 9)) (wCons (wVar 9) (wCons (wMod (wCB fInt (wCons (wAdd (wVar 12) (wKey (wVar 0) (wC (.str "alarm")))) wNil)) (wC (.int 65536))) (wCons (wMod (wCB fInt (wCons (wVar 12) wNil)) (wC (.int 65536))) (wCons (wC (.int 17)) wNil)))))))))
(wSeq (wAsg 14 (wTupOf (wCons (wFrz (wLc (wRng1 (wCons (wC (.int 8)) wNil)) (tgName 6) [6] wYes (wLift (wMod (wDiv (wFrz (wCall cLawNumber (wCons (wAdd (wVar 1) (wVar 6)) (wCons (wC (.int 9)) wNil)))) (wC (.int 5))) (wC (.int 65536)))))) wNil)))
(wSeq (wAsg 15 (wTup (wCons (wC (.str "user")) (wCons (wKey (wVar 0) (wC (.str "pc"))) (wCons (wTup (wCons (wTupOf (wCons (wKey (wVar 0) (wC (.str "user"))) wNil)) (wCons (wVar 14) (wCons (wVar 13) wNil)))) (wCons (wVar 12) (wCons (wC (.int 0)) (wCons (wTupOf (wCons (wVar 3) wNil)) wNil))))))))
(wSeq (wAsg 16 (wFrz (wLc (wItL (wKey (wVar 0) (wC (.str "inputs")))) (tgTup [17, 18, 19]) [17, 18, 19] wYes (wLift (wTup (wCons (wAdd (wVar 12) (wVar 17)) (wCons (wVar 18) (wCons (wVar 19) wNil))))))))
(wSeq (wNew 20 (wCall cResumed (wCons (wVar 15) (wCons (wFrz (wLst (wCons (wMul (wC (.int 16)) (wIdx (wVar 8) (wC (.int 0)))) (wCons (wMul (wC (.int 16)) (wIdx (wVar 8) (wC (.int 1)))) wNil)))) (wCons (wVar 16) wNil)))))
(wRet (wTup (wCons (wFrz (wBk (wVar 20))) (wCons (wFrz (wSlL (wVar 8) wNo (wPart (wC (.int 6))))) (wCons (wVar 12) (wCons (wFz (wVar 3)) wNil)))))))))))))))))))))
@[irreducible] def cLawWorld : CWR := cwOfR 2 19 wdLawWorld

abbrev sLawSeen : Stmt := topS 78
abbrev NLawSeen : List Str := ["world", "machine", "frames", "place"]
abbrev PLawSeen : List Str := ["world"]
theorem scLawSeen : FnScope NLawSeen PLawSeen (defScope sLawSeen) := ⟨rfl, rfl, rfl, by decide +kernel, rfl, by decide +kernel, by decide +kernel⟩
def wdLawSeen : WS :=
(wSeq (wAsg 1 (wRes (wIdx (wVar 0) (wC (.int 0)))))
(wSeq (wAsg 2 (wFrz (wLc (wItL (wIdx (wVar 0) (wC (.int 1)))) (tgName 3) [3] wYes (wSlL (wFld fld_memory (wVar 1)) (wPart (wMul (wC (.int 16)) (wVar 3))) (wPart (wAdd (wMul (wC (.int 16)) (wVar 3)) (wC (.int 16))))))))
(wRetO (wLst (wCons (wFld fld_mode (wVar 1)) (wCons (wFld fld_pc (wVar 1)) (wCons (wFrz (wListOf (wCons (wFld fld_user (wVar 1)) wNil))) (wCons (wSub (wFld fld_tick (wVar 1)) (wIdx (wVar 0) (wC (.int 2)))) (wCons (wVar 2) (wCons (wFld fld_given (wVar 1)) wNil))))))))))
@[irreducible] def cLawSeen : CW := cwOf 1 3 wdLawSeen

abbrev sLawOutside : Stmt := topS 79
abbrev NLawOutside : List Str := ["world", "machine", "at"]
abbrev PLawOutside : List Str := ["world"]
theorem scLawOutside : FnScope NLawOutside PLawOutside (defScope sLawOutside) := ⟨rfl, rfl, rfl, by decide +kernel, rfl, by decide +kernel, by decide +kernel⟩
def wdLawOutside : WS :=
(wSeq (wAsg 1 (wRes (wIdx (wVar 0) (wC (.int 0)))))
(wCut (wFor (wRng1 (wCons (wCB fLen (wCons (wIdx (wVar 0) (wC (.int 3))) wNil)) wNil)) (tgName 2)
(wIf (wAndT (wB (wBin (sIn true) (wDiv (wVar 2) (wC (.int 16))) (wIdx (wVar 0) (wC (.int 1))))) (wB (wBin (sEq true) (wIdx (wFld fld_memory (wVar 1)) (wVar 2)) (wIdx (wIdx (wVar 0) (wC (.int 3))) (wVar 2)))))
(wRet (wC (.bool false)))
wNext))
(wRet (wBin (sEq false) (wCB fLen (wCons (wFld fld_memory (wVar 1)) wNil)) (wCB fLen (wCons (wIdx (wVar 0) (wC (.int 3))) wNil))))))
@[irreducible] def cLawOutside : CW := cwOf 1 2 wdLawOutside

abbrev sLaw : Stmt := topS 80
abbrev NLaw : List Str := ["script", "cells", "cell", "plain", "one", "other", "turn", "ends", "world"]
abbrev PLaw : List Str := ["script"]
theorem scLaw : FnScope NLaw PLaw (defScope sLaw) := ⟨rfl, rfl, rfl, by decide +kernel, rfl, by decide +kernel, by decide +kernel⟩
def wdLaw : WS :=
(wSeq (wNew 1 (wLc (wItL (wVar 0)) (tgName 2) [2] wYes (wLift (wCB fInt (wCons (wVar 2) wNil)))))
(wCut (wWhile (wB (wBin sLt (wCB fLen (wCons (wVar 1) wNil)) (wC (.int 6))))
(wApp (wVar 1) (wLift (wAdd (wCB fLen (wCons (wVar 1) wNil)) (wC (.int 8))))))
(wSeq (wAsg 3 (wFrz (wCall cLawPlain (wCons (wVar 1) wNil))))
(wSeq (wAsgR 4 cLawWorld (wCons (wVar 3) (wCons (wFrz (wCall cLawNumber (wCons (wIdx (wVar 1) (wC (.int 4))) (wCons (wC (.int 17)) wNil)))) wNil)))
(wSeq (wAsgR 5 cLawWorld (wCons (wVar 3) (wCons (wFrz (wCall cLawNumber (wCons (wIdx (wVar 1) (wC (.int 5))) (wCons (wC (.int 18)) wNil)))) wNil)))
(wSeq (wIf (wB (wBin (sEqV true) (wFrz (wCallB cLawSeen (wCons (wVar 4) wNil))) (wFrz (wCallB cLawSeen (wCons (wVar 5) wNil)))))
(wRet (wC (.bool false)))
wNext)
(wCut (wFor (wRng1 (wCons (wC (.int 100)) wNil)) (tgName 6)
(wSeq (wDrop (wFrz (wMeth 5 cMachineStep (wRes (wIdx (wVar 4) (wC (.int 0)))) wNil)))
(wSeq (wDrop (wFrz (wMeth 5 cMachineStep (wRes (wIdx (wVar 5) (wC (.int 0)))) wNil)))
(wSeq (wIf (wOrT (wB (wBin (sEqV true) (wFrz (wCallB cLawSeen (wCons (wVar 4) wNil))) (wFrz (wCallB cLawSeen (wCons (wVar 5) wNil))))) (wOrT (wNotT (wB (wFrz (wCallB cLawOutside (wCons (wVar 4) wNil))))) (wNotT (wB (wFrz (wCallB cLawOutside (wCons (wVar 5) wNil)))))))
(wRet (wC (.bool false)))
wNext)
(wIf (wB (wBin (sEq true) (wFld fld_mode (wRes (wIdx (wVar 4) (wC (.int 0))))) (wC (.str "user"))))
(wSeq (wAsg 7 (wFrz (wLc (wItL (wFrz (wLst (wCons (wVar 4) (wCons (wVar 5) wNil))))) (tgName 8) [8] wYes (wCatL (wFrz (wSlL (wFld fld_specials (wRes (wIdx (wVar 8) (wC (.int 0))))) wNo (wPart (wC (.int 3))))) (wFrz (wLst (wCons (wSub (wFld fld_tick (wRes (wIdx (wVar 8) (wC (.int 0))))) (wIdx (wVar 8) (wC (.int 2)))) wNil)))))))
(wRet (wAndV (wBin (sEqV false) (wIdx (wVar 7) (wC (.int 0))) (wIdx (wVar 7) (wC (.int 1)))) (wAndV (wBin (sEq false) (wFld fld_mode (wRes (wIdx (wVar 4) (wC (.int 0))))) (wC (.str "kernel"))) (wBin sLe (wVar 6) (wKey (wVar 3) (wC (.str "alarm"))))))))
wNext)))))
(wRet (wC (.bool false))))))))))
@[irreducible] def cLaw : CW := cwOf 1 8 wdLaw

structure Tx (K : PySem.W.Frag) (w : World) (mg : Str → Option Value) where
  cTrap : Addr
  gTrap : mg "Trap" = some (.ref cTrap)
  oeTrap : OexC K cTrap
  aTrapInit : Addr
  fdTrapInit : FuncData
  FTrapInit : Fun K "__init__" "Trap.__init__" sTrapInit aTrapInit fdTrapInit
  bTrapInit : Binds K fdTrapInit PTrapInit []
  iTrap : PySem.W.findIn K (.ref cTrap) "__init__" = some (some (.ref aTrapInit))
  tiTrap : PySem.W.typeIn K (.ref aTrapInit) = some (.type "function")
  xfTrap : XfC K cTrap
  exTrap : PySem.W.exmOne K (.ref cTrap) (.ref cTrap) = some true
  nTrap_cause : PySem.W.findIn K (.ref cTrap) "cause" = some none
  nTrap_value : PySem.W.findIn K (.ref cTrap) "value" = some none
  cKernelView : Addr
  gKernelView : mg "KernelView" = some (.ref cKernelView)
  clKernelView : Cls K cKernelView
  cUserView : Addr
  gUserView : mg "UserView" = some (.ref cUserView)
  clUserView : Cls K cUserView
  cMachine : Addr
  gMachine : mg "Machine" = some (.ref cMachine)
  clMachine : Cls K cMachine
  aWrap : Addr
  fdWrap : FuncData
  dWrap : DefAt K mg "wrap" sWrap aWrap fdWrap PWrap
  aAdd : Addr
  fdAdd : FuncData
  dAdd : DefAt K mg "add" sAdd aAdd fdAdd PAdd
  aSub : Addr
  fdSub : FuncData
  dSub : DefAt K mg "sub" sSub aSub fdSub PSub
  aMul : Addr
  fdMul : FuncData
  dMul : DefAt K mg "mul" sMul aMul fdMul PMul
  aBitAnd : Addr
  fdBitAnd : FuncData
  dBitAnd : DefAt K mg "bit_and" sBitAnd aBitAnd fdBitAnd PBitAnd
  aBitOr : Addr
  fdBitOr : FuncData
  dBitOr : DefAt K mg "bit_or" sBitOr aBitOr fdBitOr PBitOr
  aBitXor : Addr
  fdBitXor : FuncData
  dBitXor : DefAt K mg "bit_xor" sBitXor aBitXor fdBitXor PBitXor
  aShiftLeft : Addr
  fdShiftLeft : FuncData
  dShiftLeft : DefAt K mg "shift_left" sShiftLeft aShiftLeft fdShiftLeft PShiftLeft
  aShiftRight : Addr
  fdShiftRight : FuncData
  dShiftRight : DefAt K mg "shift_right" sShiftRight aShiftRight fdShiftRight PShiftRight
  aFieldsFit : Addr
  fdFieldsFit : FuncData
  dFieldsFit : DefAt K mg "fields_fit" sFieldsFit aFieldsFit fdFieldsFit PFieldsFit
  aDecode : Addr
  fdDecode : FuncData
  dDecode : DefAt K mg "decode" sDecode aDecode fdDecode PDecode
  aWriteInput : Addr
  fdWriteInput : FuncData
  dWriteInput : DefAt K mg "write_input" sWriteInput aWriteInput fdWriteInput PWriteInput
  aHalt : Addr
  fdHalt : FuncData
  dHalt : DefAt K mg "halt" sHalt aHalt fdHalt PHalt
  aCall : Addr
  fdCall : FuncData
  dCall : DefAt K mg "call" sCall aCall fdCall PCall
  aKernelViewInit : Addr
  fdKernelViewInit : FuncData
  mKernelViewInit : MethAt K "__init__" "KernelView.__init__" sKernelViewInit aKernelViewInit fdKernelViewInit PKernelViewInit
  mkKernelView : Mk K cKernelView aKernelViewInit
  aKernelViewLoad : Addr
  fdKernelViewLoad : FuncData
  mKernelViewLoad : MethAt K "load" "KernelView.load" sKernelViewLoad aKernelViewLoad fdKernelViewLoad PKernelViewLoad
  hKernelViewLoad : Meth K cKernelView "load" aKernelViewLoad
  aKernelViewFetch : Addr
  fdKernelViewFetch : FuncData
  mKernelViewFetch : MethAt K "fetch" "KernelView.fetch" sKernelViewFetch aKernelViewFetch fdKernelViewFetch PKernelViewFetch
  hKernelViewFetch : Meth K cKernelView "fetch" aKernelViewFetch
  aKernelViewStore : Addr
  fdKernelViewStore : FuncData
  mKernelViewStore : MethAt K "store" "KernelView.store" sKernelViewStore aKernelViewStore fdKernelViewStore PKernelViewStore
  hKernelViewStore : Meth K cKernelView "store" aKernelViewStore
  aUserViewInit : Addr
  fdUserViewInit : FuncData
  mUserViewInit : MethAt K "__init__" "UserView.__init__" sUserViewInit aUserViewInit fdUserViewInit PUserViewInit
  mkUserView : Mk K cUserView aUserViewInit
  aUserViewIndexOf : Addr
  fdUserViewIndexOf : FuncData
  mUserViewIndexOf : MethAt K "index_of" "UserView.index_of" sUserViewIndexOf aUserViewIndexOf fdUserViewIndexOf PUserViewIndexOf
  hUserViewIndexOf : Meth K cUserView "index_of" aUserViewIndexOf
  aUserViewFetch : Addr
  fdUserViewFetch : FuncData
  mUserViewFetch : MethAt K "fetch" "UserView.fetch" sUserViewFetch aUserViewFetch fdUserViewFetch PUserViewFetch
  hUserViewFetch : Meth K cUserView "fetch" aUserViewFetch
  aUserViewLoad : Addr
  fdUserViewLoad : FuncData
  mUserViewLoad : MethAt K "load" "UserView.load" sUserViewLoad aUserViewLoad fdUserViewLoad PUserViewLoad
  hUserViewLoad : Meth K cUserView "load" aUserViewLoad
  aUserViewStore : Addr
  fdUserViewStore : FuncData
  mUserViewStore : MethAt K "store" "UserView.store" sUserViewStore aUserViewStore fdUserViewStore PUserViewStore
  hUserViewStore : Meth K cUserView "store" aUserViewStore
  aSetWord : Addr
  fdSetWord : FuncData
  dSetWord : DefAt K mg "set_word" sSetWord aSetWord fdSetWord PSetWord
  aCopyWord : Addr
  fdCopyWord : FuncData
  dCopyWord : DefAt K mg "copy_word" sCopyWord aCopyWord fdCopyWord PCopyWord
  aCalculated : Addr
  fdCalculated : FuncData
  dCalculated : DefAt K mg "calculated" sCalculated aCalculated fdCalculated PCalculated
  aCalculate : Addr
  fdCalculate : FuncData
  dCalculate : DefAt K mg "calculate" sCalculate aCalculate fdCalculate PCalculate
  aShiftWordLeft : Addr
  fdShiftWordLeft : FuncData
  dShiftWordLeft : DefAt K mg "shift_word_left" sShiftWordLeft aShiftWordLeft fdShiftWordLeft PShiftWordLeft
  aShiftWordRight : Addr
  fdShiftWordRight : FuncData
  dShiftWordRight : DefAt K mg "shift_word_right" sShiftWordRight aShiftWordRight fdShiftWordRight PShiftWordRight
  aSmall : Addr
  fdSmall : FuncData
  dSmall : DefAt K mg "small" sSmall aSmall fdSmall PSmall
  aAddSmall : Addr
  fdAddSmall : FuncData
  dAddSmall : DefAt K mg "add_small" sAddSmall aAddSmall fdAddSmall PAddSmall
  aLoadWord : Addr
  fdLoadWord : FuncData
  dLoadWord : DefAt K mg "load_word" sLoadWord aLoadWord fdLoadWord PLoadWord
  aStoreWord : Addr
  fdStoreWord : FuncData
  dStoreWord : DefAt K mg "store_word" sStoreWord aStoreWord fdStoreWord PStoreWord
  aJump : Addr
  fdJump : FuncData
  dJump : DefAt K mg "jump" sJump aJump fdJump PJump
  aJumpAndLink : Addr
  fdJumpAndLink : FuncData
  dJumpAndLink : DefAt K mg "jump_and_link" sJumpAndLink aJumpAndLink fdJumpAndLink PJumpAndLink
  aHolds : Addr
  fdHolds : FuncData
  dHolds : DefAt K mg "holds" sHolds aHolds fdHolds PHolds
  aBranch : Addr
  fdBranch : FuncData
  dBranch : DefAt K mg "branch" sBranch aBranch fdBranch PBranch
  aCarryOut : Addr
  fdCarryOut : FuncData
  dCarryOut : DefAt K mg "carry_out" sCarryOut aCarryOut fdCarryOut PCarryOut
  aUserStep : Addr
  fdUserStep : FuncData
  dUserStep : DefAt K mg "user_step" sUserStep aUserStep fdUserStep PUserStep
  aMachineInit : Addr
  fdMachineInit : FuncData
  mMachineInit : MethAt K "__init__" "Machine.__init__" sMachineInit aMachineInit fdMachineInit PMachineInit
  mkMachine : Mk K cMachine aMachineInit
  aMachineTakeInputs : Addr
  fdMachineTakeInputs : FuncData
  mMachineTakeInputs : MethAt K "take_inputs" "Machine.take_inputs" sMachineTakeInputs aMachineTakeInputs fdMachineTakeInputs PMachineTakeInputs
  hMachineTakeInputs : Meth K cMachine "take_inputs" aMachineTakeInputs
  aMachineEnterKernel : Addr
  fdMachineEnterKernel : FuncData
  mMachineEnterKernel : MethAt K "enter_kernel" "Machine.enter_kernel" sMachineEnterKernel aMachineEnterKernel fdMachineEnterKernel PMachineEnterKernel
  hMachineEnterKernel : Meth K cMachine "enter_kernel" aMachineEnterKernel
  aMachineUserTick : Addr
  fdMachineUserTick : FuncData
  mMachineUserTick : MethAt K "user_tick" "Machine.user_tick" sMachineUserTick aMachineUserTick fdMachineUserTick PMachineUserTick
  hMachineUserTick : Meth K cMachine "user_tick" aMachineUserTick
  aMachineSpecial : Addr
  fdMachineSpecial : FuncData
  mMachineSpecial : MethAt K "special" "Machine.special" sMachineSpecial aMachineSpecial fdMachineSpecial PMachineSpecial
  hMachineSpecial : Meth K cMachine "special" aMachineSpecial
  aMachineKernelOnly : Addr
  fdMachineKernelOnly : FuncData
  mMachineKernelOnly : MethAt K "kernel_only" "Machine.kernel_only" sMachineKernelOnly aMachineKernelOnly fdMachineKernelOnly PMachineKernelOnly
  hMachineKernelOnly : Meth K cMachine "kernel_only" aMachineKernelOnly
  aMachineKernelTick : Addr
  fdMachineKernelTick : FuncData
  mMachineKernelTick : MethAt K "kernel_tick" "Machine.kernel_tick" sMachineKernelTick aMachineKernelTick fdMachineKernelTick PMachineKernelTick
  hMachineKernelTick : Meth K cMachine "kernel_tick" aMachineKernelTick
  aMachineStep : Addr
  fdMachineStep : FuncData
  mMachineStep : MethAt K "step" "Machine.step" sMachineStep aMachineStep fdMachineStep PMachineStep
  hMachineStep : Meth K cMachine "step" aMachineStep
  aMachineState : Addr
  fdMachineState : FuncData
  mMachineState : MethAt K "state" "Machine.state" sMachineState aMachineState fdMachineState PMachineState
  hMachineState : Meth K cMachine "state" aMachineState
  aResumed : Addr
  fdResumed : FuncData
  dResumed : DefAt K mg "resumed" sResumed aResumed fdResumed PResumed
  aLawNumber : Addr
  fdLawNumber : FuncData
  dLawNumber : DefAt K mg "_law_number" sLawNumber aLawNumber fdLawNumber PLawNumber
  aLawWord : Addr
  fdLawWord : FuncData
  dLawWord : DefAt K mg "_law_word" sLawWord aLawWord fdLawWord PLawWord
  aLawRow : Addr
  fdLawRow : FuncData
  dLawRow : DefAt K mg "_law_row" sLawRow aLawRow fdLawRow PLawRow
  aLawPlain : Addr
  fdLawPlain : FuncData
  dLawPlain : DefAt K mg "_law_plain" sLawPlain aLawPlain fdLawPlain PLawPlain
  aLawWorld : Addr
  fdLawWorld : FuncData
  dLawWorld : DefAt K mg "_law_world" sLawWorld aLawWorld fdLawWorld PLawWorld
  aLawSeen : Addr
  fdLawSeen : FuncData
  dLawSeen : DefAt K mg "_law_seen" sLawSeen aLawSeen fdLawSeen PLawSeen
  aLawOutside : Addr
  fdLawOutside : FuncData
  dLawOutside : DefAt K mg "_law_outside" sLawOutside aLawOutside fdLawOutside PLawOutside
  aLaw : Addr
  fdLaw : FuncData
  dLaw : DefAt K mg "law" sLaw aLaw fdLaw PLaw
  nKernelView_machine : NoAttr K cKernelView "machine"
  nUserView_machine : NoAttr K cUserView "machine"
  nMachine_memory : NoAttr K cMachine "memory"
  nMachine_rings : NoAttr K cMachine "rings"
  nMachine_inputs : NoAttr K cMachine "inputs"
  nMachine_mode : NoAttr K cMachine "mode"
  nMachine_pc : NoAttr K cMachine "pc"
  nMachine_user : NoAttr K cMachine "user"
  nMachine_kernel : NoAttr K cMachine "kernel"
  nMachine_specials : NoAttr K cMachine "specials"
  nMachine_tick : NoAttr K cMachine "tick"
  nMachine_given : NoAttr K cMachine "given"
  nMachine_kernel_view : NoAttr K cMachine "kernel_view"
  nMachine_user_view : NoAttr K cMachine "user_view"
  b_len : mg "len" = none
  b_int : mg "int" = none
  b_range : mg "range" = none
  b_tuple : mg "tuple" = none
  b_list : mg "list" = none
  gWORDS : ∃ t, mg "WORDS" = some (.int 65536 t)
  gFIRST : ∃ t, mg "FIRST" = some (.int 2 t)
  gSLOTS : ∃ t, mg "SLOTS" = some (.int 14 t)
  gILLEGAL : ∃ t, mg "ILLEGAL" = some (.int 1 t)
  gADDRESS : ∃ t, mg "ADDRESS" = some (.int 2 t)
  gCALLED : ∃ t, mg "CALLED" = some (.int 3 t)
  gHALTED : ∃ t, mg "HALTED" = some (.int 5 t)
  gPAGE : ∃ t, mg "PAGE" = some (.int 16 t)
  gUSER_WORDS : ∃ t, mg "USER_WORDS" = some (.int 128 t)
  gREAD : ∃ t, mg "READ" = some (.int 1 t)
  gWRITE : ∃ t, mg "WRITE" = some (.int 2 t)
  gEXECUTE : ∃ t, mg "EXECUTE" = some (.int 4 t)
  gRIGHTS : ∃ t, mg "RIGHTS" = some (.int 8 t)
  gEPC : ∃ t, mg "EPC" = some (.int 0 t)
  gCAUSE : ∃ t, mg "CAUSE" = some (.int 1 t)
  gVALUE : ∃ t, mg "VALUE" = some (.int 2 t)
  gMAP : ∃ t, mg "MAP" = some (.int 3 t)
  gALARM : ∃ t, mg "ALARM" = some (.int 4 t)
  gTICKS : ∃ t, mg "TICKS" = some (.int 5 t)
  gTRAPPED : ∃ t, mg "TRAPPED" = some (.int 6 t)
  gALARMED : ∃ t, mg "ALARMED" = some (.int 6 t)
  aOPS : Addr
  gOPS : mg "OPS" = some (.ref aOPS)
  dOPS : ∀ (C : Cs) (G : Hp), DR K C G (.ref aOPS) tpOPS
  aKERNELONLY : Addr
  gKERNELONLY : mg "KERNEL_ONLY" = some (.ref aKERNELONLY)
  dKERNELONLY : ∀ (C : Cs) (G : Hp), DR K C G (.ref aKERNELONLY) tpKERNELONLY
  aGREATEST : Addr
  gGREATEST : mg "GREATEST" = some (.ref aGREATEST)
  kGREATEST : ∀ C, KTab K C w aGREATEST tbGREATEST
  aACTIONS : Addr
  gACTIONS : mg "ACTIONS" = some (.ref aACTIONS)
  kACTIONS : ∀ C : Cs, C.fn = (fun j => ([aHalt, aSetWord, aCopyWord, aCalculate, aShiftWordLeft, aShiftWordRight, aAddSmall, aLoadWord, aStoreWord, aJump, aJumpAndLink, aBranch, aCall] : List Addr).getD j 0) → KTab K C w aACTIONS tbACTIONS
  gKERNEL : ∃ t, mg "KERNEL" = some (.str "kernel" t)
  gUSER : ∃ t, mg "USER" = some (.str "user" t)
  gBROKEN : ∃ t, mg "BROKEN" = some (.str "broken" t)
def lys : List (List Str) := [[], ["value", "cause"], [], ["machine"], ["machine"], ["memory", "rings", "inputs", "mode", "pc", "user", "kernel", "specials", "tick", "given", "kernel_view", "user_view"]]
def Tx.cs {K : PySem.W.Frag} {w : World} {mg : Str → Option Value} (T : Tx K w mg) : Cs := ⟨fun c => ([0, T.cTrap, 0, T.cKernelView, T.cUserView, T.cMachine] : List Addr).getD c 0, fun c => lys.getD c [], fun j => ([T.aHalt, T.aSetWord, T.aCopyWord, T.aCalculate, T.aShiftWordLeft, T.aShiftWordRight, T.aAddSmall, T.aLoadWord, T.aStoreWord, T.aJump, T.aJumpAndLink, T.aBranch, T.aCall] : List Addr).getD j 0⟩
theorem Tx.fk_machine {K : PySem.W.Frag} {w : World} {mg : Str → Option Value} (T : Tx K w mg) : FOk K T.cs fld_machine "machine" := fun c i h => by
  unfold fld_machine at h
  split at h
  · cases h
    exact ⟨T.clKernelView, T.nKernelView_machine, rfl, show (lys.getD 3 []).Nodup by decide +kernel⟩
  · cases h
    exact ⟨T.clUserView, T.nUserView_machine, rfl, show (lys.getD 4 []).Nodup by decide +kernel⟩
  · cases h
theorem Tx.fk_memory {K : PySem.W.Frag} {w : World} {mg : Str → Option Value} (T : Tx K w mg) : FOk K T.cs fld_memory "memory" := fun c i h => by
  unfold fld_memory at h
  split at h
  · cases h
    exact ⟨T.clMachine, T.nMachine_memory, rfl, show (lys.getD 5 []).Nodup by decide +kernel⟩
  · cases h
theorem Tx.fk_rings {K : PySem.W.Frag} {w : World} {mg : Str → Option Value} (T : Tx K w mg) : FOk K T.cs fld_rings "rings" := fun c i h => by
  unfold fld_rings at h
  split at h
  · cases h
    exact ⟨T.clMachine, T.nMachine_rings, rfl, show (lys.getD 5 []).Nodup by decide +kernel⟩
  · cases h
theorem Tx.fk_inputs {K : PySem.W.Frag} {w : World} {mg : Str → Option Value} (T : Tx K w mg) : FOk K T.cs fld_inputs "inputs" := fun c i h => by
  unfold fld_inputs at h
  split at h
  · cases h
    exact ⟨T.clMachine, T.nMachine_inputs, rfl, show (lys.getD 5 []).Nodup by decide +kernel⟩
  · cases h
theorem Tx.fk_mode {K : PySem.W.Frag} {w : World} {mg : Str → Option Value} (T : Tx K w mg) : FOk K T.cs fld_mode "mode" := fun c i h => by
  unfold fld_mode at h
  split at h
  · cases h
    exact ⟨T.clMachine, T.nMachine_mode, rfl, show (lys.getD 5 []).Nodup by decide +kernel⟩
  · cases h
theorem Tx.fk_pc {K : PySem.W.Frag} {w : World} {mg : Str → Option Value} (T : Tx K w mg) : FOk K T.cs fld_pc "pc" := fun c i h => by
  unfold fld_pc at h
  split at h
  · cases h
    exact ⟨T.clMachine, T.nMachine_pc, rfl, show (lys.getD 5 []).Nodup by decide +kernel⟩
  · cases h
theorem Tx.fk_user {K : PySem.W.Frag} {w : World} {mg : Str → Option Value} (T : Tx K w mg) : FOk K T.cs fld_user "user" := fun c i h => by
  unfold fld_user at h
  split at h
  · cases h
    exact ⟨T.clMachine, T.nMachine_user, rfl, show (lys.getD 5 []).Nodup by decide +kernel⟩
  · cases h
theorem Tx.fk_kernel {K : PySem.W.Frag} {w : World} {mg : Str → Option Value} (T : Tx K w mg) : FOk K T.cs fld_kernel "kernel" := fun c i h => by
  unfold fld_kernel at h
  split at h
  · cases h
    exact ⟨T.clMachine, T.nMachine_kernel, rfl, show (lys.getD 5 []).Nodup by decide +kernel⟩
  · cases h
theorem Tx.fk_specials {K : PySem.W.Frag} {w : World} {mg : Str → Option Value} (T : Tx K w mg) : FOk K T.cs fld_specials "specials" := fun c i h => by
  unfold fld_specials at h
  split at h
  · cases h
    exact ⟨T.clMachine, T.nMachine_specials, rfl, show (lys.getD 5 []).Nodup by decide +kernel⟩
  · cases h
theorem Tx.fk_tick {K : PySem.W.Frag} {w : World} {mg : Str → Option Value} (T : Tx K w mg) : FOk K T.cs fld_tick "tick" := fun c i h => by
  unfold fld_tick at h
  split at h
  · cases h
    exact ⟨T.clMachine, T.nMachine_tick, rfl, show (lys.getD 5 []).Nodup by decide +kernel⟩
  · cases h
theorem Tx.fk_given {K : PySem.W.Frag} {w : World} {mg : Str → Option Value} (T : Tx K w mg) : FOk K T.cs fld_given "given" := fun c i h => by
  unfold fld_given at h
  split at h
  · cases h
    exact ⟨T.clMachine, T.nMachine_given, rfl, show (lys.getD 5 []).Nodup by decide +kernel⟩
  · cases h
theorem Tx.fk_kernel_view {K : PySem.W.Frag} {w : World} {mg : Str → Option Value} (T : Tx K w mg) : FOk K T.cs fld_kernel_view "kernel_view" := fun c i h => by
  unfold fld_kernel_view at h
  split at h
  · cases h
    exact ⟨T.clMachine, T.nMachine_kernel_view, rfl, show (lys.getD 5 []).Nodup by decide +kernel⟩
  · cases h
theorem Tx.fk_user_view {K : PySem.W.Frag} {w : World} {mg : Str → Option Value} (T : Tx K w mg) : FOk K T.cs fld_user_view "user_view" := fun c i h => by
  unfold fld_user_view at h
  split at h
  · cases h
    exact ⟨T.clMachine, T.nMachine_user_view, rfl, show (lys.getD 5 []).Nodup by decide +kernel⟩
  · cases h
section
variable {P : Program} {w : World} {K : PySem.W.Frag} {mg : Str → Option Value} {base : Heap}
theorem ok_TrapInit (T : Tx K w mg) : FnOk P w K mg base CX0 1 T.aTrapInit T.fdTrapInit PTrapInit (spX T.cTrap ["cause", "value"]) := by
  refine T.FTrapInit.ok scTrapInit (fun vs H Q E h => ?_) (fun cdv A outer s H vs Q E hr h => ?_)
  · obtain ⟨a, xs, rfl, hl, _⟩ := h
    show xs.length + 1 = 3
    rw [hl]
    rfl
  · obtain ⟨a, xs, rfl, hl, ha, k⟩ := h
    match xs, hl with
    | [x0, x1], _ =>
    refine ⟨_, (pss_cons (ps_ost (pv 0) (pv 1)) (pss_one (ps_ost (pv 0) (pv 2)))), ?_⟩
    refine ⟨_, rfl, _, rfl, a, T.cTrap, rfl, T.oeTrap, T.nTrap_cause, .inl ⟨ha, fun dx hdx hne => ?_⟩⟩
    have han : a ≠ dx := fun z => hne z.symm
    refine ⟨_, rfl, _, rfl, a, T.cTrap, rfl, T.oeTrap, T.nTrap_value, .inr ⟨dx, _, by rw [upd_same], by rw [upd_ne hne, upd_same], by show 1 ≤ 900; decide, ?_⟩⟩
    refine k dx _ hdx hne (by rw [upd_ne han, upd_same]) upd_same fun b o hb e => ?_
    have hbd : b ≠ dx := ne_of_none e hdx
    rw [upd_ne hbd, upd_ne hb, upd_ne hbd]
    exact e

theorem ok_Wrap (T : Tx K w mg) : FnOk P w K mg base (L2N.CX P w) 1 T.aWrap T.fdWrap PWrap (spW K T.cs cWrap) := by
  unfold cWrap
  exact ok_W T.dWrap.F scWrap rfl fun cdv A outer s H E hr tk => by
    unfold wdWrap
    exact (wss_one (ws_ret (we_mod (we_var (pv 0)) (we_c (pe_glob (v := .int 65536) (by rfl) T.gWORDS.choose_spec ⟨_, rfl⟩) fun _ => .int _))))
theorem okh_Wrap (T : Tx K w mg) : L2H.FnH P w K mg base CX0 1 T.aWrap T.fdWrap PWrap (sp0 K T.cs cWrap) := by
  unfold cWrap
  exact ok_WH T.dWrap.F scWrap rfl fun cdv A outer s H E p hot hr => by
    unfold wdWrap
    exact (wss_one (ws_ret (we_mod (we_var (pv 0)) (we_c (pe_glob (v := .int 65536) (by rfl) T.gWORDS.choose_spec ⟨_, rfl⟩) fun _ => .int _))))

theorem ok_Add (T : Tx K w mg) : FnOk P w K mg base (L2N.CX P w) 2 T.aAdd T.fdAdd PAdd (spW K T.cs cAdd) := by
  unfold cAdd
  exact ok_W T.dAdd.F scAdd rfl fun cdv A outer s H E hr tk => by
    unfold wdAdd
    exact (wss_one (ws_retO (wo_callN (E := fun _ _ _ _ => False) (pe_callS (ok_Wrap T) (hr.mono (by decide)) (by rfl) T.dWrap.g T.dWrap.F.kp T.dWrap.b (fun σ => noPassN σ) (wa_cons (we_add (we_var (pv 0)) (we_var (pv 1))) wa_nil)))))
theorem okh_Add (T : Tx K w mg) : L2H.FnH P w K mg base CX0 2 T.aAdd T.fdAdd PAdd (sp0 K T.cs cAdd) := by
  unfold cAdd
  exact ok_WH T.dAdd.F scAdd rfl fun cdv A outer s H E p hot hr => by
    unfold wdAdd
    exact (wss_one (ws_retO (wo_callH (E := fun _ _ _ _ => False) (L2H.pe_callH (okh_Wrap T) (hr.mono (by decide)) hot (by rfl) T.dWrap.g T.dWrap.F.kp T.dWrap.b passZ (wa_cons (we_add (we_var (pv 0)) (we_var (pv 1))) wa_nil)))))

theorem ok_Sub (T : Tx K w mg) : FnOk P w K mg base (L2N.CX P w) 2 T.aSub T.fdSub PSub (spW K T.cs cSub) := by
  unfold cSub
  exact ok_W T.dSub.F scSub rfl fun cdv A outer s H E hr tk => by
    unfold wdSub
    exact (wss_one (ws_retO (wo_call (pe_callS (ok_Wrap T) (hr.mono (by decide)) (by rfl) T.dWrap.g T.dWrap.F.kp T.dWrap.b (fun σ => L2N.passAt tk σ) (wa_cons (we_sub (we_var (pv 0)) (we_var (pv 1))) wa_nil)))))

theorem ok_Mul (T : Tx K w mg) : FnOk P w K mg base (L2N.CX P w) 2 T.aMul T.fdMul PMul (spW K T.cs cMul) := by
  unfold cMul
  exact ok_W T.dMul.F scMul rfl fun cdv A outer s H E hr tk => by
    unfold wdMul
    exact (wss_one (ws_retO (wo_call (pe_callS (ok_Wrap T) (hr.mono (by decide)) (by rfl) T.dWrap.g T.dWrap.F.kp T.dWrap.b (fun σ => L2N.passAt tk σ) (wa_cons (we_mul (we_var (pv 0)) (we_var (pv 1))) wa_nil)))))

theorem ok_BitAnd (T : Tx K w mg) : FnOk P w K mg base (L2N.CX P w) 1 T.aBitAnd T.fdBitAnd PBitAnd (spW K T.cs cBitAnd) := by
  unfold cBitAnd
  exact ok_W T.dBitAnd.F scBitAnd rfl fun cdv A outer s H E hr tk => by
    unfold wdBitAnd
    exact (wss_one (ws_ret (we_and (we_var (pv 0)) (we_var (pv 1)))))

theorem ok_BitOr (T : Tx K w mg) : FnOk P w K mg base (L2N.CX P w) 1 T.aBitOr T.fdBitOr PBitOr (spW K T.cs cBitOr) := by
  unfold cBitOr
  exact ok_W T.dBitOr.F scBitOr rfl fun cdv A outer s H E hr tk => by
    unfold wdBitOr
    exact (wss_one (ws_ret (we_or (we_var (pv 0)) (we_var (pv 1)))))

theorem ok_BitXor (T : Tx K w mg) : FnOk P w K mg base (L2N.CX P w) 1 T.aBitXor T.fdBitXor PBitXor (spW K T.cs cBitXor) := by
  unfold cBitXor
  exact ok_W T.dBitXor.F scBitXor rfl fun cdv A outer s H E hr tk => by
    unfold wdBitXor
    exact (wss_one (ws_ret (we_xor (we_var (pv 0)) (we_var (pv 1)))))

theorem ok_ShiftLeft (T : Tx K w mg) : FnOk P w K mg base (L2N.CX P w) 2 T.aShiftLeft T.fdShiftLeft PShiftLeft (spW K T.cs cShiftLeft) := by
  unfold cShiftLeft
  exact ok_W T.dShiftLeft.F scShiftLeft rfl fun cdv A outer s H E hr tk => by
    unfold wdShiftLeft
    exact (wss_one (ws_retO (wo_call (pe_callS (ok_Wrap T) (hr.mono (by decide)) (by rfl) T.dWrap.g T.dWrap.F.kp T.dWrap.b (fun σ => L2N.passAt tk σ) (wa_cons (we_shl (we_var (pv 0)) (we_var (pv 1))) wa_nil)))))

theorem ok_ShiftRight (T : Tx K w mg) : FnOk P w K mg base (L2N.CX P w) 1 T.aShiftRight T.fdShiftRight PShiftRight (spW K T.cs cShiftRight) := by
  unfold cShiftRight
  exact ok_W T.dShiftRight.F scShiftRight rfl fun cdv A outer s H E hr tk => by
    unfold wdShiftRight
    exact (wss_one (ws_ret (we_shr (we_var (pv 0)) (we_var (pv 1)))))

theorem ok_FieldsFit (T : Tx K w mg) : FnOk P w K mg base (L2N.CX P w) 1 T.aFieldsFit T.fdFieldsFit PFieldsFit (spW K T.cs cFieldsFit) := by
  unfold cFieldsFit
  exact ok_W T.dFieldsFit.F scFieldsFit rfl fun cdv A outer s H E hr tk => by
    unfold wdFieldsFit
    exact (wss_cons (ws_asgT (tg_tup (js := [4, 5, 6]) rfl) (ps_asg (we_kd (T.kGREATEST _) (pe_ix ix_kdict (pe_glob (v := .ref T.aGREATEST) (by rfl) T.gGREATEST rfl) (we_var (pv 0)) (fun _ _ => rfl))) (pg_tup rfl (pgs_cons (pg_name (i := 4) scFieldsFit.nd rfl (Or.inl rfl)) (pgs_cons (pg_name (i := 5) scFieldsFit.nd rfl (Or.inl rfl)) (pgs_cons (pg_name (i := 6) scFieldsFit.nd rfl (Or.inl rfl)) pgs_nil))))))
(wss_one (ws_ret (we_andV (we_chain op_le op_le s_le s_le we_int (we_var (pv 1)) (we_var (pv 4)) (pe_chain op_le op_le we_int (we_var (pv 1)) (we_var (pv 4)))) (we_andV (we_chain op_le op_le s_le s_le we_int (we_var (pv 2)) (we_var (pv 5)) (pe_chain op_le op_le we_int (we_var (pv 2)) (we_var (pv 5)))) (pe_one (we_chain op_le op_le s_le s_le we_int (we_var (pv 3)) (we_var (pv 6)) (pe_chain op_le op_le we_int (we_var (pv 3)) (we_var (pv 6))))))))))

theorem ok_Decode (T : Tx K w mg) : FnOk P w K mg base (L2N.CX P w) 2 T.aDecode T.fdDecode PDecode (spW K T.cs cDecode) := by
  unfold cDecode
  exact ok_W T.dDecode.F scDecode rfl fun cdv A outer s H E hr tk => by
    unfold wdDecode
    exact (wss_cons (ws_asg (ps_set (i := 1) scDecode.nd rfl (Or.inl rfl) (we_fdiv (we_var (pv 0)) we_int)))
(wss_cons (ws_if (wt_not (wt_chain s_le s_lt (pt_chain op_le op_lt we_int (we_var (pv 1)) (pe_imp (pe_callB call_len (by rfl) T.b_len PySem.boot_len (wa_cons (we_c (pe_glob (v := .ref T.aOPS) (by rfl) T.gOPS rfl) fun G => T.dOPS _ G) wa_nil)) (e_cb sa_len))))) (wss_one (ws_ret we_non)) wss_nil)
(wss_cons (ws_asg (ps_set (i := 2) scDecode.nd rfl (Or.inl rfl) (we_idx (we_c (pe_glob (v := .ref T.aOPS) (by rfl) T.gOPS rfl) fun G => T.dOPS _ G) (we_var (pv 1)) (fun _ _ => rfl))))
(wss_cons (ws_par3 (ps_par3 (i := 3) (j := 4) (l := 5) rfl scDecode.nd rfl rfl rfl (by decide) (by decide) (by decide) rfl rfl rfl (wa_cons (we_mod (we_fdiv (we_var (pv 0)) we_int) we_int) (wa_cons (we_mod (we_fdiv (we_var (pv 0)) we_int) we_int) (wa_cons (we_mod (we_var (pv 0)) we_int) wa_nil))) rfl))
(wss_cons (ws_if (wt_not (wt_val (we_frz (wo_call (pe_callS (ok_FieldsFit T) (hr.mono (by decide)) (by rfl) T.dFieldsFit.g T.dFieldsFit.F.kp T.dFieldsFit.b (fun σ => L2N.passAt tk σ) (wa_cons (we_var (pv 2)) (wa_cons (we_var (pv 3)) (wa_cons (we_var (pv 4)) (wa_cons (we_var (pv 5)) wa_nil))))))))) (wss_one (ws_ret we_non)) wss_nil)
(wss_one (ws_ret (we_tup (wa_cons (we_var (pv 2)) (wa_cons (we_var (pv 3)) (wa_cons (we_var (pv 4)) (wa_cons (we_var (pv 5)) wa_nil))))))))))))

theorem ok_WriteInput (T : Tx K w mg) : FnOk P w K mg base (L2N.CX P w) 3 T.aWriteInput T.fdWriteInput PWriteInput (spW K T.cs cWriteInput) := by
  unfold cWriteInput
  exact ok_W T.dWriteInput.F scWriteInput rfl fun cdv A outer s H E hr tk => by
    unfold wdWriteInput
    exact (wss_cons (ws_asg (ps_set (i := 3) scWriteInput.nd rfl (Or.inl rfl) (we_idx (we_var (pv 0)) (we_var (pv 1)) (fun _ _ => rfl))))
(wss_cons (ws_setI (ps_asg (we_var (pv 2)) (pg_sub (we_var (pv 0)) (we_add (we_add (we_var (pv 1)) (we_c (pe_glob (v := .int 2) (by rfl) T.gFIRST.choose_spec ⟨_, rfl⟩) fun _ => .int _)) (we_mod (we_var (pv 3)) (we_c (pe_glob (v := .int 14) (by rfl) T.gSLOTS.choose_spec ⟨_, rfl⟩) fun _ => .int _))) set_list)))
(wss_one (ws_setI (ps_asg (we_frz (wo_call (pe_callS (ok_Add T) (hr.mono (by decide)) (by rfl) T.dAdd.g T.dAdd.F.kp T.dAdd.b (fun σ => L2N.passAt tk σ) (wa_cons (we_var (pv 3)) (wa_cons we_int wa_nil))))) (pg_sub (we_var (pv 0)) (we_var (pv 1)) set_list))))))

theorem ok_Halt (T : Tx K w mg) : FnOk P w K mg base (L2N.CX P w) 4 T.aHalt T.fdHalt PHalt (spW K T.cs cHalt) := by
  unfold cHalt
  exact ok_W T.dHalt.F scHalt rfl fun cdv A outer s H E hr tk => by
    unfold wdHalt
    exact (wss_one (ws_raise (c := 1) (fs := ["cause", "value"]) rfl (by decide) rfl tk T.oeTrap T.iTrap T.tiTrap (ok_TrapInit T) (hr.mono (by decide)) T.bTrapInit (by rfl) T.gTrap (wa_cons (we_c (pe_glob (v := .int 5) (by rfl) T.gHALTED.choose_spec ⟨_, rfl⟩) fun _ => .int _) (wa_cons we_int wa_nil))))

theorem ok_Call (T : Tx K w mg) : FnOk P w K mg base (L2N.CX P w) 4 T.aCall T.fdCall PCall (spW K T.cs cCall) := by
  unfold cCall
  exact ok_W T.dCall.F scCall rfl fun cdv A outer s H E hr tk => by
    unfold wdCall
    exact (wss_one (ws_raise (c := 1) (fs := ["cause", "value"]) rfl (by decide) rfl tk T.oeTrap T.iTrap T.tiTrap (ok_TrapInit T) (hr.mono (by decide)) T.bTrapInit (by rfl) T.gTrap (wa_cons (we_c (pe_glob (v := .int 3) (by rfl) T.gCALLED.choose_spec ⟨_, rfl⟩) fun _ => .int _) (wa_cons (we_idx (we_var (pv 0)) we_int (fun _ _ => rfl)) wa_nil))))

theorem ok_KernelViewInit (T : Tx K w mg) : FnOk P w K mg base (L2N.CX P w) 1 T.aKernelViewInit T.fdKernelViewInit PKernelViewInit (spW K T.cs cKernelViewInit) := by
  unfold cKernelViewInit
  exact ok_W T.mKernelViewInit.F scKernelViewInit rfl fun cdv A outer s H E hr tk => by
    unfold wdKernelViewInit
    exact (wss_one (ws_setF T.fk_machine (we_var (pv 0)) (wo_bk (we_var (pv 1))) rfl))

theorem ok_KernelViewLoad (T : Tx K w mg) : FnOk P w K mg base (L2N.CX P w) 4 T.aKernelViewLoad T.fdKernelViewLoad PKernelViewLoad (spW K T.cs cKernelViewLoad) := by
  unfold cKernelViewLoad
  exact ok_W T.mKernelViewLoad.F scKernelViewLoad rfl fun cdv A outer s H E hr tk => by
    unfold wdKernelViewLoad
    exact (wss_cons (ws_if (wt_cmp op_ge s_ge (we_var (pv 1)) (pe_imp (pe_callB call_len (by rfl) T.b_len PySem.boot_len (wa_cons (we_fld T.fk_memory (we_res (we_fld T.fk_machine (we_var (pv 0)) rfl)) rfl) wa_nil)) (e_cb sa_len)) (nomark _)) (wss_one (ws_raise (c := 1) (fs := ["cause", "value"]) rfl (by decide) rfl tk T.oeTrap T.iTrap T.tiTrap (ok_TrapInit T) (hr.mono (by decide)) T.bTrapInit (by rfl) T.gTrap (wa_cons (we_c (pe_glob (v := .int 2) (by rfl) T.gADDRESS.choose_spec ⟨_, rfl⟩) fun _ => .int _) (wa_cons (we_var (pv 1)) wa_nil)))) wss_nil)
(wss_one (ws_ret (we_idx (we_fld T.fk_memory (we_res (we_fld T.fk_machine (we_var (pv 0)) rfl)) rfl) (we_var (pv 1)) (fun _ _ => rfl)))))

theorem ok_KernelViewFetch (T : Tx K w mg) : FnOk P w K mg base (L2N.CX P w) 6 T.aKernelViewFetch T.fdKernelViewFetch PKernelViewFetch (spW K T.cs cKernelViewFetch) := by
  unfold cKernelViewFetch
  exact ok_W T.mKernelViewFetch.F scKernelViewFetch rfl fun cdv A outer s H E hr tk => by
    unfold wdKernelViewFetch
    exact (wss_one (ws_retO (wo_methA (show ¬ _ ∈ lys.getD 3 [] from by decide +kernel) (pe_methX (we_var (pv 0)) T.clKernelView T.hKernelViewLoad (ok_KernelViewLoad T) (hr.mono (by decide)) T.mKernelViewLoad.b (fun σ => L2N.passAt tk σ) (wa_cons (we_var (pv 1)) wa_nil)))))

theorem ok_KernelViewStore (T : Tx K w mg) : FnOk P w K mg base (L2N.CX P w) 4 T.aKernelViewStore T.fdKernelViewStore PKernelViewStore (spW K T.cs cKernelViewStore) := by
  unfold cKernelViewStore
  exact ok_W T.mKernelViewStore.F scKernelViewStore rfl fun cdv A outer s H E hr tk => by
    unfold wdKernelViewStore
    exact (wss_cons (ws_if (wt_cmp op_ge s_ge (we_var (pv 1)) (pe_imp (pe_callB call_len (by rfl) T.b_len PySem.boot_len (wa_cons (we_fld T.fk_memory (we_res (we_fld T.fk_machine (we_var (pv 0)) rfl)) rfl) wa_nil)) (e_cb sa_len)) (nomark _)) (wss_one (ws_raise (c := 1) (fs := ["cause", "value"]) rfl (by decide) rfl tk T.oeTrap T.iTrap T.tiTrap (ok_TrapInit T) (hr.mono (by decide)) T.bTrapInit (by rfl) T.gTrap (wa_cons (we_c (pe_glob (v := .int 2) (by rfl) T.gADDRESS.choose_spec ⟨_, rfl⟩) fun _ => .int _) (wa_cons (we_var (pv 1)) wa_nil)))) wss_nil)
(wss_one (ws_setI (ps_asg (we_var (pv 2)) (pg_sub (we_fld T.fk_memory (we_res (we_fld T.fk_machine (we_var (pv 0)) rfl)) rfl) (we_var (pv 1)) set_list)))))

theorem ok_UserViewInit (T : Tx K w mg) : FnOk P w K mg base (L2N.CX P w) 1 T.aUserViewInit T.fdUserViewInit PUserViewInit (spW K T.cs cUserViewInit) := by
  unfold cUserViewInit
  exact ok_W T.mUserViewInit.F scUserViewInit rfl fun cdv A outer s H E hr tk => by
    unfold wdUserViewInit
    exact (wss_one (ws_setF T.fk_machine (we_var (pv 0)) (wo_bk (we_var (pv 1))) rfl))

theorem ok_UserViewIndexOf (T : Tx K w mg) : FnOk P w K mg base (L2N.CX P w) 4 T.aUserViewIndexOf T.fdUserViewIndexOf PUserViewIndexOf (spW K T.cs cUserViewIndexOf) := by
  unfold cUserViewIndexOf
  exact ok_W T.mUserViewIndexOf.F scUserViewIndexOf rfl fun cdv A outer s H E hr tk => by
    unfold wdUserViewIndexOf
    exact (wss_cons (ws_asg (ps_set (i := 3) scUserViewIndexOf.nd rfl (Or.inl rfl) (we_fld T.fk_memory (we_res (we_fld T.fk_machine (we_var (pv 0)) rfl)) rfl)))
(wss_cons (ws_asg (ps_set (i := 4) scUserViewIndexOf.nd rfl (Or.inl rfl) (we_add (we_idx (we_fld T.fk_specials (we_res (we_fld T.fk_machine (we_var (pv 0)) rfl)) rfl) (we_c (pe_glob (v := .int 3) (by rfl) T.gMAP.choose_spec ⟨_, rfl⟩) fun _ => .int _) (fun _ _ => rfl)) (we_fdiv (we_var (pv 1)) (we_c (pe_glob (v := .int 16) (by rfl) T.gPAGE.choose_spec ⟨_, rfl⟩) fun _ => .int _)))))
(wss_cons (ws_if (ww_or (wt_cmp op_ge s_ge (we_var (pv 1)) (we_c (pe_glob (v := .int 128) (by rfl) T.gUSER_WORDS.choose_spec ⟨_, rfl⟩) fun _ => .int _) (nomark _)) (pw_or1 (wt_cmp op_ge s_ge (we_var (pv 4)) (pe_imp (pe_callB call_len (by rfl) T.b_len PySem.boot_len (wa_cons (we_var (pv 3)) wa_nil)) (e_cb sa_len)) (nomark _)))).pt (wss_one (ws_raise (c := 1) (fs := ["cause", "value"]) rfl (by decide) rfl tk T.oeTrap T.iTrap T.tiTrap (ok_TrapInit T) (hr.mono (by decide)) T.bTrapInit (by rfl) T.gTrap (wa_cons (we_c (pe_glob (v := .int 2) (by rfl) T.gADDRESS.choose_spec ⟨_, rfl⟩) fun _ => .int _) (wa_cons (we_var (pv 1)) wa_nil)))) wss_nil)
(wss_cons (ws_asg (ps_set (i := 5) scUserViewIndexOf.nd rfl (Or.inl rfl) (we_idx (we_var (pv 3)) (we_var (pv 4)) (fun _ _ => rfl))))
(wss_cons (ws_asg (ps_set (i := 6) scUserViewIndexOf.nd rfl (Or.inl rfl) (we_add (we_mul (we_fdiv (we_var (pv 5)) (we_c (pe_glob (v := .int 8) (by rfl) T.gRIGHTS.choose_spec ⟨_, rfl⟩) fun _ => .int _)) (we_c (pe_glob (v := .int 16) (by rfl) T.gPAGE.choose_spec ⟨_, rfl⟩) fun _ => .int _)) (we_mod (we_var (pv 1)) (we_c (pe_glob (v := .int 16) (by rfl) T.gPAGE.choose_spec ⟨_, rfl⟩) fun _ => .int _)))))
(wss_cons (ws_if (ww_or (wt_cmp op_ge s_ge (we_var (pv 6)) (pe_imp (pe_callB call_len (by rfl) T.b_len PySem.boot_len (wa_cons (we_var (pv 3)) wa_nil)) (e_cb sa_len)) (nomark _)) (pw_or1 (wt_cmp (op_eqA hr.units) s_eq (we_and (we_var (pv 5)) (we_var (pv 2))) we_int (nomark _)))).pt (wss_one (ws_raise (c := 1) (fs := ["cause", "value"]) rfl (by decide) rfl tk T.oeTrap T.iTrap T.tiTrap (ok_TrapInit T) (hr.mono (by decide)) T.bTrapInit (by rfl) T.gTrap (wa_cons (we_c (pe_glob (v := .int 2) (by rfl) T.gADDRESS.choose_spec ⟨_, rfl⟩) fun _ => .int _) (wa_cons (we_var (pv 1)) wa_nil)))) wss_nil)
(wss_one (ws_ret (we_var (pv 6))))))))))

theorem ok_UserViewFetch (T : Tx K w mg) : FnOk P w K mg base (L2N.CX P w) 5 T.aUserViewFetch T.fdUserViewFetch PUserViewFetch (spW K T.cs cUserViewFetch) := by
  unfold cUserViewFetch
  exact ok_W T.mUserViewFetch.F scUserViewFetch rfl fun cdv A outer s H E hr tk => by
    unfold wdUserViewFetch
    exact (wss_one (ws_ret (we_idx (we_fld T.fk_memory (we_res (we_fld T.fk_machine (we_var (pv 0)) rfl)) rfl) (we_frz (wo_methA (show ¬ _ ∈ lys.getD 4 [] from by decide +kernel) (pe_methX (we_var (pv 0)) T.clUserView T.hUserViewIndexOf (ok_UserViewIndexOf T) (hr.mono (by decide)) T.mUserViewIndexOf.b (fun σ => L2N.passAt tk σ) (wa_cons (we_var (pv 1)) (wa_cons (we_c (pe_glob (v := .int 4) (by rfl) T.gEXECUTE.choose_spec ⟨_, rfl⟩) fun _ => .int _) wa_nil))))) (fun _ _ => rfl))))

theorem ok_UserViewLoad (T : Tx K w mg) : FnOk P w K mg base (L2N.CX P w) 5 T.aUserViewLoad T.fdUserViewLoad PUserViewLoad (spW K T.cs cUserViewLoad) := by
  unfold cUserViewLoad
  exact ok_W T.mUserViewLoad.F scUserViewLoad rfl fun cdv A outer s H E hr tk => by
    unfold wdUserViewLoad
    exact (wss_one (ws_ret (we_idx (we_fld T.fk_memory (we_res (we_fld T.fk_machine (we_var (pv 0)) rfl)) rfl) (we_frz (wo_methA (show ¬ _ ∈ lys.getD 4 [] from by decide +kernel) (pe_methX (we_var (pv 0)) T.clUserView T.hUserViewIndexOf (ok_UserViewIndexOf T) (hr.mono (by decide)) T.mUserViewIndexOf.b (fun σ => L2N.passAt tk σ) (wa_cons (we_var (pv 1)) (wa_cons (we_c (pe_glob (v := .int 1) (by rfl) T.gREAD.choose_spec ⟨_, rfl⟩) fun _ => .int _) wa_nil))))) (fun _ _ => rfl))))

theorem ok_UserViewStore (T : Tx K w mg) : FnOk P w K mg base (L2N.CX P w) 5 T.aUserViewStore T.fdUserViewStore PUserViewStore (spW K T.cs cUserViewStore) := by
  unfold cUserViewStore
  exact ok_W T.mUserViewStore.F scUserViewStore rfl fun cdv A outer s H E hr tk => by
    unfold wdUserViewStore
    exact (wss_one (ws_setI (ps_asg (we_var (pv 2)) (pg_sub (we_fld T.fk_memory (we_res (we_fld T.fk_machine (we_var (pv 0)) rfl)) rfl) (we_frz (wo_methA (show ¬ _ ∈ lys.getD 4 [] from by decide +kernel) (pe_methX (we_var (pv 0)) T.clUserView T.hUserViewIndexOf (ok_UserViewIndexOf T) (hr.mono (by decide)) T.mUserViewIndexOf.b (fun σ => L2N.passAt tk σ) (wa_cons (we_var (pv 1)) (wa_cons (we_c (pe_glob (v := .int 2) (by rfl) T.gWRITE.choose_spec ⟨_, rfl⟩) fun _ => .int _) wa_nil))))) set_list))))

theorem ok_SetWord (T : Tx K w mg) : FnOk P w K mg base (L2N.CX P w) 7 T.aSetWord T.fdSetWord PSetWord (spW K T.cs cSetWord) := by
  unfold cSetWord
  exact ok_W T.dSetWord.F scSetWord rfl fun cdv A outer s H E hr tk => by
    unfold wdSetWord
    exact (wss_cons (ws_setI (ps_asg (we_frz (wo_methD (all_cons (wo_methA (show ¬ _ ∈ lys.getD 3 [] from by decide +kernel) (pe_methX (we_var (pv 3)) T.clKernelView T.hKernelViewFetch (ok_KernelViewFetch T) (hr.mono (by decide)) T.mKernelViewFetch.b (fun σ => L2N.passAt tk σ) (wa_cons (we_frz (wo_call (pe_callS (ok_Add T) (hr.mono (by decide)) (by rfl) T.dAdd.g T.dAdd.F.kp T.dAdd.b (fun σ => L2N.passAt tk σ) (wa_cons (we_var (pv 2)) (wa_cons we_int wa_nil))))) wa_nil))) (all_cons (wo_methA (show ¬ _ ∈ lys.getD 4 [] from by decide +kernel) (pe_methX (we_var (pv 3)) T.clUserView T.hUserViewFetch (ok_UserViewFetch T) (hr.mono (by decide)) T.mUserViewFetch.b (fun σ => L2N.passAt tk σ) (wa_cons (we_frz (wo_call (pe_callS (ok_Add T) (hr.mono (by decide)) (by rfl) T.dAdd.g T.dAdd.F.kp T.dAdd.b (fun σ => L2N.passAt tk σ) (wa_cons (we_var (pv 2)) (wa_cons we_int wa_nil))))) wa_nil))) all_nil)))) (pg_sub (we_var (pv 1)) (we_idx (we_var (pv 0)) we_int (fun _ _ => rfl)) set_list)))
(wss_one (ws_retO (wo_call (pe_callS (ok_Add T) (hr.mono (by decide)) (by rfl) T.dAdd.g T.dAdd.F.kp T.dAdd.b (fun σ => L2N.passAt tk σ) (wa_cons (we_var (pv 2)) (wa_cons we_int wa_nil)))))))

theorem ok_CopyWord (T : Tx K w mg) : FnOk P w K mg base (L2N.CX P w) 3 T.aCopyWord T.fdCopyWord PCopyWord (spW K T.cs cCopyWord) := by
  unfold cCopyWord
  exact ok_W T.dCopyWord.F scCopyWord rfl fun cdv A outer s H E hr tk => by
    unfold wdCopyWord
    exact (wss_cons (ws_asgT (tg_tup (js := [4, 5]) rfl) (ps_asg (we_slT (we_var (pv 0)) (wp_some we_int) (wp_some we_int)) (pg_tup rfl (pgs_cons (pg_name (i := 4) scCopyWord.nd rfl (Or.inl rfl)) (pgs_cons (pg_name (i := 5) scCopyWord.nd rfl (Or.inl rfl)) pgs_nil)))))
(wss_cons (ws_setI (ps_asg (we_idx (we_var (pv 1)) (we_var (pv 5)) (fun _ _ => rfl)) (pg_sub (we_var (pv 1)) (we_var (pv 4)) set_list)))
(wss_one (ws_retO (wo_call (pe_callS (ok_Add T) (hr.mono (by decide)) (by rfl) T.dAdd.g T.dAdd.F.kp T.dAdd.b (fun σ => L2N.passAt tk σ) (wa_cons (we_var (pv 2)) (wa_cons we_int wa_nil))))))))

theorem ok_Calculated (T : Tx K w mg) : FnOk P w K mg base (L2N.CX P w) 3 T.aCalculated T.fdCalculated PCalculated (spW K T.cs cCalculated) := by
  unfold cCalculated
  exact ok_W T.dCalculated.F scCalculated rfl fun cdv A outer s H E hr tk => by
    unfold wdCalculated
    exact (wss_cons (ws_if (wt_cmp (op_eqA hr.units) s_eq (we_var (pv 0)) we_str (nomark _)) (wss_one (ws_retO (wo_call (pe_callS (ok_Add T) (hr.mono (by decide)) (by rfl) T.dAdd.g T.dAdd.F.kp T.dAdd.b (fun σ => L2N.passAt tk σ) (wa_cons (we_var (pv 1)) (wa_cons (we_var (pv 2)) wa_nil)))))) wss_nil)
(wss_cons (ws_if (wt_cmp (op_eqA hr.units) s_eq (we_var (pv 0)) we_str (nomark _)) (wss_one (ws_retO (wo_call (pe_callS (ok_Sub T) (hr.mono (by decide)) (by rfl) T.dSub.g T.dSub.F.kp T.dSub.b (fun σ => L2N.passAt tk σ) (wa_cons (we_var (pv 1)) (wa_cons (we_var (pv 2)) wa_nil)))))) wss_nil)
(wss_cons (ws_if (wt_cmp (op_eqA hr.units) s_eq (we_var (pv 0)) we_str (nomark _)) (wss_one (ws_retO (wo_call (pe_callS (ok_Mul T) (hr.mono (by decide)) (by rfl) T.dMul.g T.dMul.F.kp T.dMul.b (fun σ => L2N.passAt tk σ) (wa_cons (we_var (pv 1)) (wa_cons (we_var (pv 2)) wa_nil)))))) wss_nil)
(wss_cons (ws_if (wt_cmp (op_eqA hr.units) s_eq (we_var (pv 0)) we_str (nomark _)) (wss_one (ws_retO (wo_call (pe_callS (ok_BitAnd T) (hr.mono (by decide)) (by rfl) T.dBitAnd.g T.dBitAnd.F.kp T.dBitAnd.b (fun σ => L2N.passAt tk σ) (wa_cons (we_var (pv 1)) (wa_cons (we_var (pv 2)) wa_nil)))))) wss_nil)
(wss_cons (ws_if (wt_cmp (op_eqA hr.units) s_eq (we_var (pv 0)) we_str (nomark _)) (wss_one (ws_retO (wo_call (pe_callS (ok_BitOr T) (hr.mono (by decide)) (by rfl) T.dBitOr.g T.dBitOr.F.kp T.dBitOr.b (fun σ => L2N.passAt tk σ) (wa_cons (we_var (pv 1)) (wa_cons (we_var (pv 2)) wa_nil)))))) wss_nil)
(wss_one (ws_retO (wo_call (pe_callS (ok_BitXor T) (hr.mono (by decide)) (by rfl) T.dBitXor.g T.dBitXor.F.kp T.dBitXor.b (fun σ => L2N.passAt tk σ) (wa_cons (we_var (pv 1)) (wa_cons (we_var (pv 2)) wa_nil)))))))))))

theorem ok_Calculate (T : Tx K w mg) : FnOk P w K mg base (L2N.CX P w) 4 T.aCalculate T.fdCalculate PCalculate (spW K T.cs cCalculate) := by
  unfold cCalculate
  exact ok_W T.dCalculate.F scCalculate rfl fun cdv A outer s H E hr tk => by
    unfold wdCalculate
    exact (wss_cons (ws_asgT (tg_tup (js := [4, 5, 6, 7]) rfl) (ps_asg (we_var (pv 0)) (pg_tup rfl (pgs_cons (pg_name (i := 4) scCalculate.nd rfl (Or.inl rfl)) (pgs_cons (pg_name (i := 5) scCalculate.nd rfl (Or.inl rfl)) (pgs_cons (pg_name (i := 6) scCalculate.nd rfl (Or.inl rfl)) (pgs_cons (pg_name (i := 7) scCalculate.nd rfl (Or.inl rfl)) pgs_nil)))))))
(wss_cons (ws_setI (ps_asg (we_frz (wo_call (pe_callS (ok_Calculated T) (hr.mono (by decide)) (by rfl) T.dCalculated.g T.dCalculated.F.kp T.dCalculated.b (fun σ => L2N.passAt tk σ) (wa_cons (we_var (pv 4)) (wa_cons (we_idx (we_var (pv 1)) (we_var (pv 6)) (fun _ _ => rfl)) (wa_cons (we_idx (we_var (pv 1)) (we_var (pv 7)) (fun _ _ => rfl)) wa_nil)))))) (pg_sub (we_var (pv 1)) (we_var (pv 5)) set_list)))
(wss_one (ws_retO (wo_call (pe_callS (ok_Add T) (hr.mono (by decide)) (by rfl) T.dAdd.g T.dAdd.F.kp T.dAdd.b (fun σ => L2N.passAt tk σ) (wa_cons (we_var (pv 2)) (wa_cons we_int wa_nil))))))))

theorem ok_ShiftWordLeft (T : Tx K w mg) : FnOk P w K mg base (L2N.CX P w) 3 T.aShiftWordLeft T.fdShiftWordLeft PShiftWordLeft (spW K T.cs cShiftWordLeft) := by
  unfold cShiftWordLeft
  exact ok_W T.dShiftWordLeft.F scShiftWordLeft rfl fun cdv A outer s H E hr tk => by
    unfold wdShiftWordLeft
    exact (wss_cons (ws_asgT (tg_tup (js := [4, 5, 6, 7]) rfl) (ps_asg (we_var (pv 0)) (pg_tup rfl (pgs_cons (pg_name (i := 4) scShiftWordLeft.nd rfl (Or.inl rfl)) (pgs_cons (pg_name (i := 5) scShiftWordLeft.nd rfl (Or.inl rfl)) (pgs_cons (pg_name (i := 6) scShiftWordLeft.nd rfl (Or.inl rfl)) (pgs_cons (pg_name (i := 7) scShiftWordLeft.nd rfl (Or.inl rfl)) pgs_nil)))))))
(wss_cons (ws_setI (ps_asg (we_frz (wo_call (pe_callS (ok_ShiftLeft T) (hr.mono (by decide)) (by rfl) T.dShiftLeft.g T.dShiftLeft.F.kp T.dShiftLeft.b (fun σ => L2N.passAt tk σ) (wa_cons (we_idx (we_var (pv 1)) (we_var (pv 6)) (fun _ _ => rfl)) (wa_cons (we_var (pv 7)) wa_nil))))) (pg_sub (we_var (pv 1)) (we_var (pv 5)) set_list)))
(wss_one (ws_retO (wo_call (pe_callS (ok_Add T) (hr.mono (by decide)) (by rfl) T.dAdd.g T.dAdd.F.kp T.dAdd.b (fun σ => L2N.passAt tk σ) (wa_cons (we_var (pv 2)) (wa_cons we_int wa_nil))))))))

theorem ok_ShiftWordRight (T : Tx K w mg) : FnOk P w K mg base (L2N.CX P w) 3 T.aShiftWordRight T.fdShiftWordRight PShiftWordRight (spW K T.cs cShiftWordRight) := by
  unfold cShiftWordRight
  exact ok_W T.dShiftWordRight.F scShiftWordRight rfl fun cdv A outer s H E hr tk => by
    unfold wdShiftWordRight
    exact (wss_cons (ws_asgT (tg_tup (js := [4, 5, 6, 7]) rfl) (ps_asg (we_var (pv 0)) (pg_tup rfl (pgs_cons (pg_name (i := 4) scShiftWordRight.nd rfl (Or.inl rfl)) (pgs_cons (pg_name (i := 5) scShiftWordRight.nd rfl (Or.inl rfl)) (pgs_cons (pg_name (i := 6) scShiftWordRight.nd rfl (Or.inl rfl)) (pgs_cons (pg_name (i := 7) scShiftWordRight.nd rfl (Or.inl rfl)) pgs_nil)))))))
(wss_cons (ws_setI (ps_asg (we_frz (wo_call (pe_callS (ok_ShiftRight T) (hr.mono (by decide)) (by rfl) T.dShiftRight.g T.dShiftRight.F.kp T.dShiftRight.b (fun σ => L2N.passAt tk σ) (wa_cons (we_idx (we_var (pv 1)) (we_var (pv 6)) (fun _ _ => rfl)) (wa_cons (we_var (pv 7)) wa_nil))))) (pg_sub (we_var (pv 1)) (we_var (pv 5)) set_list)))
(wss_one (ws_retO (wo_call (pe_callS (ok_Add T) (hr.mono (by decide)) (by rfl) T.dAdd.g T.dAdd.F.kp T.dAdd.b (fun σ => L2N.passAt tk σ) (wa_cons (we_var (pv 2)) (wa_cons we_int wa_nil))))))))

theorem ok_Small (T : Tx K w mg) : FnOk P w K mg base (L2N.CX P w) 1 T.aSmall T.fdSmall PSmall (spW K T.cs cSmall) := by
  unfold cSmall
  exact ok_W T.dSmall.F scSmall rfl fun cdv A outer s H E hr tk => by
    unfold wdSmall
    exact (wss_cons (ws_if (wt_cmp op_lt s_lt (we_var (pv 0)) we_int (nomark _)) (wss_one (ws_ret (we_var (pv 0)))) wss_nil)
(wss_one (ws_ret (we_sub (we_var (pv 0)) we_int))))

theorem ok_AddSmall (T : Tx K w mg) : FnOk P w K mg base (L2N.CX P w) 3 T.aAddSmall T.fdAddSmall PAddSmall (spW K T.cs cAddSmall) := by
  unfold cAddSmall
  exact ok_W T.dAddSmall.F scAddSmall rfl fun cdv A outer s H E hr tk => by
    unfold wdAddSmall
    exact (wss_cons (ws_asgT (tg_tup (js := [4, 5, 6, 7]) rfl) (ps_asg (we_var (pv 0)) (pg_tup rfl (pgs_cons (pg_name (i := 4) scAddSmall.nd rfl (Or.inl rfl)) (pgs_cons (pg_name (i := 5) scAddSmall.nd rfl (Or.inl rfl)) (pgs_cons (pg_name (i := 6) scAddSmall.nd rfl (Or.inl rfl)) (pgs_cons (pg_name (i := 7) scAddSmall.nd rfl (Or.inl rfl)) pgs_nil)))))))
(wss_cons (ws_setI (ps_asg (we_frz (wo_call (pe_callS (ok_Add T) (hr.mono (by decide)) (by rfl) T.dAdd.g T.dAdd.F.kp T.dAdd.b (fun σ => L2N.passAt tk σ) (wa_cons (we_idx (we_var (pv 1)) (we_var (pv 6)) (fun _ _ => rfl)) (wa_cons (we_frz (wo_call (pe_callS (ok_Small T) (hr.mono (by decide)) (by rfl) T.dSmall.g T.dSmall.F.kp T.dSmall.b (fun σ => L2N.passAt tk σ) (wa_cons (we_var (pv 7)) wa_nil)))) wa_nil))))) (pg_sub (we_var (pv 1)) (we_var (pv 5)) set_list)))
(wss_one (ws_retO (wo_call (pe_callS (ok_Add T) (hr.mono (by decide)) (by rfl) T.dAdd.g T.dAdd.F.kp T.dAdd.b (fun σ => L2N.passAt tk σ) (wa_cons (we_var (pv 2)) (wa_cons we_int wa_nil))))))))

theorem ok_LoadWord (T : Tx K w mg) : FnOk P w K mg base (L2N.CX P w) 6 T.aLoadWord T.fdLoadWord PLoadWord (spW K T.cs cLoadWord) := by
  unfold cLoadWord
  exact ok_W T.dLoadWord.F scLoadWord rfl fun cdv A outer s H E hr tk => by
    unfold wdLoadWord
    exact (wss_cons (ws_asgT (tg_tup (js := [4, 5, 6, 7]) rfl) (ps_asg (we_var (pv 0)) (pg_tup rfl (pgs_cons (pg_name (i := 4) scLoadWord.nd rfl (Or.inl rfl)) (pgs_cons (pg_name (i := 5) scLoadWord.nd rfl (Or.inl rfl)) (pgs_cons (pg_name (i := 6) scLoadWord.nd rfl (Or.inl rfl)) (pgs_cons (pg_name (i := 7) scLoadWord.nd rfl (Or.inl rfl)) pgs_nil)))))))
(wss_cons (ws_setI (ps_asg (we_frz (wo_methD (all_cons (wo_methA (show ¬ _ ∈ lys.getD 3 [] from by decide +kernel) (pe_methX (we_var (pv 3)) T.clKernelView T.hKernelViewLoad (ok_KernelViewLoad T) (hr.mono (by decide)) T.mKernelViewLoad.b (fun σ => L2N.passAt tk σ) (wa_cons (we_frz (wo_call (pe_callS (ok_Add T) (hr.mono (by decide)) (by rfl) T.dAdd.g T.dAdd.F.kp T.dAdd.b (fun σ => L2N.passAt tk σ) (wa_cons (we_idx (we_var (pv 1)) (we_var (pv 6)) (fun _ _ => rfl)) (wa_cons (we_var (pv 7)) wa_nil))))) wa_nil))) (all_cons (wo_methA (show ¬ _ ∈ lys.getD 4 [] from by decide +kernel) (pe_methX (we_var (pv 3)) T.clUserView T.hUserViewLoad (ok_UserViewLoad T) (hr.mono (by decide)) T.mUserViewLoad.b (fun σ => L2N.passAt tk σ) (wa_cons (we_frz (wo_call (pe_callS (ok_Add T) (hr.mono (by decide)) (by rfl) T.dAdd.g T.dAdd.F.kp T.dAdd.b (fun σ => L2N.passAt tk σ) (wa_cons (we_idx (we_var (pv 1)) (we_var (pv 6)) (fun _ _ => rfl)) (wa_cons (we_var (pv 7)) wa_nil))))) wa_nil))) all_nil)))) (pg_sub (we_var (pv 1)) (we_var (pv 5)) set_list)))
(wss_one (ws_retO (wo_call (pe_callS (ok_Add T) (hr.mono (by decide)) (by rfl) T.dAdd.g T.dAdd.F.kp T.dAdd.b (fun σ => L2N.passAt tk σ) (wa_cons (we_var (pv 2)) (wa_cons we_int wa_nil))))))))

theorem ok_StoreWord (T : Tx K w mg) : FnOk P w K mg base (L2N.CX P w) 6 T.aStoreWord T.fdStoreWord PStoreWord (spW K T.cs cStoreWord) := by
  unfold cStoreWord
  exact ok_W T.dStoreWord.F scStoreWord rfl fun cdv A outer s H E hr tk => by
    unfold wdStoreWord
    exact (wss_cons (ws_asgT (tg_tup (js := [4, 5, 6, 7]) rfl) (ps_asg (we_var (pv 0)) (pg_tup rfl (pgs_cons (pg_name (i := 4) scStoreWord.nd rfl (Or.inl rfl)) (pgs_cons (pg_name (i := 5) scStoreWord.nd rfl (Or.inl rfl)) (pgs_cons (pg_name (i := 6) scStoreWord.nd rfl (Or.inl rfl)) (pgs_cons (pg_name (i := 7) scStoreWord.nd rfl (Or.inl rfl)) pgs_nil)))))))
(wss_cons (ws_expr (we_frz (wo_methD (all_cons (wo_methA (show ¬ _ ∈ lys.getD 3 [] from by decide +kernel) (pe_methX (we_var (pv 3)) T.clKernelView T.hKernelViewStore (ok_KernelViewStore T) (hr.mono (by decide)) T.mKernelViewStore.b (fun σ => L2N.passAt tk σ) (wa_cons (we_frz (wo_call (pe_callS (ok_Add T) (hr.mono (by decide)) (by rfl) T.dAdd.g T.dAdd.F.kp T.dAdd.b (fun σ => L2N.passAt tk σ) (wa_cons (we_idx (we_var (pv 1)) (we_var (pv 6)) (fun _ _ => rfl)) (wa_cons (we_var (pv 7)) wa_nil))))) (wa_cons (we_idx (we_var (pv 1)) (we_var (pv 5)) (fun _ _ => rfl)) wa_nil)))) (all_cons (wo_methA (show ¬ _ ∈ lys.getD 4 [] from by decide +kernel) (pe_methX (we_var (pv 3)) T.clUserView T.hUserViewStore (ok_UserViewStore T) (hr.mono (by decide)) T.mUserViewStore.b (fun σ => L2N.passAt tk σ) (wa_cons (we_frz (wo_call (pe_callS (ok_Add T) (hr.mono (by decide)) (by rfl) T.dAdd.g T.dAdd.F.kp T.dAdd.b (fun σ => L2N.passAt tk σ) (wa_cons (we_idx (we_var (pv 1)) (we_var (pv 6)) (fun _ _ => rfl)) (wa_cons (we_var (pv 7)) wa_nil))))) (wa_cons (we_idx (we_var (pv 1)) (we_var (pv 5)) (fun _ _ => rfl)) wa_nil)))) all_nil)))))
(wss_one (ws_retO (wo_call (pe_callS (ok_Add T) (hr.mono (by decide)) (by rfl) T.dAdd.g T.dAdd.F.kp T.dAdd.b (fun σ => L2N.passAt tk σ) (wa_cons (we_var (pv 2)) (wa_cons we_int wa_nil))))))))

theorem ok_Jump (T : Tx K w mg) : FnOk P w K mg base (L2N.CX P w) 1 T.aJump T.fdJump PJump (spW K T.cs cJump) := by
  unfold cJump
  exact ok_W T.dJump.F scJump rfl fun cdv A outer s H E hr tk => by
    unfold wdJump
    exact (wss_one (ws_ret (we_idx (we_var (pv 1)) (we_idx (we_var (pv 0)) we_int (fun _ _ => rfl)) (fun _ _ => rfl))))

theorem ok_JumpAndLink (T : Tx K w mg) : FnOk P w K mg base (L2N.CX P w) 3 T.aJumpAndLink T.fdJumpAndLink PJumpAndLink (spW K T.cs cJumpAndLink) := by
  unfold cJumpAndLink
  exact ok_W T.dJumpAndLink.F scJumpAndLink rfl fun cdv A outer s H E hr tk => by
    unfold wdJumpAndLink
    exact (wss_cons (ws_asgT (tg_tup (js := [4, 5]) rfl) (ps_asg (we_slT (we_var (pv 0)) (wp_some we_int) (wp_some we_int)) (pg_tup rfl (pgs_cons (pg_name (i := 4) scJumpAndLink.nd rfl (Or.inl rfl)) (pgs_cons (pg_name (i := 5) scJumpAndLink.nd rfl (Or.inl rfl)) pgs_nil)))))
(wss_cons (ws_asg (ps_set (i := 6) scJumpAndLink.nd rfl (Or.inl rfl) (we_idx (we_var (pv 1)) (we_var (pv 5)) (fun _ _ => rfl))))
(wss_cons (ws_setI (ps_asg (we_frz (wo_call (pe_callS (ok_Add T) (hr.mono (by decide)) (by rfl) T.dAdd.g T.dAdd.F.kp T.dAdd.b (fun σ => L2N.passAt tk σ) (wa_cons (we_var (pv 2)) (wa_cons we_int wa_nil))))) (pg_sub (we_var (pv 1)) (we_var (pv 4)) set_list)))
(wss_one (ws_ret (we_var (pv 6)))))))

theorem ok_Holds (T : Tx K w mg) : FnOk P w K mg base (L2N.CX P w) 1 T.aHolds T.fdHolds PHolds (spW K T.cs cHolds) := by
  unfold cHolds
  exact ok_W T.dHolds.F scHolds rfl fun cdv A outer s H E hr tk => by
    unfold wdHolds
    exact (wss_cons (ws_if (wt_cmp (op_eqA hr.units) s_eq (we_var (pv 0)) we_str (nomark _)) (wss_one (ws_ret (we_cmp (op_eqA hr.units) s_eq (we_var (pv 1)) (we_var (pv 2)) (nomark _)))) wss_nil)
(wss_cons (ws_if (wt_cmp (op_eqA hr.units) s_eq (we_var (pv 0)) we_str (nomark _)) (wss_one (ws_ret (we_cmp (op_neA hr.units) s_ne (we_var (pv 1)) (we_var (pv 2)) (nomark _)))) wss_nil)
(wss_one (ws_ret (we_cmp op_lt s_lt (we_var (pv 1)) (we_var (pv 2)) (nomark _))))))

theorem ok_Branch (T : Tx K w mg) : FnOk P w K mg base (L2N.CX P w) 3 T.aBranch T.fdBranch PBranch (spW K T.cs cBranch) := by
  unfold cBranch
  exact ok_W T.dBranch.F scBranch rfl fun cdv A outer s H E hr tk => by
    unfold wdBranch
    exact (wss_cons (ws_asgT (tg_tup (js := [4, 5, 6, 7]) rfl) (ps_asg (we_var (pv 0)) (pg_tup rfl (pgs_cons (pg_name (i := 4) scBranch.nd rfl (Or.inl rfl)) (pgs_cons (pg_name (i := 5) scBranch.nd rfl (Or.inl rfl)) (pgs_cons (pg_name (i := 6) scBranch.nd rfl (Or.inl rfl)) (pgs_cons (pg_name (i := 7) scBranch.nd rfl (Or.inl rfl)) pgs_nil)))))))
(wss_cons (ws_asg (ps_set (i := 8) scBranch.nd rfl (Or.inl rfl) (we_frz (wo_call (pe_callS (ok_Add T) (hr.mono (by decide)) (by rfl) T.dAdd.g T.dAdd.F.kp T.dAdd.b (fun σ => L2N.passAt tk σ) (wa_cons (we_var (pv 2)) (wa_cons we_int wa_nil)))))))
(wss_cons (ws_if (wt_val (we_frz (wo_call (pe_callS (ok_Holds T) (hr.mono (by decide)) (by rfl) T.dHolds.g T.dHolds.F.kp T.dHolds.b (fun σ => L2N.passAt tk σ) (wa_cons (we_var (pv 4)) (wa_cons (we_idx (we_var (pv 1)) (we_var (pv 5)) (fun _ _ => rfl)) (wa_cons (we_idx (we_var (pv 1)) (we_var (pv 6)) (fun _ _ => rfl)) wa_nil))))))) (wss_one (ws_retO (wo_call (pe_callS (ok_Add T) (hr.mono (by decide)) (by rfl) T.dAdd.g T.dAdd.F.kp T.dAdd.b (fun σ => L2N.passAt tk σ) (wa_cons (we_var (pv 8)) (wa_cons (we_sub (we_var (pv 7)) we_int) wa_nil)))))) wss_nil)
(wss_one (ws_ret (we_var (pv 8)))))))

theorem ok_CarryOut (T : Tx K w mg) : FnOk P w K mg base (L2N.CX P w) 8 T.aCarryOut T.fdCarryOut PCarryOut (spW K T.cs cCarryOut) := by
  unfold cCarryOut
  exact ok_W T.dCarryOut.F scCarryOut rfl fun cdv A outer s H E hr tk => by
    unfold wdCarryOut
    exact (wss_cons (ws_asg (ps_set (i := 4) scCarryOut.nd rfl (Or.inl rfl) (we_kd (T.kACTIONS T.cs rfl) (pe_ix ix_kdict (pe_glob (v := .ref T.aACTIONS) (by rfl) T.gACTIONS rfl) (we_idx (we_var (pv 0)) we_int (fun _ _ => rfl)) (fun _ _ => rfl)))))
(wss_one (ws_retO (wo_callF (all_cons (pe_callLS (ok_Halt T) (hr.mono (by decide)) rfl (Or.inl rfl) T.dHalt.F.kp T.dHalt.b (fun σ => L2N.passAt tk σ) (wa_cons (we_var (pv 0)) (wa_cons (we_var (pv 1)) (wa_cons (we_var (pv 2)) (wa_cons (we_var (pv 3)) wa_nil)))))
 (all_cons (pe_callLS (ok_SetWord T) (hr.mono (by decide)) rfl (Or.inl rfl) T.dSetWord.F.kp T.dSetWord.b (fun σ => L2N.passAt tk σ) (wa_cons (we_var (pv 0)) (wa_cons (we_var (pv 1)) (wa_cons (we_var (pv 2)) (wa_cons (we_var (pv 3)) wa_nil)))))
 (all_cons (pe_callLS (ok_CopyWord T) (hr.mono (by decide)) rfl (Or.inl rfl) T.dCopyWord.F.kp T.dCopyWord.b (fun σ => L2N.passAt tk σ) (wa_cons (we_var (pv 0)) (wa_cons (we_var (pv 1)) (wa_cons (we_var (pv 2)) (wa_cons (we_var (pv 3)) wa_nil)))))
 (all_cons (pe_callLS (ok_Calculate T) (hr.mono (by decide)) rfl (Or.inl rfl) T.dCalculate.F.kp T.dCalculate.b (fun σ => L2N.passAt tk σ) (wa_cons (we_var (pv 0)) (wa_cons (we_var (pv 1)) (wa_cons (we_var (pv 2)) (wa_cons (we_var (pv 3)) wa_nil)))))
 (all_cons (pe_callLS (ok_ShiftWordLeft T) (hr.mono (by decide)) rfl (Or.inl rfl) T.dShiftWordLeft.F.kp T.dShiftWordLeft.b (fun σ => L2N.passAt tk σ) (wa_cons (we_var (pv 0)) (wa_cons (we_var (pv 1)) (wa_cons (we_var (pv 2)) (wa_cons (we_var (pv 3)) wa_nil)))))
 (all_cons (pe_callLS (ok_ShiftWordRight T) (hr.mono (by decide)) rfl (Or.inl rfl) T.dShiftWordRight.F.kp T.dShiftWordRight.b (fun σ => L2N.passAt tk σ) (wa_cons (we_var (pv 0)) (wa_cons (we_var (pv 1)) (wa_cons (we_var (pv 2)) (wa_cons (we_var (pv 3)) wa_nil)))))
 (all_cons (pe_callLS (ok_AddSmall T) (hr.mono (by decide)) rfl (Or.inl rfl) T.dAddSmall.F.kp T.dAddSmall.b (fun σ => L2N.passAt tk σ) (wa_cons (we_var (pv 0)) (wa_cons (we_var (pv 1)) (wa_cons (we_var (pv 2)) (wa_cons (we_var (pv 3)) wa_nil)))))
 (all_cons (pe_callLS (ok_LoadWord T) (hr.mono (by decide)) rfl (Or.inl rfl) T.dLoadWord.F.kp T.dLoadWord.b (fun σ => L2N.passAt tk σ) (wa_cons (we_var (pv 0)) (wa_cons (we_var (pv 1)) (wa_cons (we_var (pv 2)) (wa_cons (we_var (pv 3)) wa_nil)))))
 (all_cons (pe_callLS (ok_StoreWord T) (hr.mono (by decide)) rfl (Or.inl rfl) T.dStoreWord.F.kp T.dStoreWord.b (fun σ => L2N.passAt tk σ) (wa_cons (we_var (pv 0)) (wa_cons (we_var (pv 1)) (wa_cons (we_var (pv 2)) (wa_cons (we_var (pv 3)) wa_nil)))))
 (all_cons (pe_callLS (ok_Jump T) (hr.mono (by decide)) rfl (Or.inl rfl) T.dJump.F.kp T.dJump.b (fun σ => L2N.passAt tk σ) (wa_cons (we_var (pv 0)) (wa_cons (we_var (pv 1)) (wa_cons (we_var (pv 2)) (wa_cons (we_var (pv 3)) wa_nil)))))
 (all_cons (pe_callLS (ok_JumpAndLink T) (hr.mono (by decide)) rfl (Or.inl rfl) T.dJumpAndLink.F.kp T.dJumpAndLink.b (fun σ => L2N.passAt tk σ) (wa_cons (we_var (pv 0)) (wa_cons (we_var (pv 1)) (wa_cons (we_var (pv 2)) (wa_cons (we_var (pv 3)) wa_nil)))))
 (all_cons (pe_callLS (ok_Branch T) (hr.mono (by decide)) rfl (Or.inl rfl) T.dBranch.F.kp T.dBranch.b (fun σ => L2N.passAt tk σ) (wa_cons (we_var (pv 0)) (wa_cons (we_var (pv 1)) (wa_cons (we_var (pv 2)) (wa_cons (we_var (pv 3)) wa_nil)))))
 (all_cons (pe_callLS (ok_Call T) (hr.mono (by decide)) rfl (Or.inl rfl) T.dCall.F.kp T.dCall.b (fun σ => L2N.passAt tk σ) (wa_cons (we_var (pv 0)) (wa_cons (we_var (pv 1)) (wa_cons (we_var (pv 2)) (wa_cons (we_var (pv 3)) wa_nil)))))
 all_nil)))))))))))))))))

theorem ok_UserStep (T : Tx K w mg) : FnOk P w K mg base (L2N.CX P w) 9 T.aUserStep T.fdUserStep PUserStep (spW K T.cs cUserStep) := by
  unfold cUserStep
  exact ok_W T.dUserStep.F scUserStep rfl fun cdv A outer s H E hr tk => by
    unfold wdUserStep
    exact (wss_cons (ws_asg (ps_set (i := 3) scUserStep.nd rfl (Or.inl rfl) (we_frz (wo_call (pe_callS (ok_Decode T) (hr.mono (by decide)) (by rfl) T.dDecode.g T.dDecode.F.kp T.dDecode.b (fun σ => L2N.passAt tk σ) (wa_cons (we_frz (wo_methD (all_cons (wo_methA (show ¬ _ ∈ lys.getD 3 [] from by decide +kernel) (pe_methX (we_var (pv 2)) T.clKernelView T.hKernelViewFetch (ok_KernelViewFetch T) (hr.mono (by decide)) T.mKernelViewFetch.b (fun σ => L2N.passAt tk σ) (wa_cons (we_var (pv 1)) wa_nil))) (all_cons (wo_methA (show ¬ _ ∈ lys.getD 4 [] from by decide +kernel) (pe_methX (we_var (pv 2)) T.clUserView T.hUserViewFetch (ok_UserViewFetch T) (hr.mono (by decide)) T.mUserViewFetch.b (fun σ => L2N.passAt tk σ) (wa_cons (we_var (pv 1)) wa_nil))) all_nil)))) wa_nil))))))
(wss_cons (ws_if (ww_or (wt_cmp op_isN s_is (we_var (pv 3)) we_non (nomark _)) (pw_or1 (wt_cmp op_in_seq s_in (we_idx (we_var (pv 3)) we_int (fun _ _ => rfl)) (we_c (pe_glob (v := .ref T.aKERNELONLY) (by rfl) T.gKERNELONLY rfl) fun G => T.dKERNELONLY _ G) rfl))).pt (wss_one (ws_raise (c := 1) (fs := ["cause", "value"]) rfl (by decide) rfl tk T.oeTrap T.iTrap T.tiTrap (ok_TrapInit T) (hr.mono (by decide)) T.bTrapInit (by rfl) T.gTrap (wa_cons (we_c (pe_glob (v := .int 1) (by rfl) T.gILLEGAL.choose_spec ⟨_, rfl⟩) fun _ => .int _) (wa_cons we_int wa_nil)))) wss_nil)
(wss_one (ws_retO (wo_call (pe_callS (ok_CarryOut T) (hr.mono (by decide)) (by rfl) T.dCarryOut.g T.dCarryOut.F.kp T.dCarryOut.b (fun σ => L2N.passAt tk σ) (wa_cons (we_var (pv 3)) (wa_cons (we_var (pv 0)) (wa_cons (we_var (pv 1)) (wa_cons (we_var (pv 2)) wa_nil))))))))))

theorem ok_MachineInit (T : Tx K w mg) : FnOk P w K mg base (L2N.CX P w) 3 T.aMachineInit T.fdMachineInit PMachineInit (spW K T.cs cMachineInit) := by
  unfold cMachineInit
  exact ok_W T.mMachineInit.F scMachineInit rfl fun cdv A outer s H E hr tk => by
    unfold wdMachineInit
    exact (wss_cons (ws_setF T.fk_memory (we_var (pv 0)) (pe_imp (pe_callTy call_list_of (by rfl) T.b_list (by decide +kernel) (wa_cons (we_var (pv 1)) wa_nil)) o_listOf) rfl)
(wss_cons (ws_setF T.fk_rings (we_var (pv 0)) (pe_imp (pe_callTy call_list_of (by rfl) T.b_list (by decide +kernel) (wa_cons (we_var (pv 2)) wa_nil)) o_listOf) rfl)
(wss_cons (ws_setF T.fk_inputs (we_var (pv 0)) (pe_imp (pe_callTy call_list_of (by rfl) T.b_list (by decide +kernel) (wa_cons (we_var (pv 3)) wa_nil)) o_listOf) rfl)
(wss_cons (ws_setF T.fk_mode (we_var (pv 0)) (wo_lift (we_c (pe_glob (v := .str "kernel") (by rfl) T.gKERNEL.choose_spec ⟨_, rfl⟩) fun _ => .str _)) rfl)
(wss_cons (ws_setF T.fk_pc (we_var (pv 0)) (wo_lift we_int) rfl)
(wss_cons (ws_setF T.fk_user (we_var (pv 0)) (wo_lift (we_repF (we_frz (wo_lst (wa_cons we_int wa_nil))) we_int)) rfl)
(wss_cons (ws_setF T.fk_kernel (we_var (pv 0)) (wo_lift (we_repF (we_frz (wo_lst (wa_cons we_int wa_nil))) we_int)) rfl)
(wss_cons (ws_setF T.fk_specials (we_var (pv 0)) (wo_lift (we_repF (we_frz (wo_lst (wa_cons we_int wa_nil))) we_int)) rfl)
(wss_cons (ws_setF T.fk_tick (we_var (pv 0)) (wo_lift we_int) rfl)
(wss_cons (ws_setF T.fk_given (we_var (pv 0)) (wo_lift we_int) rfl)
(wss_cons (ws_setF T.fk_kernel_view (we_var (pv 0)) (wo_lift (we_frz (wo_make (pe_make T.mkKernelView (ok_KernelViewInit T) (hr.mono (by decide)) (by rfl) T.gKernelView T.mKernelViewInit.b .nil noPassW (wa_cons (we_var (pv 0)) wa_nil))))) rfl)
(wss_one (ws_setF T.fk_user_view (we_var (pv 0)) (wo_lift (we_frz (wo_make (pe_make T.mkUserView (ok_UserViewInit T) (hr.mono (by decide)) (by rfl) T.gUserView T.mUserViewInit.b .nil noPassW (wa_cons (we_var (pv 0)) wa_nil))))) rfl)))))))))))))

theorem ok_MachineTakeInputs (T : Tx K w mg) : FnOk P w K mg base (L2N.CX P w) 4 T.aMachineTakeInputs T.fdMachineTakeInputs PMachineTakeInputs (spW K T.cs cMachineTakeInputs) := by
  unfold cMachineTakeInputs
  exact ok_W T.mMachineTakeInputs.F scMachineTakeInputs rfl fun cdv A outer s H E hr tk => by
    unfold wdMachineTakeInputs
    exact (wss_one (ws_while PassesOwn.leaving (ww_and (wt_cmp op_lt s_lt (we_fld T.fk_given (we_var (pv 0)) rfl) (pe_imp (pe_callB call_len (by rfl) T.b_len PySem.boot_len (wa_cons (we_fld T.fk_inputs (we_var (pv 0)) rfl) wa_nil)) (e_cb sa_len)) (nomark _)) (pw_and1 (wt_cmp op_le s_le (we_idx (we_idx (we_fld T.fk_inputs (we_var (pv 0)) rfl) (we_fld T.fk_given (we_var (pv 0)) rfl) (fun _ _ => rfl)) we_int (fun _ _ => rfl)) (we_fld T.fk_tick (we_var (pv 0)) rfl) (nomark _)))).pt (wss_cons (ws_asgT (tg_tup (js := [1, 2, 3]) rfl) (ps_asg (we_idx (we_fld T.fk_inputs (we_var (pv 0)) rfl) (we_fld T.fk_given (we_var (pv 0)) rfl) (fun _ _ => rfl)) (pg_tup rfl (pgs_cons (pg_name (i := 1) scMachineTakeInputs.nd rfl (Or.inl rfl)) (pgs_cons (pg_name (i := 2) scMachineTakeInputs.nd rfl (Or.inl rfl)) (pgs_cons (pg_name (i := 3) scMachineTakeInputs.nd rfl (Or.inl rfl)) pgs_nil))))))
(wss_cut (ws_if (wt_cmp (op_eqA hr.units) s_eq (we_var (pv 1)) (we_fld T.fk_tick (we_var (pv 0)) rfl) (nomark _)) (wss_one (ws_expr (we_frz (wo_call (pe_callS (ok_WriteInput T) (hr.mono (by decide)) (by rfl) T.dWriteInput.g T.dWriteInput.F.kp T.dWriteInput.b (fun σ => L2N.passAt tk σ) (wa_cons (we_fld T.fk_memory (we_var (pv 0)) rfl) (wa_cons (we_idx (we_fld T.fk_rings (we_var (pv 0)) rfl) (we_var (pv 2)) (fun _ _ => rfl)) (wa_cons (we_var (pv 3)) wa_nil)))))))) wss_nil)
(wss_one (ws_augF T.fk_given (we_var (pv 0)) we_int))))))

theorem ok_MachineEnterKernel (T : Tx K w mg) : FnOk P w K mg base (L2N.CX P w) 2 T.aMachineEnterKernel T.fdMachineEnterKernel PMachineEnterKernel (spW K T.cs cMachineEnterKernel) := by
  unfold cMachineEnterKernel
  exact ok_W T.mMachineEnterKernel.F scMachineEnterKernel rfl fun cdv A outer s H E hr tk => by
    unfold wdMachineEnterKernel
    exact (wss_cons (ws_setI (ps_asg (we_var (pv 1)) (pg_sub (we_fld T.fk_specials (we_var (pv 0)) rfl) (we_c (pe_glob (v := .int 0) (by rfl) T.gEPC.choose_spec ⟨_, rfl⟩) fun _ => .int _) set_list)))
(wss_cons (ws_setI (ps_asg (we_var (pv 2)) (pg_sub (we_fld T.fk_specials (we_var (pv 0)) rfl) (we_c (pe_glob (v := .int 1) (by rfl) T.gCAUSE.choose_spec ⟨_, rfl⟩) fun _ => .int _) set_list)))
(wss_cons (ws_setI (ps_asg (we_var (pv 3)) (pg_sub (we_fld T.fk_specials (we_var (pv 0)) rfl) (we_c (pe_glob (v := .int 2) (by rfl) T.gVALUE.choose_spec ⟨_, rfl⟩) fun _ => .int _) set_list)))
(wss_cons (ws_setI (ps_asg (we_frz (wo_callN (E := fun _ _ _ _ => False) (pe_callS (ok_Wrap T) (hr.mono (by decide)) (by rfl) T.dWrap.g T.dWrap.F.kp T.dWrap.b (fun σ => noPassN σ) (wa_cons (we_fld T.fk_tick (we_var (pv 0)) rfl) wa_nil)))) (pg_sub (we_fld T.fk_specials (we_var (pv 0)) rfl) (we_c (pe_glob (v := .int 6) (by rfl) T.gTRAPPED.choose_spec ⟨_, rfl⟩) fun _ => .int _) set_list)))
(wss_cons (ws_setF T.fk_mode (we_var (pv 0)) (wo_lift (we_c (pe_glob (v := .str "kernel") (by rfl) T.gKERNEL.choose_spec ⟨_, rfl⟩) fun _ => .str _)) rfl)
(wss_one (ws_setF T.fk_pc (we_var (pv 0)) (wo_lift we_int) rfl)))))))
theorem okh_MachineEnterKernel (T : Tx K w mg) : L2H.FnH P w K mg base CX0 2 T.aMachineEnterKernel T.fdMachineEnterKernel PMachineEnterKernel (sp0 K T.cs cMachineEnterKernel) := by
  unfold cMachineEnterKernel
  exact ok_WH T.mMachineEnterKernel.F scMachineEnterKernel rfl fun cdv A outer s H E p hot hr => by
    unfold wdMachineEnterKernel
    exact (wss_cons (ws_setI (ps_asg (we_var (pv 1)) (pg_sub (we_fld T.fk_specials (we_var (pv 0)) rfl) (we_c (pe_glob (v := .int 0) (by rfl) T.gEPC.choose_spec ⟨_, rfl⟩) fun _ => .int _) set_list)))
(wss_cons (ws_setI (ps_asg (we_var (pv 2)) (pg_sub (we_fld T.fk_specials (we_var (pv 0)) rfl) (we_c (pe_glob (v := .int 1) (by rfl) T.gCAUSE.choose_spec ⟨_, rfl⟩) fun _ => .int _) set_list)))
(wss_cons (ws_setI (ps_asg (we_var (pv 3)) (pg_sub (we_fld T.fk_specials (we_var (pv 0)) rfl) (we_c (pe_glob (v := .int 2) (by rfl) T.gVALUE.choose_spec ⟨_, rfl⟩) fun _ => .int _) set_list)))
(wss_cons (ws_setI (ps_asg (we_frz (wo_callH (E := fun _ _ _ _ => False) (L2H.pe_callH (okh_Wrap T) (hr.mono (by decide)) hot (by rfl) T.dWrap.g T.dWrap.F.kp T.dWrap.b passZ (wa_cons (we_fld T.fk_tick (we_var (pv 0)) rfl) wa_nil)))) (pg_sub (we_fld T.fk_specials (we_var (pv 0)) rfl) (we_c (pe_glob (v := .int 6) (by rfl) T.gTRAPPED.choose_spec ⟨_, rfl⟩) fun _ => .int _) set_list)))
(wss_cons (ws_setF T.fk_mode (we_var (pv 0)) (wo_lift (we_c (pe_glob (v := .str "kernel") (by rfl) T.gKERNEL.choose_spec ⟨_, rfl⟩) fun _ => .str _)) rfl)
(wss_one (ws_setF T.fk_pc (we_var (pv 0)) (wo_lift we_int) rfl)))))))

theorem ok_MachineUserTick (T : Tx K w mg) : FnOk P w K mg base (L2N.CX P w) 10 T.aMachineUserTick T.fdMachineUserTick PMachineUserTick (spW K T.cs cMachineUserTick) := by
  unfold cMachineUserTick
  exact ok_W T.mMachineUserTick.F scMachineUserTick rfl fun cdv A outer s H E hr tk => by
    unfold wdMachineUserTick
    exact (wss_cons (ws_if (wt_cmp (op_eqA hr.units) s_eq (we_frz (wo_call (pe_callS (ok_Wrap T) (hr.mono (by decide)) (by rfl) T.dWrap.g T.dWrap.F.kp T.dWrap.b (fun σ => L2N.passAt tk σ) (wa_cons (we_fld T.fk_tick (we_var (pv 0)) rfl) wa_nil)))) (we_idx (we_fld T.fk_specials (we_var (pv 0)) rfl) (we_c (pe_glob (v := .int 4) (by rfl) T.gALARM.choose_spec ⟨_, rfl⟩) fun _ => .int _) (fun _ _ => rfl)) (nomark _)) (wss_cons (ws_expr (we_frz (wo_meth (show ¬ _ ∈ lys.getD 5 [] from by decide +kernel) (pe_methX (we_var (pv 0)) T.clMachine T.hMachineEnterKernel (ok_MachineEnterKernel T) (hr.mono (by decide)) T.mMachineEnterKernel.b (fun σ => L2N.passAt tk σ) (wa_cons (we_fld T.fk_pc (we_var (pv 0)) rfl) (wa_cons (we_c (pe_glob (v := .int 6) (by rfl) T.gALARMED.choose_spec ⟨_, rfl⟩) fun _ => .int _) (wa_cons we_int wa_nil)))))))
(wss_one ws_retN)) wss_nil)
(wss_one (ws_tryA (c0 := 1) T.exTrap rfl rfl scMachineUserTick.nd rfl rfl ⟨rfl, by decide, .inl T.gTrap⟩ tk (fun W pn xe tk po => (wss_one (ws_setF T.fk_pc (we_var (pv 0)) (wo_call (pe_callS (ok_UserStep T) (hr.mono (by decide)) (by rfl) T.dUserStep.g T.dUserStep.F.kp T.dUserStep.b (fun σ => L2N.passAt tk σ) (wa_cons (we_fld T.fk_user (we_var (pv 0)) rfl) (wa_cons (we_fld T.fk_pc (we_var (pv 0)) rfl) (wa_cons (we_fld T.fk_user_view (we_var (pv 0)) rfl) wa_nil))))) rfl)))
 (fun a oe dd pn hz hv => (wss_cons (ws_asg (ps_set (i := 2) scMachineUserTick.nd rfl (Or.inl rfl) (we_fld T.fk_pc (we_var (pv 0)) rfl)))
(wss_cut (ws_if (wt_cmp (op_eqA hr.units) s_eq (we_xf (C := T.cs) (c := 1) (j := 1) rfl (show (lys.getD 1 []).Nodup by decide +kernel) T.xfTrap T.nTrap_cause hz hv (pv 1)) (we_c (pe_glob (v := .int 3) (by rfl) T.gCALLED.choose_spec ⟨_, rfl⟩) fun _ => .int _) (nomark _)) (wss_one (ws_asg (ps_set (i := 2) scMachineUserTick.nd rfl (Or.inl rfl) (we_frz (wo_callH (E := fun _ _ _ _ => False) (L2H.pe_callH (okh_Add T) (L2H.roomH_mark (hr.mono (by decide)) _) (hotS hz hv) (by rfl) T.dAdd.g T.dAdd.F.kp T.dAdd.b passZ (wa_cons (we_var (pv 2)) (wa_cons we_int wa_nil)))))))) wss_nil)
(wss_one (ws_expr (we_frz (wo_methH (E := fun _ _ _ _ => False) (show ¬ _ ∈ lys.getD 5 [] from by decide +kernel) (L2H.pe_methH (we_var (pv 0)) T.clMachine T.hMachineEnterKernel (okh_MachineEnterKernel T) (L2H.roomH_mark (hr.mono (by decide)) _) (hotS hz hv) T.mMachineEnterKernel.b passZ (wa_cons (we_var (pv 2)) (wa_cons (we_xf (C := T.cs) (c := 1) (j := 1) rfl (show (lys.getD 1 []).Nodup by decide +kernel) T.xfTrap T.nTrap_cause hz hv (pv 1)) (wa_cons (we_xf (C := T.cs) (c := 1) (j := 0) rfl (show (lys.getD 1 []).Nodup by decide +kernel) T.xfTrap T.nTrap_value hz hv (pv 1)) wa_nil))))))))))))))

theorem ok_MachineSpecial (T : Tx K w mg) : FnOk P w K mg base (L2N.CX P w) 2 T.aMachineSpecial T.fdMachineSpecial PMachineSpecial (spW K T.cs cMachineSpecial) := by
  unfold cMachineSpecial
  exact ok_W T.mMachineSpecial.F scMachineSpecial rfl fun cdv A outer s H E hr tk => by
    unfold wdMachineSpecial
    exact (wss_cons (ws_if (wt_cmp (op_eqA hr.units) s_eq (we_var (pv 1)) (we_c (pe_glob (v := .int 5) (by rfl) T.gTICKS.choose_spec ⟨_, rfl⟩) fun _ => .int _) (nomark _)) (wss_one (ws_retO (wo_call (pe_callS (ok_Wrap T) (hr.mono (by decide)) (by rfl) T.dWrap.g T.dWrap.F.kp T.dWrap.b (fun σ => L2N.passAt tk σ) (wa_cons (we_fld T.fk_tick (we_var (pv 0)) rfl) wa_nil))))) wss_nil)
(wss_one (ws_ret (we_idx (we_fld T.fk_specials (we_var (pv 0)) rfl) (we_var (pv 1)) (fun _ _ => rfl)))))

theorem ok_MachineKernelOnly (T : Tx K w mg) : FnOk P w K mg base (L2N.CX P w) 3 T.aMachineKernelOnly T.fdMachineKernelOnly PMachineKernelOnly (spW K T.cs cMachineKernelOnly) := by
  unfold cMachineKernelOnly
  exact ok_W T.mMachineKernelOnly.F scMachineKernelOnly rfl fun cdv A outer s H E hr tk => by
    unfold wdMachineKernelOnly
    exact (wss_cons (ws_asgT (tg_tup (js := [2, 3, 4, 5]) rfl) (ps_asg (we_var (pv 1)) (pg_tup rfl (pgs_cons (pg_name (i := 2) scMachineKernelOnly.nd rfl (Or.inl rfl)) (pgs_cons (pg_name (i := 3) scMachineKernelOnly.nd rfl (Or.inl rfl)) (pgs_cons (pg_name (i := 4) scMachineKernelOnly.nd rfl (Or.inl rfl)) (pgs_cons (pg_name (i := 5) scMachineKernelOnly.nd rfl (Or.inl rfl)) pgs_nil)))))))
(wss_cons (ws_if (wt_cmp (op_eqA hr.units) s_eq (we_var (pv 2)) we_str (nomark _)) (wss_cons (ws_setF T.fk_mode (we_var (pv 0)) (wo_lift (we_c (pe_glob (v := .str "user") (by rfl) T.gUSER.choose_spec ⟨_, rfl⟩) fun _ => .str _)) rfl)
(wss_one (ws_ret (we_idx (we_fld T.fk_specials (we_var (pv 0)) rfl) (we_c (pe_glob (v := .int 0) (by rfl) T.gEPC.choose_spec ⟨_, rfl⟩) fun _ => .int _) (fun _ _ => rfl))))) wss_nil)
(wss_cons (ws_if (ww_and (wt_cmp (op_eqA hr.units) s_eq (we_var (pv 2)) we_str (nomark _)) (pw_and1 (wt_cmp (op_neA hr.units) s_ne (we_frz (wo_call (pe_callS (ok_Wrap T) (hr.mono (by decide)) (by rfl) T.dWrap.g T.dWrap.F.kp T.dWrap.b (fun σ => L2N.passAt tk σ) (wa_cons (we_add (we_fld T.fk_tick (we_var (pv 0)) rfl) we_int) wa_nil)))) (we_idx (we_fld T.fk_specials (we_var (pv 0)) rfl) (we_c (pe_glob (v := .int 4) (by rfl) T.gALARM.choose_spec ⟨_, rfl⟩) fun _ => .int _) (fun _ _ => rfl)) (nomark _)))).pt (wss_one (ws_ret (we_fld T.fk_pc (we_var (pv 0)) rfl))) wss_nil)
(wss_cut (ws_if (wt_cmp (op_eqA hr.units) s_eq (we_var (pv 2)) we_str (nomark _)) (wss_one (ws_setI (ps_asg (we_idx (we_fld T.fk_user (we_var (pv 0)) rfl) (we_var (pv 4)) (fun _ _ => rfl)) (pg_sub (we_fld T.fk_kernel (we_var (pv 0)) rfl) (we_var (pv 3)) set_list)))) wss_nil)
(wss_cut (ws_if (wt_cmp (op_eqA hr.units) s_eq (we_var (pv 2)) we_str (nomark _)) (wss_one (ws_setI (ps_asg (we_idx (we_fld T.fk_kernel (we_var (pv 0)) rfl) (we_var (pv 4)) (fun _ _ => rfl)) (pg_sub (we_fld T.fk_user (we_var (pv 0)) rfl) (we_var (pv 3)) set_list)))) wss_nil)
(wss_cut (ws_if (wt_cmp (op_eqA hr.units) s_eq (we_var (pv 2)) we_str (nomark _)) (wss_one (ws_setI (ps_asg (we_frz (wo_meth (show ¬ _ ∈ lys.getD 5 [] from by decide +kernel) (pe_methX (we_var (pv 0)) T.clMachine T.hMachineSpecial (ok_MachineSpecial T) (hr.mono (by decide)) T.mMachineSpecial.b (fun σ => L2N.passAt tk σ) (wa_cons (we_var (pv 5)) wa_nil)))) (pg_sub (we_fld T.fk_kernel (we_var (pv 0)) rfl) (we_var (pv 3)) set_list)))) wss_nil)
(wss_cut (ws_if (wt_cmp (op_eqA hr.units) s_eq (we_var (pv 2)) we_str (nomark _)) (wss_one (ws_setI (ps_asg (we_idx (we_fld T.fk_kernel (we_var (pv 0)) rfl) (we_var (pv 3)) (fun _ _ => rfl)) (pg_sub (we_fld T.fk_specials (we_var (pv 0)) rfl) (we_var (pv 5)) set_list)))) wss_nil)
(wss_one (ws_retO (wo_call (pe_callS (ok_Add T) (hr.mono (by decide)) (by rfl) T.dAdd.g T.dAdd.F.kp T.dAdd.b (fun σ => L2N.passAt tk σ) (wa_cons (we_fld T.fk_pc (we_var (pv 0)) rfl) (wa_cons we_int wa_nil)))))))))))))

theorem ok_MachineKernelTick (T : Tx K w mg) : FnOk P w K mg base (L2N.CX P w) 9 T.aMachineKernelTick T.fdMachineKernelTick PMachineKernelTick (spW K T.cs cMachineKernelTick) := by
  unfold cMachineKernelTick
  exact ok_W T.mMachineKernelTick.F scMachineKernelTick rfl fun cdv A outer s H E hr tk => by
    unfold wdMachineKernelTick
    exact (wss_one (ws_tryO (c0 := 1) T.exTrap rfl rfl ⟨rfl, by decide, .inl T.gTrap⟩ tk (fun W pn xe tk po => (wss_cons (ws_asg (ps_set (i := 1) scMachineKernelTick.nd rfl (Or.inl rfl) (we_frz (wo_call (pe_callS (ok_Decode T) (hr.mono (by decide)) (by rfl) T.dDecode.g T.dDecode.F.kp T.dDecode.b (fun σ => L2N.passAt tk σ) (wa_cons (we_frz (wo_methA (show ¬ _ ∈ lys.getD 3 [] from by decide +kernel) (pe_methX (we_fld T.fk_kernel_view (we_var (pv 0)) rfl) T.clKernelView T.hKernelViewFetch (ok_KernelViewFetch T) (hr.mono (by decide)) T.mKernelViewFetch.b (fun σ => L2N.passAt tk σ) (wa_cons (we_fld T.fk_pc (we_var (pv 0)) rfl) wa_nil)))) wa_nil))))))
(wss_one (ws_if (wt_cmp op_isN s_is (we_var (pv 1)) we_non (nomark _)) (wss_one (ws_setF T.fk_mode (we_var (pv 0)) (wo_lift (we_c (pe_glob (v := .str "broken") (by rfl) T.gBROKEN.choose_spec ⟨_, rfl⟩) fun _ => .str _)) rfl)) (wss_one (ws_if (wt_cmp op_in_seq s_in (we_idx (we_var (pv 1)) we_int (fun _ _ => rfl)) (we_c (pe_glob (v := .ref T.aKERNELONLY) (by rfl) T.gKERNELONLY rfl) fun G => T.dKERNELONLY _ G) rfl) (wss_one (ws_setF T.fk_pc (we_var (pv 0)) (wo_meth (show ¬ _ ∈ lys.getD 5 [] from by decide +kernel) (pe_methX (we_var (pv 0)) T.clMachine T.hMachineKernelOnly (ok_MachineKernelOnly T) (hr.mono (by decide)) T.mMachineKernelOnly.b (fun σ => L2N.passAt tk σ) (wa_cons (we_var (pv 1)) wa_nil))) rfl)) (wss_one (ws_setF T.fk_pc (we_var (pv 0)) (wo_call (pe_callS (ok_CarryOut T) (hr.mono (by decide)) (by rfl) T.dCarryOut.g T.dCarryOut.F.kp T.dCarryOut.b (fun σ => L2N.passAt tk σ) (wa_cons (we_var (pv 1)) (wa_cons (we_fld T.fk_kernel (we_var (pv 0)) rfl) (wa_cons (we_fld T.fk_pc (we_var (pv 0)) rfl) (wa_cons (we_fld T.fk_kernel_view (we_var (pv 0)) rfl) wa_nil)))))) rfl))))))))
 (fun a oe cls d pn hz hv => (wss_one (ws_setF T.fk_mode (we_var (pv 0)) (wo_lift (we_c (pe_glob (v := .str "broken") (by rfl) T.gBROKEN.choose_spec ⟨_, rfl⟩) fun _ => .str _)) rfl)))))

theorem ok_MachineStep (T : Tx K w mg) : FnOk P w K mg base (L2N.CX P w) 11 T.aMachineStep T.fdMachineStep PMachineStep (spW K T.cs cMachineStep) := by
  unfold cMachineStep
  exact ok_W T.mMachineStep.F scMachineStep rfl fun cdv A outer s H E hr tk => by
    unfold wdMachineStep
    exact (wss_cons (ws_if (wt_cmp (op_eqA hr.units) s_eq (we_fld T.fk_mode (we_var (pv 0)) rfl) (we_c (pe_glob (v := .str "broken") (by rfl) T.gBROKEN.choose_spec ⟨_, rfl⟩) fun _ => .str _) (nomark _)) (wss_one ws_retN) wss_nil)
(wss_cons (ws_expr (we_frz (wo_meth0 (show ¬ _ ∈ lys.getD 5 [] from by decide +kernel) (pe_methX0 (we_var (pv 0)) T.clMachine T.hMachineTakeInputs (ok_MachineTakeInputs T) (hr.mono (by decide)) T.mMachineTakeInputs.b (fun σ => L2N.passAt tk σ)))))
(wss_cut (ws_if (wt_cmp (op_eqA hr.units) s_eq (we_fld T.fk_mode (we_var (pv 0)) rfl) (we_c (pe_glob (v := .str "user") (by rfl) T.gUSER.choose_spec ⟨_, rfl⟩) fun _ => .str _) (nomark _)) (wss_one (ws_expr (we_frz (wo_meth0 (show ¬ _ ∈ lys.getD 5 [] from by decide +kernel) (pe_methX0 (we_var (pv 0)) T.clMachine T.hMachineUserTick (ok_MachineUserTick T) (hr.mono (by decide)) T.mMachineUserTick.b (fun σ => L2N.passAt tk σ)))))) (wss_one (ws_expr (we_frz (wo_meth0 (show ¬ _ ∈ lys.getD 5 [] from by decide +kernel) (pe_methX0 (we_var (pv 0)) T.clMachine T.hMachineKernelTick (ok_MachineKernelTick T) (hr.mono (by decide)) T.mMachineKernelTick.b (fun σ => L2N.passAt tk σ)))))))
(wss_one (ws_if (wt_cmp (op_neA hr.units) s_ne (we_fld T.fk_mode (we_var (pv 0)) rfl) (we_c (pe_glob (v := .str "broken") (by rfl) T.gBROKEN.choose_spec ⟨_, rfl⟩) fun _ => .str _) (nomark _)) (wss_cons (ws_augF T.fk_tick (we_var (pv 0)) we_int)
(wss_one (ws_setI (ps_asg (we_frz (wo_call (pe_callS (ok_Wrap T) (hr.mono (by decide)) (by rfl) T.dWrap.g T.dWrap.F.kp T.dWrap.b (fun σ => L2N.passAt tk σ) (wa_cons (we_fld T.fk_tick (we_var (pv 0)) rfl) wa_nil)))) (pg_sub (we_fld T.fk_specials (we_var (pv 0)) rfl) (we_c (pe_glob (v := .int 5) (by rfl) T.gTICKS.choose_spec ⟨_, rfl⟩) fun _ => .int _) set_list))))) wss_nil)))))

theorem ok_MachineState (T : Tx K w mg) : FnOk P w K mg base (L2N.CX P w) 1 T.aMachineState T.fdMachineState PMachineState (spW K T.cs cMachineState) := by
  unfold cMachineState
  exact ok_W T.mMachineState.F scMachineState rfl fun cdv A outer s H E hr tk => by
    unfold wdMachineState
    exact (wss_cons (ws_asg (ps_set (i := 1) scMachineState.nd rfl (Or.inl rfl) (we_tup (wa_cons (pe_imp (pe_callTy call_tuple_of (by rfl) T.b_tuple (by decide +kernel) (wa_cons (we_fld T.fk_user (we_var (pv 0)) rfl) wa_nil)) (e_tupOf)) (wa_cons (pe_imp (pe_callTy call_tuple_of (by rfl) T.b_tuple (by decide +kernel) (wa_cons (we_fld T.fk_kernel (we_var (pv 0)) rfl) wa_nil)) (e_tupOf)) (wa_cons (pe_imp (pe_callTy call_tuple_of (by rfl) T.b_tuple (by decide +kernel) (wa_cons (we_fld T.fk_specials (we_var (pv 0)) rfl) wa_nil)) (e_tupOf)) wa_nil))))))
(wss_one (ws_ret (we_tup (wa_cons (we_fld T.fk_mode (we_var (pv 0)) rfl) (wa_cons (we_fld T.fk_pc (we_var (pv 0)) rfl) (wa_cons (we_var (pv 1)) (wa_cons (we_fld T.fk_tick (we_var (pv 0)) rfl) (wa_cons (we_fld T.fk_given (we_var (pv 0)) rfl) (wa_cons (pe_imp (pe_callTy call_tuple_of (by rfl) T.b_tuple (by decide +kernel) (wa_cons (we_fld T.fk_memory (we_var (pv 0)) rfl) wa_nil)) (e_tupOf)) wa_nil))))))))))

theorem ok_Resumed (T : Tx K w mg) : FnOk P w K mg base (L2N.CX P w) 5 T.aResumed T.fdResumed PResumed (spW K T.cs cResumed) := by
  unfold cResumed
  exact ok_W T.dResumed.F scResumed rfl fun cdv A outer s H E hr tk => by
    unfold wdResumed
    exact (wss_cons (ws_asgT (tg_tup (js := [3, 4, 5, 6, 7, 8]) rfl) (ps_asg (we_var (pv 0)) (pg_tup rfl (pgs_cons (pg_name (i := 3) scResumed.nd rfl (Or.inl rfl)) (pgs_cons (pg_name (i := 4) scResumed.nd rfl (Or.inl rfl)) (pgs_cons (pg_name (i := 5) scResumed.nd rfl (Or.inl rfl)) (pgs_cons (pg_name (i := 6) scResumed.nd rfl (Or.inl rfl)) (pgs_cons (pg_name (i := 7) scResumed.nd rfl (Or.inl rfl)) (pgs_cons (pg_name (i := 8) scResumed.nd rfl (Or.inl rfl)) pgs_nil)))))))))
(wss_cons (ws_asgT (tg_tup (js := [9, 10, 11]) rfl) (ps_asg (we_var (pv 5)) (pg_tup rfl (pgs_cons (pg_name (i := 9) scResumed.nd rfl (Or.inl rfl)) (pgs_cons (pg_name (i := 10) scResumed.nd rfl (Or.inl rfl)) (pgs_cons (pg_name (i := 11) scResumed.nd rfl (Or.inl rfl)) pgs_nil))))))
(wss_cons (ws_new (ps_set (i := 12) scResumed.nd rfl (Or.inl rfl) (wo_makeN (pe_make T.mkMachine (ok_MachineInit T) (hr.mono (by decide)) (by rfl) T.gMachine T.mMachineInit.b .nil noPassW (wa_cons (we_var (pv 8)) (wa_cons (we_var (pv 1)) (wa_cons (we_var (pv 2)) wa_nil)))))))
(wss_cons (ws_setF T.fk_mode (we_var (pv 12)) (wo_lift (we_var (pv 3))) rfl)
(wss_cons (ws_setF T.fk_pc (we_var (pv 12)) (wo_lift (we_var (pv 4))) rfl)
(wss_cons (ws_setFT T.fk_user (we_var (pv 12)) (pe_imp (pe_callTy call_list_of (by rfl) T.b_list (by decide +kernel) (wa_cons (we_var (pv 9)) wa_nil)) o_listOf) rfl)
(wss_cons (ws_setFT T.fk_kernel (we_var (pv 12)) (pe_imp (pe_callTy call_list_of (by rfl) T.b_list (by decide +kernel) (wa_cons (we_var (pv 10)) wa_nil)) o_listOf) rfl)
(wss_cons (ws_setFT T.fk_specials (we_var (pv 12)) (pe_imp (pe_callTy call_list_of (by rfl) T.b_list (by decide +kernel) (wa_cons (we_var (pv 11)) wa_nil)) o_listOf) rfl)
(wss_cons (ws_setF T.fk_tick (we_var (pv 12)) (wo_lift (we_var (pv 6))) rfl)
(wss_cons (ws_setF T.fk_given (we_var (pv 12)) (wo_lift (we_var (pv 7))) rfl)
(wss_one (ws_ret (we_var (pv 12))))))))))))))

theorem ok_LawNumber (T : Tx K w mg) : FnOk P w K mg base (L2N.CX P w) 1 T.aLawNumber T.fdLawNumber PLawNumber (spW K T.cs cLawNumber) := by
  unfold cLawNumber
  exact ok_W T.dLawNumber.F scLawNumber rfl fun cdv A outer s H E hr tk => by
    unfold wdLawNumber
    exact (wss_cons (ws_if (wt_cmp op_ge s_ge (we_var (pv 0)) (we_pow we_int we_int) (nomark _)) (wss_one (ws_ret (we_var (pv 0)))) wss_nil)
(wss_cons (ws_asg (ps_set (i := 2) scLawNumber.nd rfl (Or.inl rfl) (we_mod (pe_imp (pe_callTy call_int1 (by rfl) T.b_int (by decide +kernel) (wa_cons (we_add (we_add (we_mul (we_var (pv 0)) we_int) (we_mul (we_var (pv 1)) we_int)) we_int) wa_nil)) (e_cb sa_int)) we_int)))
(wss_one (ws_ret (we_mod (pe_imp (pe_callTy call_int1 (by rfl) T.b_int (by decide +kernel) (wa_cons (we_add (we_mul (we_var (pv 2)) (we_var (pv 2))) (we_mul (we_var (pv 1)) we_int)) wa_nil)) (e_cb sa_int)) we_int)))))

theorem ok_LawWord (T : Tx K w mg) : FnOk P w K mg base (L2N.CX P w) 1 T.aLawWord T.fdLawWord PLawWord (spW K T.cs cLawWord) := by
  unfold cLawWord
  exact ok_W T.dLawWord.F scLawWord rfl fun cdv A outer s H E hr tk => by
    unfold wdLawWord
    exact (wss_cons (ws_asg (ps_set (i := 1) scLawWord.nd rfl (Or.inl rfl) (we_mod (pe_imp (pe_callTy call_int1 (by rfl) T.b_int (by decide +kernel) (wa_cons (we_var (pv 0)) wa_nil)) (e_cb sa_int)) we_int)))
(wss_cons (ws_asg (ps_set (i := 2) scLawWord.nd rfl (Or.inl rfl) (we_fdiv (we_var (pv 0)) we_int)))
(wss_cons (ws_if (wt_cmp op_lt s_lt (we_var (pv 1)) we_int (nomark _)) (wss_cons (ws_asg (ps_set (i := 3) scLawWord.nd rfl (Or.inl rfl) (we_idx (we_frz (wo_lst (wa_cons we_int (wa_cons we_int (wa_cons we_int (wa_cons we_int (wa_cons we_int (wa_cons we_int (wa_cons we_int (wa_cons we_int (wa_cons we_int (wa_cons we_int (wa_cons we_int (wa_cons we_int (wa_cons we_int (wa_cons we_int (wa_cons we_int (wa_cons we_int (wa_cons we_int (wa_cons we_int (wa_cons we_int (wa_cons we_int (wa_cons we_int (wa_cons we_int (wa_cons we_int (wa_cons we_int wa_nil)))))))))))))))))))))))))) (we_mod (pe_imp (pe_callTy call_int1 (by rfl) T.b_int (by decide +kernel) (wa_cons (we_var (pv 2)) wa_nil)) (e_cb sa_int)) we_int) (fun _ _ => rfl))))
(wss_cons (ws_asg (ps_set (i := 4) scLawWord.nd rfl (Or.inl rfl) (we_mod (we_fdiv (we_var (pv 2)) we_int) we_int)))
(wss_cons (ws_asg (ps_set (i := 5) scLawWord.nd rfl (Or.inl rfl) (we_mod (we_fdiv (we_var (pv 2)) we_int) we_int)))
(wss_cons (ws_asg (ps_set (i := 6) scLawWord.nd rfl (Or.inl rfl) (we_mod (we_fdiv (we_var (pv 2)) we_int) we_int)))
(wss_cons (ws_if (wt_cmp op_in_seq s_in (we_var (pv 3)) (we_tup (wa_cons we_int (wa_cons we_int (wa_cons we_int (wa_cons we_int wa_nil))))) rfl) (wss_one (ws_ret (we_add (we_add (we_mul (we_var (pv 3)) we_int) (we_mul (we_mul (we_var (pv 4)) we_int) (pe_imp (pe_callTy call_int1 (by rfl) T.b_int (by decide +kernel) (wa_cons (we_cmp op_in_seq s_in (we_var (pv 3)) (we_tup (wa_cons we_int (wa_cons we_int wa_nil))) rfl) wa_nil)) (e_cb sa_int)))) (we_mul (we_var (pv 6)) (pe_imp (pe_callTy call_int1 (by rfl) T.b_int (by decide +kernel) (wa_cons (we_cmp (op_eqA hr.units) s_eq (we_var (pv 3)) we_int (nomark _)) wa_nil)) (e_cb sa_int)))))) wss_nil)
(wss_cons (ws_if (wt_cmp op_in_seq s_in (we_var (pv 3)) (we_tup (wa_cons we_int (wa_cons we_int wa_nil))) rfl) (wss_one (ws_ret (we_add (we_add (we_mul (we_var (pv 3)) we_int) (we_mul (we_var (pv 4)) we_int)) (we_mul (we_var (pv 5)) we_int)))) wss_nil)
(wss_one (ws_ret (we_add (we_add (we_add (we_mul (we_var (pv 3)) we_int) (we_mul (we_var (pv 4)) we_int)) (we_mul (we_var (pv 5)) we_int)) (we_mod (pe_imp (pe_callTy call_int1 (by rfl) T.b_int (by decide +kernel) (wa_cons (we_var (pv 6)) wa_nil)) (e_cb sa_int)) (we_idx (we_frz (wo_lst (wa_cons we_int (wa_cons we_int wa_nil)))) (pe_imp (pe_callTy call_int1 (by rfl) T.b_int (by decide +kernel) (wa_cons (we_chain op_le op_le s_le s_le we_int (we_var (pv 3)) we_int (pe_chain op_le op_le we_int (we_var (pv 3)) we_int)) wa_nil)) (e_cb sa_int)) (fun _ _ => rfl)))))))))))) wss_nil)
(wss_cons (ws_if (wt_cmp (op_eqA hr.units) s_eq (we_var (pv 1)) we_int (nomark _)) (wss_one (ws_ret (we_mod (pe_imp (pe_callTy call_int1 (by rfl) T.b_int (by decide +kernel) (wa_cons (we_var (pv 2)) wa_nil)) (e_cb sa_int)) we_int))) wss_nil)
(wss_one (ws_ret (we_mod (pe_imp (pe_callTy call_int1 (by rfl) T.b_int (by decide +kernel) (wa_cons (we_var (pv 2)) wa_nil)) (e_cb sa_int)) we_int)))))))

theorem ok_LawRow (T : Tx K w mg) : FnOk P w K mg base (L2N.CX P w) 2 T.aLawRow T.fdLawRow PLawRow (spW K T.cs cLawRow) := by
  unfold cLawRow
  exact ok_W T.dLawRow.F scLawRow rfl fun cdv A outer s H E hr tk => by
    unfold wdLawRow
    exact (wss_cons (ws_new (ps_set (i := 3) scLawRow.nd rfl (Or.inl rfl) (wo_lst wa_nil)))
(wss_cons (ws_asg (ps_set (i := 4) scLawRow.nd rfl (Or.inl rfl) we_int))
(wss_cut (ws_if (wt_cmp op_ge s_ge (we_var (pv 0)) (we_pow we_int we_int) (nomark _)) (wss_one (ws_asg (ps_set (i := 4) scLawRow.nd rfl (Or.inl rfl) (we_var (pv 0))))) wss_nil)
(wss_cut (ws_for tg_name (ps_for PassesOwn.leaving rfl (wi_rng1 (pi_range1 (by rfl) T.b_range (wa_cons (we_var (pv 2)) wa_nil))) (pg_name (i := 5) scLawRow.nd rfl (Or.inl rfl)) (wss_one (ws_if (wt_cmp op_gt s_gt (we_var (pv 4)) we_int (nomark _)) (wss_cons (ws_app (ps_expr (pe_bm PySem.F.plainAttrs_list PySem.F.slot_list_append PySem.F.type_list_append mt_append (we_var (pv 3)) (pa_cons (wo_lift (we_mod (pe_imp (pe_callTy call_int1 (by rfl) T.b_int (by decide +kernel) (wa_cons (we_var (pv 4)) wa_nil)) (e_cb sa_int)) we_int)) pa_nil))))
(wss_one (ws_asg (ps_set (i := 4) scLawRow.nd rfl (Or.inl rfl) (we_fdiv (we_var (pv 4)) we_int))))) (wss_one (ws_app (ps_expr (pe_bm PySem.F.plainAttrs_list PySem.F.slot_list_append PySem.F.type_list_append mt_append (we_var (pv 3)) (pa_cons (wo_call (pe_callS (ok_LawWord T) (hr.mono (by decide)) (by rfl) T.dLawWord.g T.dLawWord.F.kp T.dLawWord.b (fun σ => L2N.passAt tk σ) (wa_cons (we_frz (wo_call (pe_callS (ok_LawNumber T) (hr.mono (by decide)) (by rfl) T.dLawNumber.g T.dLawNumber.F.kp T.dLawNumber.b (fun σ => L2N.passAt tk σ) (wa_cons (we_add (we_mod (pe_imp (pe_callTy call_int1 (by rfl) T.b_int (by decide +kernel) (wa_cons (we_var (pv 0)) wa_nil)) (e_cb sa_int)) we_int) (we_mul we_int (we_var (pv 5)))) (wa_cons (we_add (we_var (pv 1)) (we_var (pv 5))) wa_nil))))) wa_nil))) pa_nil)))))))))
(wss_one (ws_ret (we_var (pv 3))))))))

theorem ok_LawPlain (T : Tx K w mg) : FnOk P w K mg base (L2N.CX P w) 3 T.aLawPlain T.fdLawPlain PLawPlain (spW K T.cs cLawPlain) := by
  unfold cLawPlain
  exact ok_W T.dLawPlain.F scLawPlain rfl fun cdv A outer s H E hr tk => by
    unfold wdLawPlain
    exact (wss_cons (ws_asg (ps_set (i := 1) scLawPlain.nd rfl (Or.inl rfl) (we_frz (wo_call (pe_callS (ok_LawNumber T) (hr.mono (by decide)) (by rfl) T.dLawNumber.g T.dLawNumber.F.kp T.dLawNumber.b (fun σ => L2N.passAt tk σ) (wa_cons (we_idx (we_var (pv 0)) we_int (fun _ _ => rfl)) (wa_cons we_int wa_nil)))))))
(wss_cons (ws_asg (ps_set (i := 2) scLawPlain.nd rfl (Or.inr rfl) (we_frz (wo_call (pe_callS (ok_LawRow T) (hr.mono (by decide)) (by rfl) T.dLawRow.g T.dLawRow.F.kp T.dLawRow.b (fun σ => L2N.passAt tk σ) (wa_cons (we_idx (we_var (pv 0)) we_int (fun _ _ => rfl)) (wa_cons we_int (wa_cons we_int wa_nil))))))))
(wss_cons (ws_new (ps_set (i := 3) scLawPlain.nd rfl (Or.inl rfl) (wo_lst wa_nil)))
(wss_cut (ws_for tg_name (ps_for PassesOwn.leaving rfl (wi_rng1 (pi_range1 (by rfl) T.b_range (wa_cons we_int wa_nil))) (pg_name (i := 4) scLawPlain.nd rfl (Or.inl rfl)) (wss_cons (ws_asg (ps_set (i := 5) scLawPlain.nd rfl (Or.inl rfl) (we_frz (wo_call (pe_callS (ok_LawNumber T) (hr.mono (by decide)) (by rfl) T.dLawNumber.g T.dLawNumber.F.kp T.dLawNumber.b (fun σ => L2N.passAt tk σ) (wa_cons (we_add (we_fdiv (we_idx (we_var (pv 0)) we_int (fun _ _ => rfl)) we_int) (we_mul we_int (we_var (pv 4)))) (wa_cons (we_add we_int (we_var (pv 4))) wa_nil)))))))
(wss_one (ws_app (ps_expr (pe_bm PySem.F.plainAttrs_list PySem.F.slot_list_append PySem.F.type_list_append mt_append (we_var (pv 3)) (pa_cons (wo_lift (we_tup (wa_cons (we_mod (pe_imp (pe_callTy call_int1 (by rfl) T.b_int (by decide +kernel) (wa_cons (we_var (pv 5)) wa_nil)) (e_cb sa_int)) we_int) (wa_cons (we_idx (we_frz (wo_lst (wa_cons we_int (wa_cons we_int (wa_cons we_int (wa_cons we_int (wa_cons we_int (wa_cons we_int (wa_cons we_int (wa_cons we_int wa_nil)))))))))) (we_mod (we_fdiv (we_var (pv 5)) we_int) we_int) (fun _ _ => rfl)) wa_nil)))) pa_nil))))))))
(wss_cons (s_setLc tg_name (tgw_name (by decide)) (ps_setLc (i := 6) (own := [("k", 4)]) rfl scLawPlain.nd rfl rfl (sw_true rfl rfl rfl (by decide +kernel)) (wi_rng1 (pi_range1 (by rfl) T.b_range (wa_cons we_int wa_nil))) (blkOk_by (own := [("k", 4)]) (N := NLawPlain) (sc := defScope sLawPlain) (by decide +kernel)) (fun _ _ _ _ _ => (pg_name (i := 4) scLawPlain.nd rfl (Or.inl rfl))) (fun _ _ _ _ _ => wts_nil) (fun _ _ _ _ _ => (wo_lift (we_idx (we_frz (wo_call (pe_callS (ok_LawRow T) (hr.mono (by decide)) (by rfl) T.dLawRow.g T.dLawRow.F.kp T.dLawRow.b (fun σ => L2N.passAt takesNo σ) (wa_cons (we_idx (we_var (pv 0)) we_int (fun _ _ => rfl)) (wa_cons we_int (wa_cons we_int wa_nil)))))) (we_var (pv 4)) (fun _ _ => rfl))))))
(wss_cut (ws_for tg_name (ps_for PassesOwn.leaving rfl (wi_rng1 (pi_range1 (by rfl) T.b_range (wa_cons we_int wa_nil))) (pg_name (i := 4) scLawPlain.nd rfl (Or.inl rfl)) (wss_one (ws_if (wt_cmp (op_eqA hr.units) s_eq (we_mod (we_fdiv (we_var (pv 1)) (we_add we_int (we_var (pv 4)))) we_int) we_int (nomark _)) (wss_one (ws_setI (ps_asg (we_mod (pe_imp (pe_callTy call_int1 (by rfl) T.b_int (by decide +kernel) (wa_cons (we_idx (we_var (pv 6)) (we_var (pv 4)) (fun _ _ => rfl)) wa_nil)) (e_cb sa_int)) we_int) (pg_sub (we_var (pv 6)) (we_var (pv 4)) set_list)))) wss_nil))))
(wss_cons (ws_new (ps_set (i := 7) scLawPlain.nd rfl (Or.inl rfl) (wo_lst wa_nil)))
(wss_cons (ws_asg (ps_set (i := 8) scLawPlain.nd rfl (Or.inl rfl) we_int))
(wss_cons (ws_asg (ps_set (i := 9) scLawPlain.nd rfl (Or.inl rfl) (we_frz (wo_call (pe_callS (ok_LawNumber T) (hr.mono (by decide)) (by rfl) T.dLawNumber.g T.dLawNumber.F.kp T.dLawNumber.b (fun σ => L2N.passAt tk σ) (wa_cons (we_idx (we_var (pv 0)) we_int (fun _ _ => rfl)) (wa_cons we_int wa_nil)))))))
(wss_cut (ws_for tg_name (ps_for PassesOwn.leaving rfl (wi_rng1 (pi_range1 (by rfl) T.b_range (wa_cons (we_mod (pe_imp (pe_callTy call_int1 (by rfl) T.b_int (by decide +kernel) (wa_cons (we_var (pv 9)) wa_nil)) (e_cb sa_int)) we_int) wa_nil))) (pg_name (i := 4) scLawPlain.nd rfl (Or.inl rfl)) (wss_cons (ws_asg (ps_set (i := 5) scLawPlain.nd rfl (Or.inl rfl) (we_frz (wo_call (pe_callS (ok_LawNumber T) (hr.mono (by decide)) (by rfl) T.dLawNumber.g T.dLawNumber.F.kp T.dLawNumber.b (fun σ => L2N.passAt tk σ) (wa_cons (we_add (we_fdiv (we_idx (we_var (pv 0)) we_int (fun _ _ => rfl)) we_int) (we_var (pv 4))) (wa_cons (we_add we_int (we_var (pv 4))) wa_nil)))))))
(wss_cons (ws_asg (ps_set (i := 8) scLawPlain.nd rfl (Or.inl rfl) (we_add (we_var (pv 8)) (we_idx (we_frz (wo_lst (wa_cons we_int (wa_cons we_int (wa_cons we_int (wa_cons we_int (wa_cons we_int wa_nil))))))) (we_mod (pe_imp (pe_callTy call_int1 (by rfl) T.b_int (by decide +kernel) (wa_cons (we_var (pv 5)) wa_nil)) (e_cb sa_int)) we_int) (fun _ _ => rfl)))))
(wss_one (ws_app (ps_expr (pe_bm PySem.F.plainAttrs_list PySem.F.slot_list_append PySem.F.type_list_append mt_append (we_var (pv 7)) (pa_cons (wo_lift (we_tup (wa_cons (we_var (pv 8)) (wa_cons (we_mod (we_fdiv (we_var (pv 5)) we_int) we_int) (wa_cons (we_mod (we_fdiv (we_var (pv 5)) we_int) we_int) wa_nil))))) pa_nil)))))))))
(wss_cons (s_setLcF tg_name (tgw_name (by decide)) (ps_setLc (i := 10) (own := [("k", 4)]) rfl scLawPlain.nd rfl rfl (sw_true rfl rfl rfl (by decide +kernel)) (wi_rng1 (pi_range1 (by rfl) T.b_range (wa_cons we_int wa_nil))) (blkOk_by (own := [("k", 4)]) (N := NLawPlain) (sc := defScope sLawPlain) (by decide +kernel)) (fun _ _ _ _ _ => (pg_name (i := 4) scLawPlain.nd rfl (Or.inl rfl))) (fun _ _ _ _ _ => wts_nil) (fun _ _ _ _ _ => (wo_slL (we_var (pv 2)) (wp_some (we_mul we_int (we_var (pv 4)))) (wp_some (we_add (we_mul we_int (we_var (pv 4))) we_int))))))
(wss_one (ws_retO (wo_disp (l := [((Sum.inr "frames"), (wLift (wVar 10))), ((Sum.inr "pages"), (wMv (wVar 3))), ((Sum.inr "user"), (wMv (wVar 6))), ((Sum.inr "pc"), (wLift (wMod (wDiv (wVar 1) (wC (.int 19))) (wC (.int 128))))), ((Sum.inr "alarm"), (wLift (wMod (wDiv (wVar 1) (wC (.int 5))) (wC (.int 91))))), ((Sum.inr "inputs"), (wMv (wVar 7)))]) (pps_cons pe_str (wo_lift (we_var (pv 10))) (pps_cons pe_str (wo_mv (we_var (pv 3))) (pps_cons pe_str (wo_mv (we_var (pv 6))) (pps_cons pe_str (wo_lift (we_mod (we_fdiv (we_var (pv 1)) we_int) we_int)) (pps_cons pe_str (wo_lift (we_mod (we_fdiv (we_var (pv 1)) we_int) we_int)) (pps_cons pe_str (wo_mv (we_var (pv 7))) pps_nil)))))) rfl rfl (by intro h; cases h) (by show 6 ≤ 15; decide)))))))))))))))

theorem ok_LawWorld (T : Tx K w mg) : FnOk P w K mg base (L2N.CX P w) 6 T.aLawWorld T.fdLawWorld PLawWorld (spR K T.cs cLawWorld) := by
  unfold cLawWorld
  exact ok_WR T.dLawWorld.F scLawWorld rfl fun cdv A outer s H E hr tk => by
    unfold wdLawWorld
    exact (wss_cons (ws_asg (ps_set (i := 2) scLawWorld.nd rfl (Or.inl rfl) (we_mul we_int (we_add we_int (we_mod (pe_imp (pe_callTy call_int1 (by rfl) T.b_int (by decide +kernel) (wa_cons (we_var (pv 1)) wa_nil)) (e_cb sa_int)) we_int)))))
(wss_cons (s_setLc tg_name (tgw_name (by decide)) (ps_setLc (i := 3) (own := [("at", 4)]) rfl scLawWorld.nd rfl rfl (sw_true rfl rfl rfl (by decide +kernel)) (wi_rng1 (pi_range1 (by rfl) T.b_range (wa_cons (we_var (pv 2)) wa_nil))) (blkOk_by (own := [("at", 4)]) (N := NLawWorld) (sc := defScope sLawWorld) (by decide +kernel)) (fun _ _ _ _ _ => (pg_name (i := 4) scLawWorld.nd rfl (Or.inl rfl))) (fun _ _ _ _ _ => wts_nil) (fun _ _ _ _ _ => (wo_lift (we_mod (we_fdiv (we_frz (wo_call (pe_callS (ok_LawNumber T) (hr.mono (by decide)) (by rfl) T.dLawNumber.g T.dLawNumber.F.kp T.dLawNumber.b (fun σ => L2N.passAt takesNo σ) (wa_cons (we_add (we_var (pv 1)) (we_mul we_int (we_var (pv 4)))) (wa_cons (we_var (pv 4)) wa_nil))))) we_int) we_int)))))
(wss_cons (s_setLc tg_name (tgw_name (by decide)) (ps_setLc (i := 5) (own := [("k", 6)]) rfl scLawWorld.nd rfl rfl (sw_true rfl rfl rfl (by decide +kernel)) (wi_rng1 (pi_range1 (by rfl) T.b_range (wa_cons (we_fdiv (we_var (pv 2)) we_int) wa_nil))) (blkOk_by (own := [("k", 6)]) (N := NLawWorld) (sc := defScope sLawWorld) (by decide +kernel)) (fun _ _ _ _ _ => (pg_name (i := 6) scLawWorld.nd rfl (Or.inl rfl))) (fun _ _ _ _ _ => wts_nil) (fun _ _ _ _ _ => (wo_lift (we_var (pv 6))))))
(wss_cons (ws_asg (ps_set (i := 7) scLawWorld.nd rfl (Or.inl rfl) (we_fdiv (we_var (pv 1)) we_int)))
(wss_cons (ws_new (ps_set (i := 8) scLawWorld.nd rfl (Or.inl rfl) (wo_lst wa_nil)))
(wss_cut (ws_for tg_name (ps_for PassesOwn.leaving rfl (wi_rng1 (pi_range1 (by rfl) T.b_range (wa_cons we_int wa_nil))) (pg_name (i := 6) scLawWorld.nd rfl (Or.inl rfl)) (wss_cons (ws_app (ps_expr (pe_bm PySem.F.plainAttrs_list PySem.F.slot_list_append PySem.F.type_list_append mt_append (we_var (pv 8)) (pa_cons (wo_lift (we_pop (pe_bm PySem.F.plainAttrs_list PySem.F.slot_list_pop PySem.F.type_list_pop mt_popAt (we_var (pv 5)) (wa_cons (we_mod (pe_imp (pe_callTy call_int1 (by rfl) T.b_int (by decide +kernel) (wa_cons (we_var (pv 7)) wa_nil)) (e_cb sa_int)) (pe_imp (pe_callB call_len (by rfl) T.b_len PySem.boot_len (wa_cons (we_var (pv 5)) wa_nil)) (e_cb sa_len))) wa_nil)))) pa_nil))))
(wss_one (ws_asg (ps_set (i := 7) scLawWorld.nd rfl (Or.inl rfl) (we_fdiv (we_var (pv 7)) we_int)))))))
(wss_cons (ws_asg (ps_set (i := 9) scLawWorld.nd rfl (Or.inl rfl) (we_add (we_mul we_int (we_idx (we_var (pv 8)) we_int (fun _ _ => rfl))) (we_mod (pe_imp (pe_callTy call_int1 (by rfl) T.b_int (by decide +kernel) (wa_cons (we_var (pv 7)) wa_nil)) (e_cb sa_int)) we_int))))
(wss_cut (ws_for tg_name (ps_for PassesOwn.leaving rfl (wi_rng1 (pi_range1 (by rfl) T.b_range (wa_cons we_int wa_nil))) (pg_name (i := 6) scLawWorld.nd rfl (Or.inl rfl)) (wss_one (ws_for tg_name (ps_for PassesOwn.leaving rfl (wi_rng1 (pi_range1 (by rfl) T.b_range (wa_cons we_int wa_nil))) (pg_name (i := 4) scLawWorld.nd rfl (Or.inl rfl)) (wss_one (ws_setI (ps_asg (we_idx (we_idx (we_key (un1 hr.units) (we_var (pv 0)) we_str (fun _ _ => rfl)) (we_var (pv 6)) (fun _ _ => rfl)) (we_var (pv 4)) (fun _ _ => rfl)) (pg_sub (we_var (pv 3)) (we_add (we_mul we_int (we_idx (we_var (pv 8)) (we_var (pv 6)) (fun _ _ => rfl))) (we_var (pv 4))) set_list)))))))))
(wss_cut (ws_for tg_name (ps_for PassesOwn.leaving rfl (wi_rng1 (pi_range1 (by rfl) T.b_range (wa_cons we_int wa_nil))) (pg_name (i := 6) scLawWorld.nd rfl (Or.inl rfl)) (wss_cons (ws_asgT (tg_tup (js := [10, 11]) rfl) (ps_asg (we_idx (we_key (un1 hr.units) (we_var (pv 0)) we_str (fun _ _ => rfl)) (we_var (pv 6)) (fun _ _ => rfl)) (pg_tup rfl (pgs_cons (pg_name (i := 10) scLawWorld.nd rfl (Or.inl rfl)) (pgs_cons (pg_name (i := 11) scLawWorld.nd rfl (Or.inl rfl)) pgs_nil)))))
(wss_one (ws_setI (ps_asg (we_add (we_mul we_int (we_idx (we_var (pv 8)) (we_var (pv 10)) (fun _ _ => rfl))) (we_var (pv 11))) (pg_sub (we_var (pv 3)) (we_add (we_var (pv 9)) (we_var (pv 6))) set_list)))))))
(wss_cons (ws_asg (ps_set (i := 12) scLawWorld.nd rfl (Or.inr rfl) (we_idx (we_frz (wo_lst (wa_cons we_int (wa_cons we_int (wa_cons (we_mod (we_fdiv (we_var (pv 1)) we_int) we_int) wa_nil))))) (we_mod (we_fdiv (we_var (pv 1)) we_int) we_int) (fun _ _ => rfl))))
(wss_cons (ws_asg (ps_set (i := 13) scLawWorld.nd rfl (Or.inl rfl) (we_tup (wa_cons (we_mod (we_fdiv (we_frz (wo_call (pe_callS (ok_LawNumber T) (hr.mono (by decide)) (by rfl) T.dLawNumber.g T.dLawNumber.F.kp T.dLawNumber.b (fun σ => L2N.passAt tk σ) (wa_cons (we_var (pv 1)) (wa_cons we_int wa_nil))))) we_int) we_int) (wa_cons we_int (wa_cons we_int (wa_cons (we_var (pv 9)) (wa_cons (we_mod (pe_imp (pe_callTy call_int1 (by rfl) T.b_int (by decide +kernel) (wa_cons (we_add (we_var (pv 12)) (we_key (un1 hr.units) (we_var (pv 0)) we_str (fun _ _ => rfl))) wa_nil)) (e_cb sa_int)) we_int) (wa_cons (we_mod (pe_imp (pe_callTy call_int1 (by rfl) T.b_int (by decide +kernel) (wa_cons (we_var (pv 12)) wa_nil)) (e_cb sa_int)) we_int) (wa_cons we_int wa_nil))))))))))
(wss_cons (ws_asg (ps_set (i := 14) scLawWorld.nd rfl (Or.inl rfl) (pe_imp (pe_callTy call_tuple_of (by rfl) T.b_tuple (by decide +kernel) (wa_cons (we_frz (wo_lc tg_name (tgw_name (by decide)) (pe_lc (own := [("k", 6)]) rfl scLawWorld.nd (wi_rng1 (pi_range1 (by rfl) T.b_range (wa_cons we_int wa_nil))) (blkOk_by (own := [("k", 6)]) (N := NLawWorld) (sc := defScope sLawWorld) (by decide +kernel)) (fun _ _ _ _ _ => (pg_name (i := 6) scLawWorld.nd rfl (Or.inl rfl))) (fun _ _ _ _ _ => wts_nil) (fun _ _ _ _ _ => (wo_lift (we_mod (we_fdiv (we_frz (wo_call (pe_callS (ok_LawNumber T) (hr.mono (by decide)) (by rfl) T.dLawNumber.g T.dLawNumber.F.kp T.dLawNumber.b (fun σ => L2N.passAt takesNo σ) (wa_cons (we_add (we_var (pv 1)) (we_var (pv 6))) (wa_cons we_int wa_nil))))) we_int) we_int)))))) wa_nil)) (e_tupOf))))
(wss_cons (ws_asg (ps_set (i := 15) scLawWorld.nd rfl (Or.inl rfl) (we_tup (wa_cons we_str (wa_cons (we_key (un1 hr.units) (we_var (pv 0)) we_str (fun _ _ => rfl)) (wa_cons (we_tup (wa_cons (pe_imp (pe_callTy call_tuple_of (by rfl) T.b_tuple (by decide +kernel) (wa_cons (we_key (un1 hr.units) (we_var (pv 0)) we_str (fun _ _ => rfl)) wa_nil)) (e_tupOf)) (wa_cons (we_var (pv 14)) (wa_cons (we_var (pv 13)) wa_nil)))) (wa_cons (we_var (pv 12)) (wa_cons we_int (wa_cons (pe_imp (pe_callTy call_tuple_of (by rfl) T.b_tuple (by decide +kernel) (wa_cons (we_var (pv 3)) wa_nil)) (e_tupOf)) wa_nil)))))))))
(wss_cons (s_setLcF (tg_tup (js := [17, 18, 19]) rfl) (tgw_tup (by decide)) (ps_setLc (i := 16) (own := [("tick", 17), ("device", 18), ("word", 19)]) rfl scLawWorld.nd rfl rfl (sw_true rfl rfl rfl (by decide +kernel)) (wi_list (we_key (un1 hr.units) (we_var (pv 0)) we_str (fun _ _ => rfl))) (blkOk_by (own := [("tick", 17), ("device", 18), ("word", 19)]) (N := NLawWorld) (sc := defScope sLawWorld) (by decide +kernel)) (fun _ _ _ _ _ => (pg_tup rfl (pgs_cons (pg_name (i := 17) scLawWorld.nd rfl (Or.inl rfl)) (pgs_cons (pg_name (i := 18) scLawWorld.nd rfl (Or.inl rfl)) (pgs_cons (pg_name (i := 19) scLawWorld.nd rfl (Or.inl rfl)) pgs_nil))))) (fun _ _ _ _ _ => wts_nil) (fun _ _ _ _ _ => (wo_lift (we_tup (wa_cons (we_add (we_var (pv 12)) (we_var (pv 17))) (wa_cons (we_var (pv 18)) (wa_cons (we_var (pv 19)) wa_nil))))))))
(wss_cons (ws_new (ps_set (i := 20) scLawWorld.nd rfl (Or.inl rfl) (wo_call (pe_callS (ok_Resumed T) (hr.mono (by decide)) (by rfl) T.dResumed.g T.dResumed.F.kp T.dResumed.b (fun σ => L2N.passAt tk σ) (wa_cons (we_var (pv 15)) (wa_cons (we_frz (wo_lst (wa_cons (we_mul we_int (we_idx (we_var (pv 8)) we_int (fun _ _ => rfl))) (wa_cons (we_mul we_int (we_idx (we_var (pv 8)) we_int (fun _ _ => rfl))) wa_nil)))) (wa_cons (we_var (pv 16)) wa_nil)))))))
(wss_one (ws_ret (we_tup (wa_cons (we_frz (wo_bk (we_var (pv 20)))) (wa_cons (we_frz (wo_slL (we_var (pv 8)) wp_none (wp_some we_int))) (wa_cons (we_var (pv 12)) (wa_cons (we_fz (we_var (pv 3))) wa_nil))))))))))))))))))))))

theorem ok_LawSeen (T : Tx K w mg) : FnOk P w K mg base (L2N.CX P w) 1 T.aLawSeen T.fdLawSeen PLawSeen (spW K T.cs cLawSeen) := by
  unfold cLawSeen
  exact ok_W T.dLawSeen.F scLawSeen rfl fun cdv A outer s H E hr tk => by
    unfold wdLawSeen
    exact (wss_cons (ws_asg (ps_set (i := 1) scLawSeen.nd rfl (Or.inr rfl) (we_res (we_idx (we_var (pv 0)) we_int (fun _ _ => rfl)))))
(wss_cons (s_setLcF tg_name (tgw_name (by decide)) (ps_setLc (i := 2) (own := [("place", 3)]) rfl scLawSeen.nd rfl rfl (sw_true rfl rfl rfl (by decide +kernel)) (wi_list (we_idx (we_var (pv 0)) we_int (fun _ _ => rfl))) (blkOk_by (own := [("place", 3)]) (N := NLawSeen) (sc := defScope sLawSeen) (by decide +kernel)) (fun _ _ _ _ _ => (pg_name (i := 3) scLawSeen.nd rfl (Or.inl rfl))) (fun _ _ _ _ _ => wts_nil) (fun _ _ _ _ _ => (wo_slL (we_fld T.fk_memory (we_var (pv 1)) rfl) (wp_some (we_mul we_int (we_var (pv 3)))) (wp_some (we_add (we_mul we_int (we_var (pv 3))) we_int))))))
(wss_one (ws_retO (wo_lst (wa_cons (we_fld T.fk_mode (we_var (pv 1)) rfl) (wa_cons (we_fld T.fk_pc (we_var (pv 1)) rfl) (wa_cons (we_frz (pe_imp (pe_callTy call_list_of (by rfl) T.b_list (by decide +kernel) (wa_cons (we_fld T.fk_user (we_var (pv 1)) rfl) wa_nil)) o_listOf)) (wa_cons (we_sub (we_fld T.fk_tick (we_var (pv 1)) rfl) (we_idx (we_var (pv 0)) we_int (fun _ _ => rfl))) (wa_cons (we_var (pv 2)) (wa_cons (we_fld T.fk_given (we_var (pv 1)) rfl) wa_nil)))))))))))

theorem ok_LawOutside (T : Tx K w mg) : FnOk P w K mg base (L2N.CX P w) 1 T.aLawOutside T.fdLawOutside PLawOutside (spW K T.cs cLawOutside) := by
  unfold cLawOutside
  exact ok_W T.dLawOutside.F scLawOutside rfl fun cdv A outer s H E hr tk => by
    unfold wdLawOutside
    exact (wss_cons (ws_asg (ps_set (i := 1) scLawOutside.nd rfl (Or.inl rfl) (we_res (we_idx (we_var (pv 0)) we_int (fun _ _ => rfl)))))
(wss_cut (ws_for tg_name (ps_for PassesOwn.leaving rfl (wi_rng1 (pi_range1 (by rfl) T.b_range (wa_cons (pe_imp (pe_callB call_len (by rfl) T.b_len PySem.boot_len (wa_cons (we_idx (we_var (pv 0)) we_int (fun _ _ => rfl)) wa_nil)) (e_cb sa_len)) wa_nil))) (pg_name (i := 2) scLawOutside.nd rfl (Or.inl rfl)) (wss_one (ws_if (ww_and (wt_cmp op_notIn_seq s_in (we_fdiv (we_var (pv 2)) we_int) (we_idx (we_var (pv 0)) we_int (fun _ _ => rfl)) rfl) (pw_and1 (wt_cmp (op_neA hr.units) s_ne (we_idx (we_fld T.fk_memory (we_var (pv 1)) rfl) (we_var (pv 2)) (fun _ _ => rfl)) (we_idx (we_idx (we_var (pv 0)) we_int (fun _ _ => rfl)) (we_var (pv 2)) (fun _ _ => rfl)) (nomark _)))).pt (wss_one (ws_ret we_bl)) wss_nil))))
(wss_one (ws_ret (we_cmp (op_eqA hr.units) s_eq (pe_imp (pe_callB call_len (by rfl) T.b_len PySem.boot_len (wa_cons (we_fld T.fk_memory (we_var (pv 1)) rfl) wa_nil)) (e_cb sa_len)) (pe_imp (pe_callB call_len (by rfl) T.b_len PySem.boot_len (wa_cons (we_idx (we_var (pv 0)) we_int (fun _ _ => rfl)) wa_nil)) (e_cb sa_len)) (nomark _))))))

theorem ok_law (T : Tx K w mg) : FnOk P w K mg base CX0 12 T.aLaw T.fdLaw PLaw (fun vs H Q _ => spW K T.cs cLaw vs H Q fun _ _ _ => False) := by
  unfold cLaw
  exact ok_W0 T.dLaw.F scLaw rfl fun cdv A outer s H E hr tk => by
    unfold wdLaw
    exact (wss_cons (s_setLc tg_name (tgw_name (by decide)) (ps_setLc (i := 1) (own := [("cell", 2)]) rfl scLaw.nd rfl rfl (sw_true rfl rfl rfl (by decide +kernel)) (wi_list (we_var (pv 0))) (blkOk_by (own := [("cell", 2)]) (N := NLaw) (sc := defScope sLaw) (by decide +kernel)) (fun _ _ _ _ _ => (pg_name (i := 2) scLaw.nd rfl (Or.inl rfl))) (fun _ _ _ _ _ => wts_nil) (fun _ _ _ _ _ => (wo_lift (pe_imp (pe_callTy call_int1 (by rfl) T.b_int (by decide +kernel) (wa_cons (we_var (pv 2)) wa_nil)) (e_cb sa_int))))))
(wss_cut (ws_while PassesOwn.never (wt_cmp op_lt s_lt (pe_imp (pe_callB call_len (by rfl) T.b_len PySem.boot_len (wa_cons (we_var (pv 1)) wa_nil)) (e_cb sa_len)) we_int (nomark _)) (wss_one (ws_app (ps_expr (pe_bm PySem.F.plainAttrs_list PySem.F.slot_list_append PySem.F.type_list_append mt_append (we_var (pv 1)) (pa_cons (wo_lift (we_add (pe_imp (pe_callB call_len (by rfl) T.b_len PySem.boot_len (wa_cons (we_var (pv 1)) wa_nil)) (e_cb sa_len)) we_int)) pa_nil))))))
(wss_cons (ws_asg (ps_set (i := 3) scLaw.nd rfl (Or.inl rfl) (we_frz (wo_call (pe_callS (ok_LawPlain T) (hr.mono (by decide)) (by rfl) T.dLawPlain.g T.dLawPlain.F.kp T.dLawPlain.b (fun σ => L2N.passAt takesNo σ) (wa_cons (we_var (pv 1)) wa_nil))))))
(wss_cons (ws_asgR (ps_set (i := 4) scLaw.nd rfl (Or.inl rfl) (pe_callS (ok_LawWorld T) (hr.mono (by decide)) (by rfl) T.dLawWorld.g T.dLawWorld.F.kp T.dLawWorld.b (fun σ => L2N.passAt takesNo σ) (wa_cons (we_var (pv 3)) (wa_cons (we_frz (wo_call (pe_callS (ok_LawNumber T) (hr.mono (by decide)) (by rfl) T.dLawNumber.g T.dLawNumber.F.kp T.dLawNumber.b (fun σ => L2N.passAt takesNo σ) (wa_cons (we_idx (we_var (pv 1)) we_int (fun _ _ => rfl)) (wa_cons we_int wa_nil))))) wa_nil)))))
(wss_cons (ws_asgR (ps_set (i := 5) scLaw.nd rfl (Or.inl rfl) (pe_callS (ok_LawWorld T) (hr.mono (by decide)) (by rfl) T.dLawWorld.g T.dLawWorld.F.kp T.dLawWorld.b (fun σ => L2N.passAt takesNo σ) (wa_cons (we_var (pv 3)) (wa_cons (we_frz (wo_call (pe_callS (ok_LawNumber T) (hr.mono (by decide)) (by rfl) T.dLawNumber.g T.dLawNumber.F.kp T.dLawNumber.b (fun σ => L2N.passAt takesNo σ) (wa_cons (we_idx (we_var (pv 1)) we_int (fun _ _ => rfl)) (wa_cons we_int wa_nil))))) wa_nil)))))
(wss_cons (ws_if (wt_cmp (op_neA hr.units) s_neV (we_frz (wo_callB (pe_callS (ok_LawSeen T) (hr.mono (by decide)) (by rfl) T.dLawSeen.g T.dLawSeen.F.kp T.dLawSeen.b (fun σ => L2N.passAt takesNo σ) (wa_cons (we_var (pv 4)) wa_nil)))) (we_frz (wo_callB (pe_callS (ok_LawSeen T) (hr.mono (by decide)) (by rfl) T.dLawSeen.g T.dLawSeen.F.kp T.dLawSeen.b (fun σ => L2N.passAt takesNo σ) (wa_cons (we_var (pv 5)) wa_nil)))) (nomark _)) (wss_one (ws_ret we_bl)) wss_nil)
(wss_cut (ws_for tg_name (ps_for PassesOwn.never rfl (wi_rng1 (pi_range1 (by rfl) T.b_range (wa_cons we_int wa_nil))) (pg_name (i := 6) scLaw.nd rfl (Or.inl rfl)) (wss_cons (ws_expr (we_frz (wo_meth0 (show ¬ _ ∈ lys.getD 5 [] from by decide +kernel) (pe_methX0 (we_res (we_idx (we_var (pv 4)) we_int (fun _ _ => rfl))) T.clMachine T.hMachineStep (ok_MachineStep T) (hr.mono (by decide)) T.mMachineStep.b (fun σ => L2N.passAt takesNo σ)))))
(wss_cons (ws_expr (we_frz (wo_meth0 (show ¬ _ ∈ lys.getD 5 [] from by decide +kernel) (pe_methX0 (we_res (we_idx (we_var (pv 5)) we_int (fun _ _ => rfl))) T.clMachine T.hMachineStep (ok_MachineStep T) (hr.mono (by decide)) T.mMachineStep.b (fun σ => L2N.passAt takesNo σ)))))
(wss_cons (ws_if (ww_or (wt_cmp (op_neA hr.units) s_neV (we_frz (wo_callB (pe_callS (ok_LawSeen T) (hr.mono (by decide)) (by rfl) T.dLawSeen.g T.dLawSeen.F.kp T.dLawSeen.b (fun σ => L2N.passAt takesNo σ) (wa_cons (we_var (pv 4)) wa_nil)))) (we_frz (wo_callB (pe_callS (ok_LawSeen T) (hr.mono (by decide)) (by rfl) T.dLawSeen.g T.dLawSeen.F.kp T.dLawSeen.b (fun σ => L2N.passAt takesNo σ) (wa_cons (we_var (pv 5)) wa_nil)))) (nomark _)) (ww_or (wt_not (wt_val (we_frz (wo_callB (pe_callS (ok_LawOutside T) (hr.mono (by decide)) (by rfl) T.dLawOutside.g T.dLawOutside.F.kp T.dLawOutside.b (fun σ => L2N.passAt takesNo σ) (wa_cons (we_var (pv 4)) wa_nil)))))) (pw_or1 (wt_not (wt_val (we_frz (wo_callB (pe_callS (ok_LawOutside T) (hr.mono (by decide)) (by rfl) T.dLawOutside.g T.dLawOutside.F.kp T.dLawOutside.b (fun σ => L2N.passAt takesNo σ) (wa_cons (we_var (pv 5)) wa_nil))))))))).pt (wss_one (ws_ret we_bl)) wss_nil)
(wss_one (ws_if (wt_cmp (op_neA hr.units) s_ne (we_fld T.fk_mode (we_res (we_idx (we_var (pv 4)) we_int (fun _ _ => rfl))) rfl) we_str (nomark _)) (wss_cons (s_setLcF tg_name (tgw_name (by decide)) (ps_setLc (i := 7) (own := [("world", 8)]) rfl scLaw.nd rfl rfl (sw_true rfl rfl rfl (by decide +kernel)) (wi_list (we_frz (wo_lst (wa_cons (we_var (pv 4)) (wa_cons (we_var (pv 5)) wa_nil))))) (blkOk_by (own := [("world", 8)]) (N := NLaw) (sc := defScope sLaw) (by decide +kernel)) (fun _ _ _ _ _ => (pg_name (i := 8) scLaw.nd rfl (Or.inl rfl))) (fun _ _ _ _ _ => wts_nil) (fun _ _ _ _ _ => (wo_catL (we_frz (wo_slL (we_fld T.fk_specials (we_res (we_idx (we_var (pv 8)) we_int (fun _ _ => rfl))) rfl) wp_none (wp_some we_int))) (we_frz (wo_lst (wa_cons (we_sub (we_fld T.fk_tick (we_res (we_idx (we_var (pv 8)) we_int (fun _ _ => rfl))) rfl) (we_idx (we_var (pv 8)) we_int (fun _ _ => rfl))) wa_nil)))))))
(wss_one (ws_ret (we_andV (we_cmp (op_eqA hr.units) s_eqV (we_idx (we_var (pv 7)) we_int (fun _ _ => rfl)) (we_idx (we_var (pv 7)) we_int (fun _ _ => rfl)) (nomark _)) (we_andV (we_cmp (op_eqA hr.units) s_eq (we_fld T.fk_mode (we_res (we_idx (we_var (pv 4)) we_int (fun _ _ => rfl))) rfl) we_str (nomark _)) (pe_one (we_cmp op_le s_le (we_var (pv 6)) (we_key (un1 hr.units) (we_var (pv 3)) we_str (fun _ _ => rfl)) (nomark _)))))))) wss_nil)))))))
(wss_one (ws_ret we_bl)))))))))
end
end K07
end

section
set_option linter.all false
set_option maxRecDepth 100000
set_option maxHeartbeats 1000000
set_option pp.deepTerms false
namespace K07
open PySem L2 Evl Wv
def dints (l : List Int) : List D := l.map D.int
/-- an owned list of ints -/
def dL (l : List Int) : T := .lst (l.map fun i => T.dat (.int i))
abbrev In3 := Int × Int × Int
def inD (i : In3) : D := .tup [.int i.1, .int i.2.1, .int i.2.2]
structure MS where
  mem : List Int
  rings : List Int
  ins : List In3
  mode : Str
  pc : Int
  us : List Int
  ks : List Int
  sp : List Int
  tick : Int
  given : Int
def kvD (a : Addr) : D := .obj 3 [.cst (.ref a)]
def uvD (a : Addr) : D := .obj 4 [.cst (.ref a)]
def MS.ts (m : MS) (a : Addr) : List T := [dL m.mem, dL m.rings, .lst (m.ins.map fun i => T.dat (inD i)), .dat (.str m.mode), .dat (.int m.pc), dL m.us, dL m.ks, dL m.sp, .dat (.int m.tick), .dat (.int m.given), .dat (kvD a), .dat (uvD a)]
/-- the machine -/
def MS.T (m : MS) (a : Addr) : Wv.T := .nm a (.obj 5 (m.ts a))
def mKeys : List Key := [Sum.inr "mode", Sum.inr "pc", Sum.inr "user", Sum.inr "kernel", Sum.inr "specials", Sum.inr "tick", Sum.inr "given", Sum.inr "memory", Sum.inr "rings", Sum.inr "inputs"]
/-- the law's machine -/
def MS.M (m : MS) : Wv.T := .dct mKeys [.dat (.str m.mode), .dat (.int m.pc), dL m.us, dL m.ks, dL m.sp, .dat (.int m.tick), .dat (.int m.given), dL m.mem, .dat (.lst (dints m.rings)), .dat (.lst (m.ins.map inD))]
theorem kat_mode : kat mKeys (Sum.inr "mode") = some 0 := by decide +kernel
theorem kat_pc : kat mKeys (Sum.inr "pc") = some 1 := by decide +kernel
theorem kat_user : kat mKeys (Sum.inr "user") = some 2 := by decide +kernel
theorem kat_kernel : kat mKeys (Sum.inr "kernel") = some 3 := by decide +kernel
theorem kat_specials : kat mKeys (Sum.inr "specials") = some 4 := by decide +kernel
theorem kat_tick : kat mKeys (Sum.inr "tick") = some 5 := by decide +kernel
theorem kat_given : kat mKeys (Sum.inr "given") = some 6 := by decide +kernel
theorem kat_memory : kat mKeys (Sum.inr "memory") = some 7 := by decide +kernel
theorem kat_rings : kat mKeys (Sum.inr "rings") = some 8 := by decide +kernel
theorem kat_inputs : kat mKeys (Sum.inr "inputs") = some 9 := by decide +kernel
theorem keys_nd : mKeys.Nodup := by decide +kernel
/-! ### lists of ints -/
theorem ix_nat {n : Nat} {i : Int} (h0 : 0 ≤ i) (h1 : i < n) : ixN n i = some i.toNat := by
  unfold ixN
  rw [if_pos h0, if_pos h1]
theorem dL_len (l : List Int) : (l.map fun i => T.dat (.int i)).length = l.length := by simp
theorem dL_at (l : List Int) (i : Nat) (h : i < l.length) : (l.map fun i => T.dat (.int i))[i]? = some (.dat (.int (l.getD i 0))) := by
  simp [List.getElem?_eq_getElem h, List.getD_eq_getElem?_getD]
theorem dL_set (l : List Int) (i : Nat) (v : Int) : (l.map fun i => T.dat (.int i)).set i (.dat (.int v)) = (l.set i v).map fun i => T.dat (.int i) := by
  rw [List.map_set]
theorem dL_ix (l : List Int) {i : Int} (h0 : 0 ≤ i) (h1 : i < l.length) : ixN (l.map fun i => T.dat (.int i)).length i = some i.toNat := by
  rw [dL_len]
  exact ix_nat h0 h1
theorem dL_at' (l : List Int) {i : Int} (h0 : 0 ≤ i) (h1 : i < l.length) : (l.map fun i => T.dat (.int i))[i.toNat]? = some (.dat (.int (l.getD i.toNat 0))) := dL_at _ _ (by omega)
theorem tn {Z : WEnds} {sl sl' : Slots} {rt rt' : Roots} (hs : sl = sl') (hr : rt = rt') (h : Z.nx sl' rt') : Z.nx sl rt := by
  subst hs hr
  exact h
theorem tr {k : T → Roots → Prop} {t : T} {rt rt' : Roots} (hr : rt = rt') (h : k t rt') : k t rt := by
  subst hr
  exact h
/-- an if whose suite is not taken -/
theorem cut_skip {c : WT} {u z : WS} {Z : WEnds} {sl : Slots} {rt : Roots} (h : wIf c u wNext { Z with nx := fun sl' rt' => sl' = sl ∧ rt' = rt } sl rt) (hz : z Z sl rt) : wCut (wIf c u wNext) z Z sl rt :=
  ⟨fun sl' rt' => sl' = sl ∧ rt' = rt, h, fun sl' rt' ⟨e1, e2⟩ => by rw [e1, e2]; exact hz⟩
/-! ### words -/
theorem spec_wrap (n : Int) (k : T → Roots → Prop) (kx) (hk : k (.dat (.int (n % 65536))) []) : cWrap [.dat (.int n)] [] k kx := by
  unfold cWrap cwOf
  refine ⟨rfl, ?_⟩
  unfold wdWrap
  exact ⟨(by show (0 : Int) < 65536; decide), hk⟩
theorem spec_add (a b : Int) (k : T → Roots → Prop) (kx) (hk : k (.dat (.int ((a + b) % 65536))) []) : cAdd [.dat (.int a), .dat (.int b)] [] k kx := by
  unfold cAdd cwOf
  refine ⟨rfl, ?_⟩
  unfold wdAdd
  exact ⟨rfl, spec_wrap _ _ _ hk⟩
theorem spec_sub (a b : Int) (k : T → Roots → Prop) (kx) (hk : k (.dat (.int ((a - b) % 65536))) []) : cSub [.dat (.int a), .dat (.int b)] [] k kx := by
  unfold cSub cwOf
  refine ⟨rfl, ?_⟩
  unfold wdSub
  exact ⟨rfl, spec_wrap _ _ _ hk⟩
def W (x : Int) : Prop := 0 ≤ x ∧ x < 65536
theorem W.mod (x : Int) : W (x % 65536) := ⟨Int.emod_nonneg _ (by decide), Int.emod_lt_of_pos _ (by decide)⟩
theorem W.mul {a b : Int} (h : W a) : CMul a b := Or.inl ⟨by have := h.1; omega, by have := h.2; omega⟩
theorem spec_mul (a b : Int) (h : W a) (k : T → Roots → Prop) (kx) (hk : k (.dat (.int ((a * b) % 65536))) []) : cMul [.dat (.int a), .dat (.int b)] [] k kx := by
  unfold cMul cwOf
  refine ⟨rfl, ?_⟩
  unfold wdMul
  exact ⟨h.mul, rfl, spec_wrap _ _ _ hk⟩
theorem spec_and (a b : Int) (k : T → Roots → Prop) (kx) (hk : k (.dat (.int (Builtin.bitAnd a b))) []) : cBitAnd [.dat (.int a), .dat (.int b)] [] k kx := by
  unfold cBitAnd cwOf
  exact ⟨rfl, hk⟩
theorem spec_or (a b : Int) (k : T → Roots → Prop) (kx) (hk : k (.dat (.int (Builtin.bitOr a b))) []) : cBitOr [.dat (.int a), .dat (.int b)] [] k kx := by
  unfold cBitOr cwOf
  exact ⟨rfl, hk⟩
theorem spec_xor (a b : Int) (k : T → Roots → Prop) (kx) (hk : k (.dat (.int (Builtin.bitXor a b))) []) : cBitXor [.dat (.int a), .dat (.int b)] [] k kx := by
  unfold cBitXor cwOf
  exact ⟨rfl, hk⟩
theorem spec_shl (a c : Int) (ha : W a) (h : 0 ≤ c ∧ c < 16) (k : T → Roots → Prop) (kx) (hk : k (.dat (.int (a * 2 ^ c.toNat % 65536))) []) : cShiftLeft [.dat (.int a), .dat (.int c)] [] k kx := by
  unfold cShiftLeft cwOf
  refine ⟨rfl, ?_⟩
  unfold wdShiftLeft
  obtain ⟨h1, h2⟩ := ha
  exact ⟨⟨h.1, by omega, by omega⟩, rfl, spec_wrap _ _ _ hk⟩
theorem spec_shr (a c : Int) (h : 0 ≤ c) (k : T → Roots → Prop) (kx) (hk : k (.dat (.int (a / 2 ^ c.toNat))) []) : cShiftRight [.dat (.int a), .dat (.int c)] [] k kx := by
  unfold cShiftRight cwOf
  exact ⟨rfl, h, hk⟩
/-! ### instructions -/
def opsL : List Str := ["halt", "set", "copy", "add", "sub", "mul", "and", "or", "xor", "shl", "shr", "addi", "load", "store", "jump", "jal", "beq", "bne", "blt", "call", "getu", "putu", "gets", "puts", "until", "rest"]
def opN (n : Nat) : Str := opsL.getD n ""
/-- the greatest fields -/
def most : Nat → Int × Int × Int
  | 0 => (0, 0, 0) | 1 => (7, 0, 0) | 2 => (7, 7, 0) | 3 => (7, 7, 7) | 4 => (7, 7, 7) | 5 => (7, 7, 7) | 6 => (7, 7, 7) | 7 => (7, 7, 7) | 8 => (7, 7, 7)
  | 9 => (7, 7, 15) | 10 => (7, 7, 15) | 11 => (7, 7, 15) | 12 => (7, 7, 15) | 13 => (7, 7, 15) | 14 => (7, 0, 0) | 15 => (7, 7, 0) | 16 => (7, 7, 15) | 17 => (7, 7, 15) | 18 => (7, 7, 15)
  | 19 => (0, 0, 15) | 20 => (7, 7, 0) | 21 => (7, 7, 0) | 22 => (7, 0, 6) | 23 => (7, 0, 4) | 24 => (0, 0, 0) | 25 => (0, 0, 0) | _ => (-1, -1, -1)
def fits (n : Nat) (a b c : Int) : Bool := (decide (0 ≤ a) && decide (a ≤ (most n).1)) && ((decide (0 ≤ b) && decide (b ≤ (most n).2.1)) && (decide (0 ≤ c) && decide (c ≤ (most n).2.2)))
theorem lt26 {P : Nat → Prop} (h0 : P 0) (h1 : P 1) (h2 : P 2) (h3 : P 3) (h4 : P 4) (h5 : P 5) (h6 : P 6) (h7 : P 7) (h8 : P 8) (h9 : P 9) (h10 : P 10) (h11 : P 11) (h12 : P 12) (h13 : P 13) (h14 : P 14) (h15 : P 15) (h16 : P 16) (h17 : P 17) (h18 : P 18) (h19 : P 19) (h20 : P 20) (h21 : P 21) (h22 : P 22) (h23 : P 23) (h24 : P 24) (h25 : P 25) : ∀ n : Nat, n < 26 → P n
  | 0, _ => h0 | 1, _ => h1 | 2, _ => h2 | 3, _ => h3 | 4, _ => h4 | 5, _ => h5 | 6, _ => h6 | 7, _ => h7 | 8, _ => h8 | 9, _ => h9 | 10, _ => h10 | 11, _ => h11 | 12, _ => h12 | 13, _ => h13 | 14, _ => h14 | 15, _ => h15 | 16, _ => h16 | 17, _ => h17
  | 18, _ => h18 | 19, _ => h19 | 20, _ => h20 | 21, _ => h21 | 22, _ => h22 | 23, _ => h23 | 24, _ => h24 | 25, _ => h25 | n + 26, h => absurd h (by omega)
theorem most_at : ∀ n : Nat, n < 26 → tbGREATEST (opN n) = some (.tup [.int (most n).1, .int (most n).2.1, .int (most n).2.2]) := by
  refine lt26 ?_ ?_ ?_ ?_ ?_ ?_ ?_ ?_ ?_ ?_ ?_ ?_ ?_ ?_ ?_ ?_ ?_ ?_ ?_ ?_ ?_ ?_ ?_ ?_ ?_ ?_ <;> rfl
theorem spec_fit (n : Nat) (hn : n < 26) (a b c : Int) (k : T → Roots → Prop) (kx) (hk : k (.dat (.bool (fits n a b c))) []) : cFieldsFit [.dat (.str (opN n)), .dat (.int a), .dat (.int b), .dat (.int c)] [] k kx := by
  unfold cFieldsFit cwOf
  refine ⟨rfl, ?_⟩
  unfold wdFieldsFit
  refine ⟨_, most_at n hn, rfl, ?_⟩
  exact ⟨_, _, rfl, fun _ => ⟨rfl, rfl⟩, _, fun _ => ⟨_, _, rfl, fun _ => ⟨rfl, rfl⟩, _, fun _ => ⟨_, _, rfl, fun _ => ⟨rfl, rfl⟩, rfl, rfl⟩, rfl, rfl⟩, hk⟩
def partsD (n : Nat) (a b c : Int) : D := .tup [.str (opN n), .int a, .int b, .int c]
def fop (w : Int) : Nat := (w / 1024).toNat
def fa (w : Int) : Int := w / 128 % 8
def fb (w : Int) : Int := w / 16 % 8
def fc (w : Int) : Int := w % 16
def legal (w : Int) : Bool := decide (fop w < 26) && fits (fop w) (fa w) (fb w) (fc w)
def decD (w : Int) : D := if legal w then partsD (fop w) (fa w) (fb w) (fc w) else .non
theorem op_at (n : Nat) (hn : n < 26) : atI [D.str "halt", .str "set", .str "copy", .str "add", .str "sub", .str "mul", .str "and", .str "or", .str "xor", .str "shl", .str "shr", .str "addi", .str "load", .str "store", .str "jump", .str "jal", .str "beq", .str "bne", .str "blt", .str "call", .str "getu", .str "putu", .str "gets", .str "puts", .str "until", .str "rest"] (n : Int) = some (.str (opN n)) := by
  unfold atI
  rw [ix_nat (by omega) (by show (n : Int) < 26; omega)]
  show (opsL.map D.str)[((n : Nat) : Int).toNat]? = _
  rw [Int.toNat_natCast, List.getElem?_map]
  have h : n < opsL.length := hn
  rw [List.getElem?_eq_getElem h]
  unfold opN
  rw [List.getD_eq_getElem?_getD, List.getElem?_eq_getElem h]
  rfl
theorem spec_decode (w : Int) (hw : 0 ≤ w) (k : T → Roots → Prop) (kx) (hk : k (.dat (decD w)) []) : cDecode [.dat (.int w)] [] k kx := by
  unfold cDecode cwOf
  refine ⟨rfl, ?_⟩
  unfold wdDecode
  have h0 : 0 ≤ w / 1024 := Int.ediv_nonneg hw (by decide)
  have hf : ((fop w : Nat) : Int) = w / 1024 := Int.toNat_of_nonneg h0
  refine ⟨⟨by decide, by decide⟩, ?_⟩
  refine ⟨_, _, rfl, fun _ => ⟨rfl, rfl⟩, fun h => ?_, fun h => ?_⟩
  · have h : (!(decide (0 ≤ w / 1024) && decide (w / 1024 < 26))) = true := h
    rw [decide_eq_true h0, Bool.true_and] at h
    have h : ¬ w / 1024 < 26 := by simpa using h
    have e : decD w = .non := by
      unfold decD legal
      rw [decide_eq_false (by omega), Bool.false_and]
      rfl
    rw [e] at hk
    exact hk
  have h : (!(decide (0 ≤ w / 1024) && decide (w / 1024 < 26))) = false := h
  rw [decide_eq_true h0, Bool.true_and] at h
  have h : w / 1024 < 26 := by simpa using h
  have hn : fop w < 26 := by omega
  refine ⟨.str (opN (fop w)), by rw [← hf]; exact op_at _ hn, ?_⟩
  refine ⟨⟨by decide, by decide⟩, (by show (0 : Int) < 8; decide), ⟨by decide, by decide⟩, (by show (0 : Int) < 8; decide), (by show (0 : Int) < 16; decide), ?_⟩
  refine ⟨rfl, spec_fit _ hn _ _ _ _ _ ⟨fun h => ?_, fun h => ?_⟩⟩
  · have h : (!fits (fop w) (fa w) (fb w) (fc w)) = true := h
    have h : fits (fop w) (fa w) (fb w) (fc w) = false := by simpa using h
    have e : decD w = .non := by
      unfold decD legal
      rw [h, Bool.and_false]
      rfl
    rw [e] at hk
    exact hk
  · have h : (!fits (fop w) (fa w) (fb w) (fc w)) = false := h
    have h : fits (fop w) (fa w) (fb w) (fc w) = true := by simpa using h
    have e : decD w = partsD (fop w) (fa w) (fb w) (fc w) := by
      unfold decD legal
      rw [h, decide_eq_true hn]
      rfl
    rw [e] at hk
    exact ⟨by show 4 ≤ 1000; decide, hk⟩
end K07
end

section
set_option linter.all false
set_option maxRecDepth 100000
set_option maxHeartbeats 1000000
set_option pp.deepTerms false
namespace K07
open PySem L2 Evl Wv
def Ws (l : List Int) : Prop := ∀ x ∈ l, W x
theorem Ws.get {l : List Int} (h : Ws l) (i : Nat) : W (l.getD i 0) := by
  rw [List.getD_eq_getElem?_getD]
  cases z : l[i]? with
  | none => exact ⟨by decide, by decide⟩
  | some x => exact h x (List.mem_of_getElem? z)
theorem Ws.set {l : List Int} (h : Ws l) (i : Nat) {v : Int} (hv : W v) : Ws (l.set i v) := fun x hx => by
  rcases List.mem_or_eq_of_mem_set hx with z | z
  · exact h x z
  · rw [z]; exact hv
structure WF (m : MS) : Prop where
  mem : Ws m.mem
  us : Ws m.us
  ks : Ws m.ks
  sp : Ws m.sp
  usl : m.us.length = 8
  ksl : m.ks.length = 8
  spl : m.sp.length = 7
  pc : W m.pc
  ml : m.mem.length ≤ 1000
  rg : ∀ r ∈ m.rings, 0 ≤ r ∧ r + 16 ≤ m.mem.length
  ins : ∀ i ∈ m.ins, (0 ≤ i.2.1 ∧ i.2.1 < m.rings.length) ∧ W i.2.2
  given : 0 ≤ m.given
  gl : m.given ≤ m.ins.length
/-- where an address lies: k in kernel mode -/
def MS.ix (m : MS) (k : Bool) (p right : Int) : Option Int :=
  if k = true then (if p < (m.mem.length : Int) then some p else none) else
  if 128 ≤ p ∨ (m.mem.length : Int) ≤ m.sp.getD 3 0 + p / 16 then none else
  if (m.mem.length : Int) ≤ m.mem.getD (m.sp.getD 3 0 + p / 16).toNat 0 / 8 * 16 + p % 16 ∨ m.mem.getD (m.sp.getD 3 0 + p / 16).toNat 0 / right % 2 = 0 then none else
  some (m.mem.getD (m.sp.getD 3 0 + p / 16).toNat 0 / 8 * 16 + p % 16)
theorem ix_bd {m : MS} (hm : WF m) {k : Bool} {p right i : Int} (hp : 0 ≤ p) (h : m.ix k p right = some i) : 0 ≤ i ∧ i < m.mem.length := by
  unfold MS.ix at h
  split at h
  · split at h
    · cases h
      exact ⟨hp, by omega⟩
    · cases h
  · split at h
    · cases h
    · split at h
      · cases h
      · rename_i z
        cases h
        have w := hm.mem.get (m.sp.getD 3 0 + p / 16).toNat
        have w1 := w.1
        have : 0 ≤ m.mem.getD (m.sp.getD 3 0 + p / 16).toNat 0 / 8 := Int.ediv_nonneg w1 (by decide)
        have : 0 ≤ p % 16 := Int.emod_nonneg _ (by decide)
        omega
theorem sc_int (i j : Int) : D.sc (.int i) (.int j) = some (decide (i = j)) := rfl
/-- what comes of an access -/
def acc (m : MS) (a : Addr) (p : Int) (k : T → Roots → Prop) (kx : Exn → Roots → Prop) (f : Int → Int) : Option Int → Prop
  | some i => k (.dat (.int (f i))) [m.T a]
  | none => kx ⟨1, [.int p, .int 2]⟩ [m.T a]
theorem spec_index (m : MS) (hm : WF m) (a : Addr) (p : Int) (hp : 0 ≤ p) (r : Nat) (k : T → Roots → Prop) (kx : Exn → Roots → Prop) (h : acc m a p k kx (fun i => i) (m.ix false p ((2 ^ r : Nat) : Int))) :
    cUserViewIndexOf [.dat (uvD a), .dat (.int p), .dat (.int ((2 ^ r : Nat) : Int))] [m.T a] k kx := by
  unfold cUserViewIndexOf cwOf
  refine ⟨rfl, ?_⟩
  unfold wdUserViewIndexOf
  have s3 := hm.sp.get 3
  have p16 : 0 ≤ p / 16 := Int.ediv_nonneg hp (by decide)
  have hl := hm.ml
  refine ⟨0, _, rfl, rfl, 0, _, rfl, rfl, 3, _, dL_ix m.sp (i := 3) (by decide) (by rw [hm.spl]; decide), dL_at m.sp 3 (by rw [hm.spl]; decide), ⟨by decide, by decide⟩, ?_⟩
  have s30 := s3.1
  refine ⟨decide ((m.mem.length : Int) ≤ m.sp.getD 3 0 + p / 16), fun _ => ⟨?_, rfl⟩, fun hc => ?_, fun hc => ?_⟩
  · show decide (((m.mem.map fun i => T.dat (.int i)).length : Int) ≤ m.sp.getD 3 0 + p / 16) = _
    rw [dL_len]
  · have hc : (decide (128 ≤ p) || decide ((m.mem.length : Int) ≤ m.sp.getD 3 0 + p / 16)) = true := hc
    simp only [Bool.or_eq_true, decide_eq_true_eq] at hc
    refine ⟨rfl, ?_⟩
    have e : m.ix false p ((2 ^ r : Nat) : Int) = none := by
      unfold MS.ix
      rw [if_neg (by decide), if_pos hc]
    rw [e] at h
    exact h
  have hc : (decide (128 ≤ p) || decide ((m.mem.length : Int) ≤ m.sp.getD 3 0 + p / 16)) = false := hc
  have hc' : ¬ (128 ≤ p ∨ (m.mem.length : Int) ≤ m.sp.getD 3 0 + p / 16) := by
    intro z
    have : (decide (128 ≤ p) || decide ((m.mem.length : Int) ≤ m.sp.getD 3 0 + p / 16)) = true := by simpa using z
    rw [this] at hc
    cases hc
  have q0 : 0 ≤ m.sp.getD 3 0 + p / 16 := by omega
  have q1 : m.sp.getD 3 0 + p / 16 < m.mem.length := by omega
  have we := hm.mem.get (m.sp.getD 3 0 + p / 16).toNat
  refine ⟨(m.sp.getD 3 0 + p / 16).toNat, _, dL_ix m.mem q0 q1, dL_at' m.mem q0 q1, ?_⟩
  generalize he : m.mem.getD (m.sp.getD 3 0 + p / 16).toNat 0 = e at *
  have we1 := we.1
  have we2 := we.2
  have e8 : 0 ≤ e / 8 := Int.ediv_nonneg we1 (by decide)
  refine ⟨⟨by decide, by decide⟩, Or.inr ⟨by decide, by decide⟩, (by show (0 : Int) < 16; decide), ?_⟩
  refine ⟨decide (e / ((2 ^ r : Nat) : Int) % 2 = 0), fun _ => ⟨?_, rfl⟩, fun hd => ?_, fun hd => ?_⟩
  · show decide (Builtin.bitAnd e ((2 ^ r : Nat) : Int) = 0) = _
    by_cases z : e / ((2 ^ r : Nat) : Int) % 2 = 0
    · rw [decide_eq_true z, decide_eq_true ((Bits.and_bit r we1).mpr z)]
    · rw [decide_eq_false z, decide_eq_false fun y => z ((Bits.and_bit r we1).mp y)]
  · have hd : (decide (((m.mem.map fun i => T.dat (.int i)).length : Int) ≤ e / 8 * 16 + p % 16) || decide (e / ((2 ^ r : Nat) : Int) % 2 = 0)) = true := hd
    rw [dL_len] at hd
    simp only [Bool.or_eq_true, decide_eq_true_eq] at hd
    refine ⟨rfl, ?_⟩
    have e : m.ix false p ((2 ^ r : Nat) : Int) = none := by
      unfold MS.ix
      rw [if_neg (by decide), if_neg hc', he, if_pos hd]
    rw [e] at h
    exact h
  · have hd : (decide (((m.mem.map fun i => T.dat (.int i)).length : Int) ≤ e / 8 * 16 + p % 16) || decide (e / ((2 ^ r : Nat) : Int) % 2 = 0)) = false := hd
    rw [dL_len] at hd
    have hd' : ¬ ((m.mem.length : Int) ≤ e / 8 * 16 + p % 16 ∨ e / ((2 ^ r : Nat) : Int) % 2 = 0) := by
      intro z
      have : (decide ((m.mem.length : Int) ≤ e / 8 * 16 + p % 16) || decide (e / ((2 ^ r : Nat) : Int) % 2 = 0)) = true := by simpa using z
      rw [this] at hd
      cases hd
    have e : m.ix false p ((2 ^ r : Nat) : Int) = some (e / 8 * 16 + p % 16) := by
      unfold MS.ix
      rw [if_neg (by decide), if_neg hc', he, if_neg hd']
    rw [e] at h
    exact h
theorem spec_index' (m : MS) (hm : WF m) (a : Addr) (p : Int) (hp : 0 ≤ p) (r : Nat) (right : Int) (e : right = ((2 ^ r : Nat) : Int)) (k : T → Roots → Prop) (kx : Exn → Roots → Prop) (h : acc m a p k kx (fun i => i) (m.ix false p right)) :
    cUserViewIndexOf [.dat (uvD a), .dat (.int p), .dat (.int right)] [m.T a] k kx := by
  subst e
  exact spec_index m hm a p hp r k kx h
def viewD (k : Bool) (a : Addr) : D := if k = true then kvD a else uvD a
/-! ### the views: k tells which one -/
def cLoad (k : Bool) : CW := if k = true then cKernelViewLoad else cUserViewLoad
def cFetch (k : Bool) : CW := if k = true then cKernelViewFetch else cUserViewFetch
def cStore (k : Bool) : CW := if k = true then cKernelViewStore else cUserViewStore
theorem spec_kload (m : MS) (hm : WF m) (a : Addr) (p : Int) (hp : 0 ≤ p) (right : Int) (k : T → Roots → Prop) (kx : Exn → Roots → Prop) (h : acc m a p k kx (fun i => m.mem.getD i.toNat 0) (m.ix true p right)) :
    cKernelViewLoad [.dat (kvD a), .dat (.int p)] [m.T a] k kx := by
  unfold cKernelViewLoad cwOf
  refine ⟨rfl, ?_⟩
  unfold wdKernelViewLoad
  unfold MS.ix at h
  rw [if_pos rfl] at h
  refine ⟨0, _, rfl, rfl, fun hc => ?_, fun hc => ?_⟩
  · have hc : decide (((m.mem.map fun i => T.dat (.int i)).length : Int) ≤ p) = true := hc
    rw [dL_len] at hc
    have hc := of_decide_eq_true hc
    rw [if_neg (by omega)] at h
    exact ⟨rfl, h⟩
  · have hc : decide (((m.mem.map fun i => T.dat (.int i)).length : Int) ≤ p) = false := hc
    rw [dL_len] at hc
    have hc := of_decide_eq_false hc
    rw [if_pos (by omega)] at h
    exact ⟨0, _, rfl, rfl, p.toNat, _, dL_ix m.mem hp (by omega), dL_at' m.mem hp (by omega), h⟩
theorem spec_load (m : MS) (hm : WF m) (b : Bool) (a : Addr) (p : Int) (hp : 0 ≤ p) (k : T → Roots → Prop) (kx : Exn → Roots → Prop) (h : acc m a p k kx (fun i => m.mem.getD i.toNat 0) (m.ix b p 1)) :
    cLoad b [.dat (viewD b a), .dat (.int p)] [m.T a] k kx := by
  cases b with
  | true => exact spec_kload m hm a p hp 1 k kx h
  | false =>
    show cUserViewLoad [.dat (uvD a), .dat (.int p)] [m.T a] k kx
    unfold cUserViewLoad cwOf
    refine ⟨rfl, ?_⟩
    unfold wdUserViewLoad
    refine ⟨0, _, rfl, rfl, rfl, spec_index' m hm a p hp 0 1 (by decide) _ _ ?_⟩
    show acc _ _ _ _ _ _ (m.ix false p 1)
    cases hx : m.ix false p 1 with
    | none => rw [hx] at h; exact h
    | some i =>
      rw [hx] at h
      obtain ⟨i0, i1⟩ := ix_bd hm hp hx
      exact ⟨i.toNat, _, dL_ix m.mem i0 i1, dL_at' m.mem i0 i1, h⟩
theorem spec_fetch (m : MS) (hm : WF m) (b : Bool) (a : Addr) (p : Int) (hp : 0 ≤ p) (k : T → Roots → Prop) (kx : Exn → Roots → Prop) (h : acc m a p k kx (fun i => m.mem.getD i.toNat 0) (m.ix b p 4)) :
    cFetch b [.dat (viewD b a), .dat (.int p)] [m.T a] k kx := by
  cases b with
  | true =>
    show cKernelViewFetch [.dat (kvD a), .dat (.int p)] [m.T a] k kx
    unfold cKernelViewFetch cwOf
    refine ⟨rfl, ?_⟩
    unfold wdKernelViewFetch
    refine ⟨rfl, spec_kload m hm a p hp 4 _ _ ?_⟩
    cases hx : m.ix true p 4 with
    | none => rw [hx] at h; exact h
    | some i => rw [hx] at h; exact h
  | false =>
    show cUserViewFetch [.dat (uvD a), .dat (.int p)] [m.T a] k kx
    unfold cUserViewFetch cwOf
    refine ⟨rfl, ?_⟩
    unfold wdUserViewFetch
    refine ⟨0, _, rfl, rfl, rfl, spec_index' m hm a p hp 2 4 (by decide) _ _ ?_⟩
    show acc _ _ _ _ _ _ (m.ix false p 4)
    cases hx : m.ix false p 4 with
    | none => rw [hx] at h; exact h
    | some i =>
      rw [hx] at h
      obtain ⟨i0, i1⟩ := ix_bd hm hp hx
      exact ⟨i.toNat, _, dL_ix m.mem i0 i1, dL_at' m.mem i0 i1, h⟩
theorem mem_T (m : MS) (a : Addr) (i : Nat) (v : Int) : [T.nm a (.obj 5 [T.lst ((m.mem.map fun i => T.dat (.int i)).set i (.dat (.int v))), dL m.rings, .lst (m.ins.map fun i => T.dat (inD i)), .dat (.str m.mode), .dat (.int m.pc), dL m.us, dL m.ks, dL m.sp, .dat (.int m.tick), .dat (.int m.given), .dat (kvD a), .dat (uvD a)])] = [({ m with mem := m.mem.set i v } : MS).T a] := by
  rw [dL_set]
  rfl
theorem spec_store (m : MS) (hm : WF m) (b : Bool) (a : Addr) (p v : Int) (hp : 0 ≤ p) (k : T → Roots → Prop) (kx : Exn → Roots → Prop)
    (h : match m.ix b p 2 with | some i => k (.dat .non) [({ m with mem := m.mem.set i.toNat v } : MS).T a] | none => kx ⟨1, [.int p, .int 2]⟩ [m.T a]) :
    cStore b [.dat (viewD b a), .dat (.int p), .dat (.int v)] [m.T a] k kx := by
  cases b with
  | true =>
    show cKernelViewStore [.dat (kvD a), .dat (.int p), .dat (.int v)] [m.T a] k kx
    unfold cKernelViewStore cwOf
    refine ⟨rfl, ?_⟩
    unfold wdKernelViewStore
    unfold MS.ix at h
    rw [if_pos rfl] at h
    refine ⟨0, _, rfl, rfl, fun hc => ?_, fun hc => ?_⟩
    · have hc : decide (((m.mem.map fun i => T.dat (.int i)).length : Int) ≤ p) = true := hc
      rw [dL_len] at hc
      have hc := of_decide_eq_true hc
      rw [if_neg (by omega)] at h
      exact ⟨rfl, h⟩
    · have hc : decide (((m.mem.map fun i => T.dat (.int i)).length : Int) ≤ p) = false := hc
      rw [dL_len] at hc
      have hc := of_decide_eq_false hc
      rw [if_pos (by omega)] at h
      refine ⟨0, _, rfl, rfl, p.toNat, _, dL_ix m.mem hp (by omega), dL_at' m.mem hp (by omega), rfl, ?_⟩
      exact tr (mem_T m a p.toNat v) h
  | false =>
    show cUserViewStore [.dat (uvD a), .dat (.int p), .dat (.int v)] [m.T a] k kx
    unfold cUserViewStore cwOf
    refine ⟨rfl, ?_⟩
    unfold wdUserViewStore
    refine ⟨0, _, rfl, rfl, rfl, spec_index' m hm a p hp 1 2 (by decide) _ _ ?_⟩
    show acc _ _ _ _ _ _ (m.ix false p 2)
    cases hx : m.ix false p 2 with
    | none => rw [hx] at h; exact h
    | some i =>
      rw [hx] at h
      obtain ⟨i0, i1⟩ := ix_bd hm hp hx
      refine ⟨i.toNat, _, dL_ix m.mem i0 i1, dL_at' m.mem i0 i1, rfl, ?_⟩
      exact tr (mem_T m a i.toNat v) h
end K07
end

section
set_option linter.all false
set_option maxRecDepth 100000
set_option maxHeartbeats 1000000
set_option pp.deepTerms false
namespace K07
open PySem L2 Evl Wv

def rp (b : Bool) : List Nat := if b = true then [6] else [5]
def MS.rg (m : MS) (b : Bool) : List Int := if b = true then m.ks else m.us
def MS.setR (m : MS) (b : Bool) (l : List Int) : MS := if b = true then { m with ks := l } else { m with us := l }
/-- how an instruction ends -/
inductive Out where
  | nx (m : MS) (pc : Int)
  | tr (c v : Int)
def aft (m : MS) (a : Addr) (k : T → Roots → Prop) (kx : Exn → Roots → Prop) : Out → Prop
  | .nx m' pc => k (.dat (.int pc)) [m'.T a]
  | .tr c v => kx ⟨1, [.int v, .int c]⟩ [m.T a]
theorem reg_T_k (m : MS) (a : Addr) (i : Nat) (v : Int) : [T.nm a (.obj 5 [dL m.mem, dL m.rings, .lst (m.ins.map fun i => T.dat (inD i)), .dat (.str m.mode), .dat (.int m.pc), dL m.us, T.lst ((m.ks.map fun i => T.dat (.int i)).set i (.dat (.int v))), dL m.sp, .dat (.int m.tick), .dat (.int m.given), .dat (kvD a), .dat (uvD a)])] = [({ m with ks := m.ks.set i v } : MS).T a] := by
  rw [dL_set]
  rfl
theorem reg_T_u (m : MS) (a : Addr) (i : Nat) (v : Int) : [T.nm a (.obj 5 [dL m.mem, dL m.rings, .lst (m.ins.map fun i => T.dat (inD i)), .dat (.str m.mode), .dat (.int m.pc), T.lst ((m.us.map fun i => T.dat (.int i)).set i (.dat (.int v))), dL m.ks, dL m.sp, .dat (.int m.tick), .dat (.int m.given), .dat (kvD a), .dat (uvD a)])] = [({ m with us := m.us.set i v } : MS).T a] := by
  rw [dL_set]
  rfl
def cal (n : Nat) (p q : Int) : Int := match n with
  | 3 => (p + q) % 65536
  | 4 => (p - q) % 65536
  | 5 => (p * q) % 65536
  | 6 => Builtin.bitAnd p q
  | 7 => Builtin.bitOr p q
  | _ => Builtin.bitXor p q
def small (z : Int) : Int := if z < 8 then z else z - 16
def holdsB (n : Nat) (p q : Int) : Bool := match n with
  | 16 => decide (p = q)
  | 17 => !decide (p = q)
  | _ => decide (p < q)
/-- an instruction that both modes have -/
def MS.doM (m : MS) (b : Bool) (n : Nat) (x y z : Int) : Out := match n with
  | 0 => .tr 5 0
  | 1 => match m.ix b ((m.pc + 1) % 65536) 4 with
    | none => .tr 2 ((m.pc + 1) % 65536)
    | some i => .nx (m.setR b ((m.rg b).set x.toNat (m.mem.getD i.toNat 0))) ((m.pc + 2) % 65536)
  | 2 => .nx (m.setR b ((m.rg b).set x.toNat ((m.rg b).getD y.toNat 0))) ((m.pc + 1) % 65536)
  | 9 => .nx (m.setR b ((m.rg b).set x.toNat ((m.rg b).getD y.toNat 0 * 2 ^ z.toNat % 65536))) ((m.pc + 1) % 65536)
  | 10 => .nx (m.setR b ((m.rg b).set x.toNat ((m.rg b).getD y.toNat 0 / 2 ^ z.toNat))) ((m.pc + 1) % 65536)
  | 11 => .nx (m.setR b ((m.rg b).set x.toNat (((m.rg b).getD y.toNat 0 + small z) % 65536))) ((m.pc + 1) % 65536)
  | 12 => match m.ix b (((m.rg b).getD y.toNat 0 + z) % 65536) 1 with
    | none => .tr 2 (((m.rg b).getD y.toNat 0 + z) % 65536)
    | some i => .nx (m.setR b ((m.rg b).set x.toNat (m.mem.getD i.toNat 0))) ((m.pc + 1) % 65536)
  | 13 => match m.ix b (((m.rg b).getD y.toNat 0 + z) % 65536) 2 with
    | none => .tr 2 (((m.rg b).getD y.toNat 0 + z) % 65536)
    | some i => .nx { m with mem := m.mem.set i.toNat ((m.rg b).getD x.toNat 0) } ((m.pc + 1) % 65536)
  | 14 => .nx m ((m.rg b).getD x.toNat 0)
  | 15 => .nx (m.setR b ((m.rg b).set x.toNat ((m.pc + 1) % 65536))) ((m.rg b).getD y.toNat 0)
  | 16 => .nx m (if holdsB 16 ((m.rg b).getD x.toNat 0) ((m.rg b).getD y.toNat 0) then ((m.pc + 1) % 65536 + (z - 8)) % 65536 else (m.pc + 1) % 65536)
  | 17 => .nx m (if holdsB 17 ((m.rg b).getD x.toNat 0) ((m.rg b).getD y.toNat 0) then ((m.pc + 1) % 65536 + (z - 8)) % 65536 else (m.pc + 1) % 65536)
  | 18 => .nx m (if holdsB 18 ((m.rg b).getD x.toNat 0) ((m.rg b).getD y.toNat 0) then ((m.pc + 1) % 65536 + (z - 8)) % 65536 else (m.pc + 1) % 65536)
  | 19 => .tr 3 z
  | n => .nx (m.setR b ((m.rg b).set x.toNat (cal n ((m.rg b).getD y.toNat 0) ((m.rg b).getD z.toNat 0)))) ((m.pc + 1) % 65536)
theorem spec_calculated (n : Nat) (hn : 3 ≤ n ∧ n ≤ 8) (p q : Int) (hp : W p) (k : T → Roots → Prop) (kx) (h : k (.dat (.int (cal n p q))) []) : cCalculated [.dat (.str (opN n)), .dat (.int p), .dat (.int q)] [] k kx := by
  unfold cCalculated cwOf
  refine ⟨rfl, ?_⟩
  unfold wdCalculated
  have hc : n = 3 ∨ n = 4 ∨ n = 5 ∨ n = 6 ∨ n = 7 ∨ n = 8 := by omega
  rcases hc with rfl | rfl | rfl | rfl | rfl | rfl
  · exact ⟨fun _ => ⟨rfl, spec_add _ _ _ _ h⟩, fun z => absurd z (by decide +kernel)⟩
  · exact ⟨fun z => absurd z (by decide +kernel), fun _ => ⟨fun _ => ⟨rfl, spec_sub _ _ _ _ h⟩, fun z => absurd z (by decide +kernel)⟩⟩
  · exact ⟨fun z => absurd z (by decide +kernel), fun _ => ⟨fun z => absurd z (by decide +kernel), fun _ => ⟨fun _ => ⟨rfl, spec_mul _ _ hp _ _ h⟩, fun z => absurd z (by decide +kernel)⟩⟩⟩
  · exact ⟨fun z => absurd z (by decide +kernel), fun _ => ⟨fun z => absurd z (by decide +kernel), fun _ => ⟨fun z => absurd z (by decide +kernel), fun _ => ⟨fun _ => ⟨rfl, spec_and _ _ _ _ h⟩, fun z => absurd z (by decide +kernel)⟩⟩⟩⟩
  · exact ⟨fun z => absurd z (by decide +kernel), fun _ => ⟨fun z => absurd z (by decide +kernel), fun _ => ⟨fun z => absurd z (by decide +kernel), fun _ => ⟨fun z => absurd z (by decide +kernel), fun _ => ⟨fun _ => ⟨rfl, spec_or _ _ _ _ h⟩, fun z => absurd z (by decide +kernel)⟩⟩⟩⟩⟩
  · exact ⟨fun z => absurd z (by decide +kernel), fun _ => ⟨fun z => absurd z (by decide +kernel), fun _ => ⟨fun z => absurd z (by decide +kernel), fun _ => ⟨fun z => absurd z (by decide +kernel), fun _ => ⟨fun z => absurd z (by decide +kernel), fun _ => ⟨rfl, spec_xor _ _ _ _ h⟩⟩⟩⟩⟩⟩
theorem spec_small (z : Int) (k : T → Roots → Prop) (kx) (h : k (.dat (.int (small z))) []) : cSmall [.dat (.int z)] [] k kx := by
  unfold cSmall cwOf
  refine ⟨rfl, ?_⟩
  unfold wdSmall
  unfold small at h
  refine ⟨fun c => ?_, fun c => ?_⟩
  · have c : decide (z < 8) = true := c
    rw [if_pos (of_decide_eq_true c)] at h
    exact h
  · have c : decide (z < 8) = false := c
    rw [if_neg (of_decide_eq_false c)] at h
    exact h
theorem spec_holds (n : Nat) (hn : 16 ≤ n ∧ n ≤ 18) (p q : Int) (k : T → Roots → Prop) (kx) (h : k (.dat (.bool (holdsB n p q))) []) : cHolds [.dat (.str (opN n)), .dat (.int p), .dat (.int q)] [] k kx := by
  unfold cHolds cwOf
  refine ⟨rfl, ?_⟩
  unfold wdHolds
  have hc : n = 16 ∨ n = 17 ∨ n = 18 := by omega
  rcases hc with rfl | rfl | rfl
  · exact ⟨fun _ => h, fun z => absurd z (by decide +kernel)⟩
  · exact ⟨fun z => absurd z (by decide +kernel), fun _ => ⟨fun _ => h, fun z => absurd z (by decide +kernel)⟩⟩
  · exact ⟨fun z => absurd z (by decide +kernel), fun _ => ⟨fun z => absurd z (by decide +kernel), fun _ => h⟩⟩
theorem spec_halt (m : MS) (hm : WF m) (b : Bool) (a : Addr) (x y z : Int) (hx : 0 ≤ x ∧ x ≤ 7) (hy : 0 ≤ y ∧ y ≤ 7) (hz : 0 ≤ z ∧ z ≤ 15) (k : T → Roots → Prop) (kx : Exn → Roots → Prop) (h : aft m a k kx (m.doM b 0 x y z)) : cHalt [.dat (partsD 0 x y z), .ref 0 (rp b), .dat (.int m.pc), .dat (viewD b a)] [m.T a] k kx := by
  unfold cHalt cwOf
  refine ⟨rfl, ?_⟩
  unfold wdHalt
  cases b with
  | true =>
    exact ⟨rfl, h⟩
  | false =>
    exact ⟨rfl, h⟩
theorem spec_call (m : MS) (hm : WF m) (b : Bool) (a : Addr) (x y z : Int) (hx : 0 ≤ x ∧ x ≤ 7) (hy : 0 ≤ y ∧ y ≤ 7) (hz : 0 ≤ z ∧ z ≤ 15) (k : T → Roots → Prop) (kx : Exn → Roots → Prop) (h : aft m a k kx (m.doM b 19 x y z)) : cCall [.dat (partsD 19 x y z), .ref 0 (rp b), .dat (.int m.pc), .dat (viewD b a)] [m.T a] k kx := by
  unfold cCall cwOf
  refine ⟨rfl, ?_⟩
  unfold wdCall
  cases b with
  | true =>
    exact ⟨.int z, rfl, rfl, h⟩
  | false =>
    exact ⟨.int z, rfl, rfl, h⟩
theorem spec_jump (m : MS) (hm : WF m) (b : Bool) (a : Addr) (x y z : Int) (hx : 0 ≤ x ∧ x ≤ 7) (hy : 0 ≤ y ∧ y ≤ 7) (hz : 0 ≤ z ∧ z ≤ 15) (k : T → Roots → Prop) (kx : Exn → Roots → Prop) (h : aft m a k kx (m.doM b 14 x y z)) : cJump [.dat (partsD 14 x y z), .ref 0 (rp b), .dat (.int m.pc), .dat (viewD b a)] [m.T a] k kx := by
  unfold cJump cwOf
  refine ⟨rfl, ?_⟩
  unfold wdJump
  cases b with
  | true =>
    exact ⟨.int x, rfl, x.toNat, _, dL_ix m.ks hx.1 (by have := hm.ksl; omega), dL_at' m.ks hx.1 (by have := hm.ksl; omega), h⟩
  | false =>
    exact ⟨.int x, rfl, x.toNat, _, dL_ix m.us hx.1 (by have := hm.usl; omega), dL_at' m.us hx.1 (by have := hm.usl; omega), h⟩
theorem spec_copy (m : MS) (hm : WF m) (b : Bool) (a : Addr) (x y z : Int) (hx : 0 ≤ x ∧ x ≤ 7) (hy : 0 ≤ y ∧ y ≤ 7) (hz : 0 ≤ z ∧ z ≤ 15) (k : T → Roots → Prop) (kx : Exn → Roots → Prop) (h : aft m a k kx (m.doM b 2 x y z)) : cCopyWord [.dat (partsD 2 x y z), .ref 0 (rp b), .dat (.int m.pc), .dat (viewD b a)] [m.T a] k kx := by
  unfold cCopyWord cwOf
  refine ⟨rfl, ?_⟩
  unfold wdCopyWord
  cases b with
  | true =>
    refine ⟨rfl, y.toNat, _, dL_ix m.ks hy.1 (by have := hm.ksl; omega), dL_at' m.ks hy.1 (by have := hm.ksl; omega), x.toNat, _, dL_ix m.ks hx.1 (by have := hm.ksl; omega), dL_at' m.ks hx.1 (by have := hm.ksl; omega), rfl, ?_⟩
    exact tn (sl' := _) (rt' := _) rfl (reg_T_k m a _ _) ⟨rfl, spec_add _ _ _ _ h⟩
  | false =>
    refine ⟨rfl, y.toNat, _, dL_ix m.us hy.1 (by have := hm.usl; omega), dL_at' m.us hy.1 (by have := hm.usl; omega), x.toNat, _, dL_ix m.us hx.1 (by have := hm.usl; omega), dL_at' m.us hx.1 (by have := hm.usl; omega), rfl, ?_⟩
    exact tn (sl' := _) (rt' := _) rfl (reg_T_u m a _ _) ⟨rfl, spec_add _ _ _ _ h⟩
theorem spec_jal (m : MS) (hm : WF m) (b : Bool) (a : Addr) (x y z : Int) (hx : 0 ≤ x ∧ x ≤ 7) (hy : 0 ≤ y ∧ y ≤ 7) (hz : 0 ≤ z ∧ z ≤ 15) (k : T → Roots → Prop) (kx : Exn → Roots → Prop) (h : aft m a k kx (m.doM b 15 x y z)) : cJumpAndLink [.dat (partsD 15 x y z), .ref 0 (rp b), .dat (.int m.pc), .dat (viewD b a)] [m.T a] k kx := by
  unfold cJumpAndLink cwOf
  refine ⟨rfl, ?_⟩
  unfold wdJumpAndLink
  cases b with
  | true =>
    refine ⟨rfl, y.toNat, _, dL_ix m.ks hy.1 (by have := hm.ksl; omega), dL_at' m.ks hy.1 (by have := hm.ksl; omega), rfl, spec_add _ _ _ _ ⟨x.toNat, _, dL_ix m.ks hx.1 (by have := hm.ksl; omega), dL_at' m.ks hx.1 (by have := hm.ksl; omega), rfl, ?_⟩⟩
    exact tn (sl' := _) (rt' := _) rfl (reg_T_k m a _ _) h
  | false =>
    refine ⟨rfl, y.toNat, _, dL_ix m.us hy.1 (by have := hm.usl; omega), dL_at' m.us hy.1 (by have := hm.usl; omega), rfl, spec_add _ _ _ _ ⟨x.toNat, _, dL_ix m.us hx.1 (by have := hm.usl; omega), dL_at' m.us hx.1 (by have := hm.usl; omega), rfl, ?_⟩⟩
    exact tn (sl' := _) (rt' := _) rfl (reg_T_u m a _ _) h
theorem spec_calculate (m : MS) (hm : WF m) (b : Bool) (a : Addr) (n : Nat) (x y z : Int) (hx : 0 ≤ x ∧ x ≤ 7) (hy : 0 ≤ y ∧ y ≤ 7) (hz : 0 ≤ z ∧ z ≤ 15) (hn : 3 ≤ n ∧ n ≤ 8) (hz7 : z ≤ 7) (k : T → Roots → Prop) (kx : Exn → Roots → Prop) (h : aft m a k kx (m.doM b n x y z)) : cCalculate [.dat (partsD n x y z), .ref 0 (rp b), .dat (.int m.pc), .dat (viewD b a)] [m.T a] k kx := by
  unfold cCalculate cwOf
  refine ⟨rfl, ?_⟩
  unfold wdCalculate
  cases b with
  | true =>
    refine ⟨rfl, y.toNat, _, dL_ix m.ks hy.1 (by have := hm.ksl; omega), dL_at' m.ks hy.1 (by have := hm.ksl; omega), z.toNat, _, dL_ix m.ks hz.1 (by have := hm.ksl; omega), dL_at' m.ks hz.1 (by have := hm.ksl; omega), rfl, spec_calculated n hn _ _ (hm.ks.get _) _ _ ⟨x.toNat, _, dL_ix m.ks hx.1 (by have := hm.ksl; omega), dL_at' m.ks hx.1 (by have := hm.ksl; omega), rfl, ?_⟩⟩
    have h : k (.dat (.int ((m.pc + 1) % 65536))) [(m.setR true ((m.rg true).set x.toNat (cal n ((m.rg true).getD y.toNat 0) ((m.rg true).getD z.toNat 0)))).T a] := by
      have hc : n = 3 ∨ n = 4 ∨ n = 5 ∨ n = 6 ∨ n = 7 ∨ n = 8 := by omega
      rcases hc with rfl | rfl | rfl | rfl | rfl | rfl <;> exact h
    exact tn (sl' := _) (rt' := _) rfl (reg_T_k m a _ _) ⟨rfl, spec_add _ _ _ _ h⟩
  | false =>
    refine ⟨rfl, y.toNat, _, dL_ix m.us hy.1 (by have := hm.usl; omega), dL_at' m.us hy.1 (by have := hm.usl; omega), z.toNat, _, dL_ix m.us hz.1 (by have := hm.usl; omega), dL_at' m.us hz.1 (by have := hm.usl; omega), rfl, spec_calculated n hn _ _ (hm.us.get _) _ _ ⟨x.toNat, _, dL_ix m.us hx.1 (by have := hm.usl; omega), dL_at' m.us hx.1 (by have := hm.usl; omega), rfl, ?_⟩⟩
    have h : k (.dat (.int ((m.pc + 1) % 65536))) [(m.setR false ((m.rg false).set x.toNat (cal n ((m.rg false).getD y.toNat 0) ((m.rg false).getD z.toNat 0)))).T a] := by
      have hc : n = 3 ∨ n = 4 ∨ n = 5 ∨ n = 6 ∨ n = 7 ∨ n = 8 := by omega
      rcases hc with rfl | rfl | rfl | rfl | rfl | rfl <;> exact h
    exact tn (sl' := _) (rt' := _) rfl (reg_T_u m a _ _) ⟨rfl, spec_add _ _ _ _ h⟩
theorem spec_shl_w (m : MS) (hm : WF m) (b : Bool) (a : Addr) (x y z : Int) (hx : 0 ≤ x ∧ x ≤ 7) (hy : 0 ≤ y ∧ y ≤ 7) (hz : 0 ≤ z ∧ z ≤ 15) (k : T → Roots → Prop) (kx : Exn → Roots → Prop) (h : aft m a k kx (m.doM b 9 x y z)) : cShiftWordLeft [.dat (partsD 9 x y z), .ref 0 (rp b), .dat (.int m.pc), .dat (viewD b a)] [m.T a] k kx := by
  unfold cShiftWordLeft cwOf
  refine ⟨rfl, ?_⟩
  unfold wdShiftWordLeft
  cases b with
  | true =>
    refine ⟨rfl, y.toNat, _, dL_ix m.ks hy.1 (by have := hm.ksl; omega), dL_at' m.ks hy.1 (by have := hm.ksl; omega), rfl, spec_shl _ _ (hm.ks.get _) ⟨hz.1, by omega⟩ _ _ ⟨x.toNat, _, dL_ix m.ks hx.1 (by have := hm.ksl; omega), dL_at' m.ks hx.1 (by have := hm.ksl; omega), rfl, ?_⟩⟩
    exact tn (sl' := _) (rt' := _) rfl (reg_T_k m a _ _) ⟨rfl, spec_add _ _ _ _ h⟩
  | false =>
    refine ⟨rfl, y.toNat, _, dL_ix m.us hy.1 (by have := hm.usl; omega), dL_at' m.us hy.1 (by have := hm.usl; omega), rfl, spec_shl _ _ (hm.us.get _) ⟨hz.1, by omega⟩ _ _ ⟨x.toNat, _, dL_ix m.us hx.1 (by have := hm.usl; omega), dL_at' m.us hx.1 (by have := hm.usl; omega), rfl, ?_⟩⟩
    exact tn (sl' := _) (rt' := _) rfl (reg_T_u m a _ _) ⟨rfl, spec_add _ _ _ _ h⟩
theorem spec_shr_w (m : MS) (hm : WF m) (b : Bool) (a : Addr) (x y z : Int) (hx : 0 ≤ x ∧ x ≤ 7) (hy : 0 ≤ y ∧ y ≤ 7) (hz : 0 ≤ z ∧ z ≤ 15) (k : T → Roots → Prop) (kx : Exn → Roots → Prop) (h : aft m a k kx (m.doM b 10 x y z)) : cShiftWordRight [.dat (partsD 10 x y z), .ref 0 (rp b), .dat (.int m.pc), .dat (viewD b a)] [m.T a] k kx := by
  unfold cShiftWordRight cwOf
  refine ⟨rfl, ?_⟩
  unfold wdShiftWordRight
  cases b with
  | true =>
    refine ⟨rfl, y.toNat, _, dL_ix m.ks hy.1 (by have := hm.ksl; omega), dL_at' m.ks hy.1 (by have := hm.ksl; omega), rfl, spec_shr _ _ hz.1 _ _ ⟨x.toNat, _, dL_ix m.ks hx.1 (by have := hm.ksl; omega), dL_at' m.ks hx.1 (by have := hm.ksl; omega), rfl, ?_⟩⟩
    exact tn (sl' := _) (rt' := _) rfl (reg_T_k m a _ _) ⟨rfl, spec_add _ _ _ _ h⟩
  | false =>
    refine ⟨rfl, y.toNat, _, dL_ix m.us hy.1 (by have := hm.usl; omega), dL_at' m.us hy.1 (by have := hm.usl; omega), rfl, spec_shr _ _ hz.1 _ _ ⟨x.toNat, _, dL_ix m.us hx.1 (by have := hm.usl; omega), dL_at' m.us hx.1 (by have := hm.usl; omega), rfl, ?_⟩⟩
    exact tn (sl' := _) (rt' := _) rfl (reg_T_u m a _ _) ⟨rfl, spec_add _ _ _ _ h⟩
theorem spec_addi (m : MS) (hm : WF m) (b : Bool) (a : Addr) (x y z : Int) (hx : 0 ≤ x ∧ x ≤ 7) (hy : 0 ≤ y ∧ y ≤ 7) (hz : 0 ≤ z ∧ z ≤ 15) (k : T → Roots → Prop) (kx : Exn → Roots → Prop) (h : aft m a k kx (m.doM b 11 x y z)) : cAddSmall [.dat (partsD 11 x y z), .ref 0 (rp b), .dat (.int m.pc), .dat (viewD b a)] [m.T a] k kx := by
  unfold cAddSmall cwOf
  refine ⟨rfl, ?_⟩
  unfold wdAddSmall
  cases b with
  | true =>
    refine ⟨rfl, y.toNat, _, dL_ix m.ks hy.1 (by have := hm.ksl; omega), dL_at' m.ks hy.1 (by have := hm.ksl; omega), rfl, spec_small _ _ _ ⟨rfl, spec_add _ _ _ _ ⟨x.toNat, _, dL_ix m.ks hx.1 (by have := hm.ksl; omega), dL_at' m.ks hx.1 (by have := hm.ksl; omega), rfl, ?_⟩⟩⟩
    exact tn (sl' := _) (rt' := _) rfl (reg_T_k m a _ _) ⟨rfl, spec_add _ _ _ _ h⟩
  | false =>
    refine ⟨rfl, y.toNat, _, dL_ix m.us hy.1 (by have := hm.usl; omega), dL_at' m.us hy.1 (by have := hm.usl; omega), rfl, spec_small _ _ _ ⟨rfl, spec_add _ _ _ _ ⟨x.toNat, _, dL_ix m.us hx.1 (by have := hm.usl; omega), dL_at' m.us hx.1 (by have := hm.usl; omega), rfl, ?_⟩⟩⟩
    exact tn (sl' := _) (rt' := _) rfl (reg_T_u m a _ _) ⟨rfl, spec_add _ _ _ _ h⟩
theorem spec_set (m : MS) (hm : WF m) (b : Bool) (a : Addr) (x y z : Int) (hx : 0 ≤ x ∧ x ≤ 7) (hy : 0 ≤ y ∧ y ≤ 7) (hz : 0 ≤ z ∧ z ≤ 15) (k : T → Roots → Prop) (kx : Exn → Roots → Prop) (h : aft m a k kx (m.doM b 1 x y z)) : cSetWord [.dat (partsD 1 x y z), .ref 0 (rp b), .dat (.int m.pc), .dat (viewD b a)] [m.T a] k kx := by
  unfold cSetWord cwOf
  refine ⟨rfl, ?_⟩
  unfold wdSetWord
  cases b with
  | true =>
    refine ⟨by decide, rfl, rfl, spec_add _ _ _ _ ?_⟩
    refine spec_fetch m hm true a _ (W.mod _).1 _ _ ?_
    cases hi : m.ix true ((m.pc + 1) % 65536) 4 with
    | none =>
      have e : m.doM true 1 x y z = .tr 2 ((m.pc + 1) % 65536) := by
        simp only [MS.doM, hi]
      rw [e] at h
      exact h
    | some i =>
      have e : m.doM true 1 x y z = .nx (m.setR true ((m.rg true).set x.toNat (m.mem.getD i.toNat 0))) ((m.pc + 2) % 65536) := by
        simp only [MS.doM, hi]
      rw [e] at h
      refine ⟨.int x, rfl, x.toNat, _, dL_ix m.ks hx.1 (by have := hm.ksl; omega), dL_at' m.ks hx.1 (by have := hm.ksl; omega), rfl, ?_⟩
      exact tn (sl' := _) (rt' := _) rfl (reg_T_k m a _ _) ⟨rfl, spec_add _ _ _ _ h⟩
  | false =>
    refine ⟨by decide, rfl, rfl, spec_add _ _ _ _ ?_⟩
    refine spec_fetch m hm false a _ (W.mod _).1 _ _ ?_
    cases hi : m.ix false ((m.pc + 1) % 65536) 4 with
    | none =>
      have e : m.doM false 1 x y z = .tr 2 ((m.pc + 1) % 65536) := by
        simp only [MS.doM, hi]
      rw [e] at h
      exact h
    | some i =>
      have e : m.doM false 1 x y z = .nx (m.setR false ((m.rg false).set x.toNat (m.mem.getD i.toNat 0))) ((m.pc + 2) % 65536) := by
        simp only [MS.doM, hi]
      rw [e] at h
      refine ⟨.int x, rfl, x.toNat, _, dL_ix m.us hx.1 (by have := hm.usl; omega), dL_at' m.us hx.1 (by have := hm.usl; omega), rfl, ?_⟩
      exact tn (sl' := _) (rt' := _) rfl (reg_T_u m a _ _) ⟨rfl, spec_add _ _ _ _ h⟩
theorem spec_load_w (m : MS) (hm : WF m) (b : Bool) (a : Addr) (x y z : Int) (hx : 0 ≤ x ∧ x ≤ 7) (hy : 0 ≤ y ∧ y ≤ 7) (hz : 0 ≤ z ∧ z ≤ 15) (k : T → Roots → Prop) (kx : Exn → Roots → Prop) (h : aft m a k kx (m.doM b 12 x y z)) : cLoadWord [.dat (partsD 12 x y z), .ref 0 (rp b), .dat (.int m.pc), .dat (viewD b a)] [m.T a] k kx := by
  unfold cLoadWord cwOf
  refine ⟨rfl, ?_⟩
  unfold wdLoadWord
  cases b with
  | true =>
    refine ⟨rfl, by decide, rfl, y.toNat, _, dL_ix m.ks hy.1 (by have := hm.ksl; omega), dL_at' m.ks hy.1 (by have := hm.ksl; omega), rfl, spec_add _ _ _ _ ?_⟩
    refine spec_load m hm true a _ (W.mod _).1 _ _ ?_
    cases hi : m.ix true (((m.rg true).getD y.toNat 0 + z) % 65536) 1 with
    | none =>
      have e : m.doM true 12 x y z = .tr 2 (((m.rg true).getD y.toNat 0 + z) % 65536) := by
        simp only [MS.doM, hi]
      rw [e] at h
      show acc _ _ _ _ _ _ (m.ix true (((m.rg true).getD y.toNat 0 + z) % 65536) 1)
      rw [hi]
      exact h
    | some i =>
      have e : m.doM true 12 x y z = .nx (m.setR true ((m.rg true).set x.toNat (m.mem.getD i.toNat 0))) ((m.pc + 1) % 65536) := by
        simp only [MS.doM, hi]
      rw [e] at h
      show acc _ _ _ _ _ _ (m.ix true (((m.rg true).getD y.toNat 0 + z) % 65536) 1)
      rw [hi]
      refine ⟨x.toNat, _, dL_ix m.ks hx.1 (by have := hm.ksl; omega), dL_at' m.ks hx.1 (by have := hm.ksl; omega), rfl, ?_⟩
      exact tn (sl' := _) (rt' := _) rfl (reg_T_k m a _ _) ⟨rfl, spec_add _ _ _ _ h⟩
  | false =>
    refine ⟨rfl, by decide, rfl, y.toNat, _, dL_ix m.us hy.1 (by have := hm.usl; omega), dL_at' m.us hy.1 (by have := hm.usl; omega), rfl, spec_add _ _ _ _ ?_⟩
    refine spec_load m hm false a _ (W.mod _).1 _ _ ?_
    cases hi : m.ix false (((m.rg false).getD y.toNat 0 + z) % 65536) 1 with
    | none =>
      have e : m.doM false 12 x y z = .tr 2 (((m.rg false).getD y.toNat 0 + z) % 65536) := by
        simp only [MS.doM, hi]
      rw [e] at h
      show acc _ _ _ _ _ _ (m.ix false (((m.rg false).getD y.toNat 0 + z) % 65536) 1)
      rw [hi]
      exact h
    | some i =>
      have e : m.doM false 12 x y z = .nx (m.setR false ((m.rg false).set x.toNat (m.mem.getD i.toNat 0))) ((m.pc + 1) % 65536) := by
        simp only [MS.doM, hi]
      rw [e] at h
      show acc _ _ _ _ _ _ (m.ix false (((m.rg false).getD y.toNat 0 + z) % 65536) 1)
      rw [hi]
      refine ⟨x.toNat, _, dL_ix m.us hx.1 (by have := hm.usl; omega), dL_at' m.us hx.1 (by have := hm.usl; omega), rfl, ?_⟩
      exact tn (sl' := _) (rt' := _) rfl (reg_T_u m a _ _) ⟨rfl, spec_add _ _ _ _ h⟩
theorem spec_store_w (m : MS) (hm : WF m) (b : Bool) (a : Addr) (x y z : Int) (hx : 0 ≤ x ∧ x ≤ 7) (hy : 0 ≤ y ∧ y ≤ 7) (hz : 0 ≤ z ∧ z ≤ 15) (k : T → Roots → Prop) (kx : Exn → Roots → Prop) (h : aft m a k kx (m.doM b 13 x y z)) : cStoreWord [.dat (partsD 13 x y z), .ref 0 (rp b), .dat (.int m.pc), .dat (viewD b a)] [m.T a] k kx := by
  unfold cStoreWord cwOf
  refine ⟨rfl, ?_⟩
  unfold wdStoreWord
  cases b with
  | true =>
    refine ⟨rfl, by decide, rfl, y.toNat, _, dL_ix m.ks hy.1 (by have := hm.ksl; omega), dL_at' m.ks hy.1 (by have := hm.ksl; omega), rfl, spec_add _ _ _ _ ⟨x.toNat, _, dL_ix m.ks hx.1 (by have := hm.ksl; omega), dL_at' m.ks hx.1 (by have := hm.ksl; omega), ?_⟩⟩
    refine spec_store m hm true a _ _ (W.mod _).1 _ _ ?_
    show match m.ix true (((m.rg true).getD y.toNat 0 + z) % 65536) 2 with | some i => _ | none => _
    cases hi : m.ix true (((m.rg true).getD y.toNat 0 + z) % 65536) 2 with
    | none =>
      have e : m.doM true 13 x y z = .tr 2 (((m.rg true).getD y.toNat 0 + z) % 65536) := by
        simp only [MS.doM, hi]
      rw [e] at h
      exact h
    | some i =>
      have e : m.doM true 13 x y z = .nx { m with mem := m.mem.set i.toNat ((m.rg true).getD x.toNat 0) } ((m.pc + 1) % 65536) := by
        simp only [MS.doM, hi]
      rw [e] at h
      exact ⟨rfl, spec_add _ _ _ _ h⟩
  | false =>
    refine ⟨rfl, by decide, rfl, y.toNat, _, dL_ix m.us hy.1 (by have := hm.usl; omega), dL_at' m.us hy.1 (by have := hm.usl; omega), rfl, spec_add _ _ _ _ ⟨x.toNat, _, dL_ix m.us hx.1 (by have := hm.usl; omega), dL_at' m.us hx.1 (by have := hm.usl; omega), ?_⟩⟩
    refine spec_store m hm false a _ _ (W.mod _).1 _ _ ?_
    show match m.ix false (((m.rg false).getD y.toNat 0 + z) % 65536) 2 with | some i => _ | none => _
    cases hi : m.ix false (((m.rg false).getD y.toNat 0 + z) % 65536) 2 with
    | none =>
      have e : m.doM false 13 x y z = .tr 2 (((m.rg false).getD y.toNat 0 + z) % 65536) := by
        simp only [MS.doM, hi]
      rw [e] at h
      exact h
    | some i =>
      have e : m.doM false 13 x y z = .nx { m with mem := m.mem.set i.toNat ((m.rg false).getD x.toNat 0) } ((m.pc + 1) % 65536) := by
        simp only [MS.doM, hi]
      rw [e] at h
      exact ⟨rfl, spec_add _ _ _ _ h⟩
theorem spec_branch (m : MS) (hm : WF m) (b : Bool) (a : Addr) (n : Nat) (x y z : Int) (hx : 0 ≤ x ∧ x ≤ 7) (hy : 0 ≤ y ∧ y ≤ 7) (hz : 0 ≤ z ∧ z ≤ 15) (hn : 16 ≤ n ∧ n ≤ 18) (k : T → Roots → Prop) (kx : Exn → Roots → Prop) (h : aft m a k kx (m.doM b n x y z)) : cBranch [.dat (partsD n x y z), .ref 0 (rp b), .dat (.int m.pc), .dat (viewD b a)] [m.T a] k kx := by
  unfold cBranch cwOf
  refine ⟨rfl, ?_⟩
  unfold wdBranch
  cases b with
  | true =>
    refine ⟨rfl, rfl, spec_add _ _ _ _ ?_⟩
    refine ⟨x.toNat, _, dL_ix m.ks hx.1 (by have := hm.ksl; omega), dL_at' m.ks hx.1 (by have := hm.ksl; omega), y.toNat, _, dL_ix m.ks hy.1 (by have := hm.ksl; omega), dL_at' m.ks hy.1 (by have := hm.ksl; omega), rfl, spec_holds n hn _ _ _ _ ?_⟩
    have h : k (.dat (.int (if holdsB n ((m.rg true).getD x.toNat 0) ((m.rg true).getD y.toNat 0) then ((m.pc + 1) % 65536 + (z - 8)) % 65536 else (m.pc + 1) % 65536))) [m.T a] := by
      have hc : n = 16 ∨ n = 17 ∨ n = 18 := by omega
      rcases hc with rfl | rfl | rfl <;> exact h
    refine ⟨fun c => ?_, fun c => ?_⟩
    · have c : holdsB n ((m.rg true).getD x.toNat 0) ((m.rg true).getD y.toNat 0) = true := c
      rw [if_pos c] at h
      exact ⟨rfl, spec_add _ _ _ _ h⟩
    · have c : holdsB n ((m.rg true).getD x.toNat 0) ((m.rg true).getD y.toNat 0) = false := c
      rw [if_neg (by rw [c]; decide)] at h
      exact h
  | false =>
    refine ⟨rfl, rfl, spec_add _ _ _ _ ?_⟩
    refine ⟨x.toNat, _, dL_ix m.us hx.1 (by have := hm.usl; omega), dL_at' m.us hx.1 (by have := hm.usl; omega), y.toNat, _, dL_ix m.us hy.1 (by have := hm.usl; omega), dL_at' m.us hy.1 (by have := hm.usl; omega), rfl, spec_holds n hn _ _ _ _ ?_⟩
    have h : k (.dat (.int (if holdsB n ((m.rg false).getD x.toNat 0) ((m.rg false).getD y.toNat 0) then ((m.pc + 1) % 65536 + (z - 8)) % 65536 else (m.pc + 1) % 65536))) [m.T a] := by
      have hc : n = 16 ∨ n = 17 ∨ n = 18 := by omega
      rcases hc with rfl | rfl | rfl <;> exact h
    refine ⟨fun c => ?_, fun c => ?_⟩
    · have c : holdsB n ((m.rg false).getD x.toNat 0) ((m.rg false).getD y.toNat 0) = true := c
      rw [if_pos c] at h
      exact ⟨rfl, spec_add _ _ _ _ h⟩
    · have c : holdsB n ((m.rg false).getD x.toNat 0) ((m.rg false).getD y.toNat 0) = false := c
      rw [if_neg (by rw [c]; decide)] at h
      exact h
end K07
end

section
set_option linter.all false
set_option maxRecDepth 100000
set_option maxHeartbeats 1000000
set_option pp.deepTerms false
namespace K07
open PySem L2 Evl Wv

def actN : Nat → Nat
  | 0 => 0 | 1 => 1 | 2 => 2 | 3 => 3 | 4 => 3 | 5 => 3 | 6 => 3 | 7 => 3 | 8 => 3 | 9 => 4 | 10 => 5 | 11 => 6 | 12 => 7 | 13 => 8 | 14 => 9 | 15 => 10 | 16 => 11 | 17 => 11 | 18 => 11 | 19 => 12 | _ => 99
theorem act_at : ∀ n : Nat, n < 26 → n < 20 → tbACTIONS (opN n) = some (.fn (actN n)) := by
  refine lt26 ?_ ?_ ?_ ?_ ?_ ?_ ?_ ?_ ?_ ?_ ?_ ?_ ?_ ?_ ?_ ?_ ?_ ?_ ?_ ?_ ?_ ?_ ?_ ?_ ?_ ?_
  all_goals first
    | exact fun h => absurd h (by decide)
    | exact fun _ => rfl
theorem most_bd : ∀ n : Nat, n < 26 → (most n).1 ≤ 7 ∧ (most n).2.1 ≤ 7 ∧ (most n).2.2 ≤ 15 ∧ (3 ≤ n → n ≤ 8 → (most n).2.2 ≤ 7) ∧ (n = 22 → (most n).2.2 = 6) ∧ (n = 23 → (most n).2.2 = 4) := by
  refine lt26 ?_ ?_ ?_ ?_ ?_ ?_ ?_ ?_ ?_ ?_ ?_ ?_ ?_ ?_ ?_ ?_ ?_ ?_ ?_ ?_ ?_ ?_ ?_ ?_ ?_ ?_ <;> decide
theorem fits_bd {n : Nat} (hn : n < 26) {x y z : Int} (h : fits n x y z = true) : (0 ≤ x ∧ x ≤ 7) ∧ (0 ≤ y ∧ y ≤ 7) ∧ (0 ≤ z ∧ z ≤ 15) ∧ (3 ≤ n → n ≤ 8 → z ≤ 7) ∧ (n = 22 → z ≤ 6) ∧ (n = 23 → z ≤ 4) := by
  unfold fits at h
  simp only [Bool.and_eq_true, decide_eq_true_eq] at h
  obtain ⟨h1, h2, h3, h4, h5, h6⟩ := most_bd n hn
  refine ⟨by omega, by omega, by omega, fun p q => ?_, fun p => ?_, fun p => ?_⟩
  · have := h4 p q; omega
  · have := h5 p; omega
  · have := h6 p; omega
theorem aft_imp {m : MS} {a : Addr} {k k' : T → Roots → Prop} {kx kx' : Exn → Roots → Prop} {o : Out} (h1 : ∀ t m', k t [MS.T m' a] → k' t [MS.T m' a]) (h2 : ∀ e, kx e [m.T a] → kx' e [m.T a]) (h : aft m a k kx o) : aft m a k' kx' o := by
  cases o with
  | nx m' p => exact h1 _ _ h
  | tr c v => exact h2 _ h
theorem spec_carry (m : MS) (hm : WF m) (b : Bool) (a : Addr) (n : Nat) (hn : n < 20) (x y z : Int) (hf : fits n x y z = true) (k : T → Roots → Prop) (kx : Exn → Roots → Prop) (h : aft m a k kx (m.doM b n x y z)) :
    cCarryOut [.dat (partsD n x y z), .ref 0 (rp b), .dat (.int m.pc), .dat (viewD b a)] [m.T a] k kx := by
  unfold cCarryOut cwOf
  refine ⟨rfl, ?_⟩
  unfold wdCarryOut
  obtain ⟨hx, hy, hz, hz7, _, _⟩ := fits_bd (by omega) hf
  have ha := act_at n (by omega) hn
  have hcases : n = 0 ∨ n = 1 ∨ n = 2 ∨ n = 3 ∨ n = 4 ∨ n = 5 ∨ n = 6 ∨ n = 7 ∨ n = 8 ∨ n = 9 ∨ n = 10 ∨ n = 11 ∨ n = 12 ∨ n = 13 ∨ n = 14 ∨ n = 15 ∨ n = 16 ∨ n = 17 ∨ n = 18 ∨ n = 19 := by omega
  rcases hcases with rfl | rfl | rfl | rfl | rfl | rfl | rfl | rfl | rfl | rfl | rfl | rfl | rfl | rfl | rfl | rfl | rfl | rfl | rfl | rfl
  · cases b with
    | true => exact ⟨.str (opN 0), rfl, _, ha, by decide, rfl, spec_halt m hm true a x y z hx hy hz _ _ (aft_imp (fun _ _ q => q) (fun _ q => q) h)⟩
    | false => exact ⟨.str (opN 0), rfl, _, ha, by decide, rfl, spec_halt m hm false a x y z hx hy hz _ _ (aft_imp (fun _ _ q => q) (fun _ q => q) h)⟩
  · cases b with
    | true => exact ⟨.str (opN 1), rfl, _, ha, by decide, rfl, spec_set m hm true a x y z hx hy hz _ _ (aft_imp (fun _ _ q => q) (fun _ q => q) h)⟩
    | false => exact ⟨.str (opN 1), rfl, _, ha, by decide, rfl, spec_set m hm false a x y z hx hy hz _ _ (aft_imp (fun _ _ q => q) (fun _ q => q) h)⟩
  · cases b with
    | true => exact ⟨.str (opN 2), rfl, _, ha, by decide, rfl, spec_copy m hm true a x y z hx hy hz _ _ (aft_imp (fun _ _ q => q) (fun _ q => q) h)⟩
    | false => exact ⟨.str (opN 2), rfl, _, ha, by decide, rfl, spec_copy m hm false a x y z hx hy hz _ _ (aft_imp (fun _ _ q => q) (fun _ q => q) h)⟩
  · cases b with
    | true => exact ⟨.str (opN 3), rfl, _, ha, by decide, rfl, spec_calculate m hm true a 3 x y z hx hy hz ⟨by decide, by decide⟩ (hz7 (by decide) (by decide)) _ _ (aft_imp (fun _ _ q => q) (fun _ q => q) h)⟩
    | false => exact ⟨.str (opN 3), rfl, _, ha, by decide, rfl, spec_calculate m hm false a 3 x y z hx hy hz ⟨by decide, by decide⟩ (hz7 (by decide) (by decide)) _ _ (aft_imp (fun _ _ q => q) (fun _ q => q) h)⟩
  · cases b with
    | true => exact ⟨.str (opN 4), rfl, _, ha, by decide, rfl, spec_calculate m hm true a 4 x y z hx hy hz ⟨by decide, by decide⟩ (hz7 (by decide) (by decide)) _ _ (aft_imp (fun _ _ q => q) (fun _ q => q) h)⟩
    | false => exact ⟨.str (opN 4), rfl, _, ha, by decide, rfl, spec_calculate m hm false a 4 x y z hx hy hz ⟨by decide, by decide⟩ (hz7 (by decide) (by decide)) _ _ (aft_imp (fun _ _ q => q) (fun _ q => q) h)⟩
  · cases b with
    | true => exact ⟨.str (opN 5), rfl, _, ha, by decide, rfl, spec_calculate m hm true a 5 x y z hx hy hz ⟨by decide, by decide⟩ (hz7 (by decide) (by decide)) _ _ (aft_imp (fun _ _ q => q) (fun _ q => q) h)⟩
    | false => exact ⟨.str (opN 5), rfl, _, ha, by decide, rfl, spec_calculate m hm false a 5 x y z hx hy hz ⟨by decide, by decide⟩ (hz7 (by decide) (by decide)) _ _ (aft_imp (fun _ _ q => q) (fun _ q => q) h)⟩
  · cases b with
    | true => exact ⟨.str (opN 6), rfl, _, ha, by decide, rfl, spec_calculate m hm true a 6 x y z hx hy hz ⟨by decide, by decide⟩ (hz7 (by decide) (by decide)) _ _ (aft_imp (fun _ _ q => q) (fun _ q => q) h)⟩
    | false => exact ⟨.str (opN 6), rfl, _, ha, by decide, rfl, spec_calculate m hm false a 6 x y z hx hy hz ⟨by decide, by decide⟩ (hz7 (by decide) (by decide)) _ _ (aft_imp (fun _ _ q => q) (fun _ q => q) h)⟩
  · cases b with
    | true => exact ⟨.str (opN 7), rfl, _, ha, by decide, rfl, spec_calculate m hm true a 7 x y z hx hy hz ⟨by decide, by decide⟩ (hz7 (by decide) (by decide)) _ _ (aft_imp (fun _ _ q => q) (fun _ q => q) h)⟩
    | false => exact ⟨.str (opN 7), rfl, _, ha, by decide, rfl, spec_calculate m hm false a 7 x y z hx hy hz ⟨by decide, by decide⟩ (hz7 (by decide) (by decide)) _ _ (aft_imp (fun _ _ q => q) (fun _ q => q) h)⟩
  · cases b with
    | true => exact ⟨.str (opN 8), rfl, _, ha, by decide, rfl, spec_calculate m hm true a 8 x y z hx hy hz ⟨by decide, by decide⟩ (hz7 (by decide) (by decide)) _ _ (aft_imp (fun _ _ q => q) (fun _ q => q) h)⟩
    | false => exact ⟨.str (opN 8), rfl, _, ha, by decide, rfl, spec_calculate m hm false a 8 x y z hx hy hz ⟨by decide, by decide⟩ (hz7 (by decide) (by decide)) _ _ (aft_imp (fun _ _ q => q) (fun _ q => q) h)⟩
  · cases b with
    | true => exact ⟨.str (opN 9), rfl, _, ha, by decide, rfl, spec_shl_w m hm true a x y z hx hy hz _ _ (aft_imp (fun _ _ q => q) (fun _ q => q) h)⟩
    | false => exact ⟨.str (opN 9), rfl, _, ha, by decide, rfl, spec_shl_w m hm false a x y z hx hy hz _ _ (aft_imp (fun _ _ q => q) (fun _ q => q) h)⟩
  · cases b with
    | true => exact ⟨.str (opN 10), rfl, _, ha, by decide, rfl, spec_shr_w m hm true a x y z hx hy hz _ _ (aft_imp (fun _ _ q => q) (fun _ q => q) h)⟩
    | false => exact ⟨.str (opN 10), rfl, _, ha, by decide, rfl, spec_shr_w m hm false a x y z hx hy hz _ _ (aft_imp (fun _ _ q => q) (fun _ q => q) h)⟩
  · cases b with
    | true => exact ⟨.str (opN 11), rfl, _, ha, by decide, rfl, spec_addi m hm true a x y z hx hy hz _ _ (aft_imp (fun _ _ q => q) (fun _ q => q) h)⟩
    | false => exact ⟨.str (opN 11), rfl, _, ha, by decide, rfl, spec_addi m hm false a x y z hx hy hz _ _ (aft_imp (fun _ _ q => q) (fun _ q => q) h)⟩
  · cases b with
    | true => exact ⟨.str (opN 12), rfl, _, ha, by decide, rfl, spec_load_w m hm true a x y z hx hy hz _ _ (aft_imp (fun _ _ q => q) (fun _ q => q) h)⟩
    | false => exact ⟨.str (opN 12), rfl, _, ha, by decide, rfl, spec_load_w m hm false a x y z hx hy hz _ _ (aft_imp (fun _ _ q => q) (fun _ q => q) h)⟩
  · cases b with
    | true => exact ⟨.str (opN 13), rfl, _, ha, by decide, rfl, spec_store_w m hm true a x y z hx hy hz _ _ (aft_imp (fun _ _ q => q) (fun _ q => q) h)⟩
    | false => exact ⟨.str (opN 13), rfl, _, ha, by decide, rfl, spec_store_w m hm false a x y z hx hy hz _ _ (aft_imp (fun _ _ q => q) (fun _ q => q) h)⟩
  · cases b with
    | true => exact ⟨.str (opN 14), rfl, _, ha, by decide, rfl, spec_jump m hm true a x y z hx hy hz _ _ (aft_imp (fun _ _ q => q) (fun _ q => q) h)⟩
    | false => exact ⟨.str (opN 14), rfl, _, ha, by decide, rfl, spec_jump m hm false a x y z hx hy hz _ _ (aft_imp (fun _ _ q => q) (fun _ q => q) h)⟩
  · cases b with
    | true => exact ⟨.str (opN 15), rfl, _, ha, by decide, rfl, spec_jal m hm true a x y z hx hy hz _ _ (aft_imp (fun _ _ q => q) (fun _ q => q) h)⟩
    | false => exact ⟨.str (opN 15), rfl, _, ha, by decide, rfl, spec_jal m hm false a x y z hx hy hz _ _ (aft_imp (fun _ _ q => q) (fun _ q => q) h)⟩
  · cases b with
    | true => exact ⟨.str (opN 16), rfl, _, ha, by decide, rfl, spec_branch m hm true a 16 x y z hx hy hz ⟨by decide, by decide⟩ _ _ (aft_imp (fun _ _ q => q) (fun _ q => q) h)⟩
    | false => exact ⟨.str (opN 16), rfl, _, ha, by decide, rfl, spec_branch m hm false a 16 x y z hx hy hz ⟨by decide, by decide⟩ _ _ (aft_imp (fun _ _ q => q) (fun _ q => q) h)⟩
  · cases b with
    | true => exact ⟨.str (opN 17), rfl, _, ha, by decide, rfl, spec_branch m hm true a 17 x y z hx hy hz ⟨by decide, by decide⟩ _ _ (aft_imp (fun _ _ q => q) (fun _ q => q) h)⟩
    | false => exact ⟨.str (opN 17), rfl, _, ha, by decide, rfl, spec_branch m hm false a 17 x y z hx hy hz ⟨by decide, by decide⟩ _ _ (aft_imp (fun _ _ q => q) (fun _ q => q) h)⟩
  · cases b with
    | true => exact ⟨.str (opN 18), rfl, _, ha, by decide, rfl, spec_branch m hm true a 18 x y z hx hy hz ⟨by decide, by decide⟩ _ _ (aft_imp (fun _ _ q => q) (fun _ q => q) h)⟩
    | false => exact ⟨.str (opN 18), rfl, _, ha, by decide, rfl, spec_branch m hm false a 18 x y z hx hy hz ⟨by decide, by decide⟩ _ _ (aft_imp (fun _ _ q => q) (fun _ q => q) h)⟩
  · cases b with
    | true => exact ⟨.str (opN 19), rfl, _, ha, by decide, rfl, spec_call m hm true a x y z hx hy hz _ _ (aft_imp (fun _ _ q => q) (fun _ q => q) h)⟩
    | false => exact ⟨.str (opN 19), rfl, _, ha, by decide, rfl, spec_call m hm false a x y z hx hy hz _ _ (aft_imp (fun _ _ q => q) (fun _ q => q) h)⟩

theorem ko_at : ∀ n : Nat, n < 26 → inV (V.str (opN n)) [V.str "getu", V.str "putu", V.str "gets", V.str "puts", V.str "until", V.str "rest"] = decide (20 ≤ n) := by
  refine lt26 ?_ ?_ ?_ ?_ ?_ ?_ ?_ ?_ ?_ ?_ ?_ ?_ ?_ ?_ ?_ ?_ ?_ ?_ ?_ ?_ ?_ ?_ ?_ ?_ ?_ ?_ <;> decide +kernel
/-- one instruction of a user -/
def MS.stepU (m : MS) : Out := match m.ix false m.pc 4 with
  | none => .tr 2 m.pc
  | some i => if legal (m.mem.getD i.toNat 0) = true ∧ fop (m.mem.getD i.toNat 0) < 20 then m.doM false (fop (m.mem.getD i.toNat 0)) (fa (m.mem.getD i.toNat 0)) (fb (m.mem.getD i.toNat 0)) (fc (m.mem.getD i.toNat 0)) else .tr 1 0
theorem legal_lt {w : Int} (h : legal w = true) : fop w < 26 ∧ fits (fop w) (fa w) (fb w) (fc w) = true := by
  unfold legal at h
  simp only [Bool.and_eq_true, decide_eq_true_eq] at h
  exact h
theorem spec_ustep (m : MS) (hm : WF m) (a : Addr) (k : T → Roots → Prop) (kx : Exn → Roots → Prop) (h : aft m a k kx m.stepU) :
    cUserStep [.ref 0 [5], .dat (.int m.pc), .dat (uvD a)] [m.T a] k kx := by
  unfold cUserStep cwOf
  refine ⟨rfl, ?_⟩
  unfold wdUserStep
  refine ⟨by decide, rfl, ?_⟩
  refine spec_fetch m hm false a _ hm.pc.1 _ _ ?_
  unfold MS.stepU at h
  cases hi : m.ix false m.pc 4 with
  | none =>
    rw [hi] at h
    exact h
  | some i =>
    rw [hi] at h
    obtain ⟨i0, i1⟩ := ix_bd hm hm.pc.1 hi
    have ww := hm.mem.get i.toNat
    refine ⟨rfl, spec_decode _ ww.1 _ _ ?_⟩
    cases hl : legal (m.mem.getD i.toNat 0) with
    | false =>
      have h : aft m a k kx (if legal (m.mem.getD i.toNat 0) = true ∧ fop (m.mem.getD i.toNat 0) < 20 then m.doM false (fop (m.mem.getD i.toNat 0)) (fa (m.mem.getD i.toNat 0)) (fb (m.mem.getD i.toNat 0)) (fc (m.mem.getD i.toNat 0)) else .tr 1 0) := h
      rw [if_neg (by rw [hl]; exact fun z => nomatch z.1)] at h
      have e : decD (m.mem.getD i.toNat 0) = .non := by
        unfold decD
        rw [if_neg (by rw [hl]; decide)]
      rw [e]
      exact ⟨false, fun z => (nomatch z), fun _ => ⟨rfl, h⟩, fun z => (nomatch z)⟩
    | true =>
      have h : aft m a k kx (if legal (m.mem.getD i.toNat 0) = true ∧ fop (m.mem.getD i.toNat 0) < 20 then m.doM false (fop (m.mem.getD i.toNat 0)) (fa (m.mem.getD i.toNat 0)) (fb (m.mem.getD i.toNat 0)) (fc (m.mem.getD i.toNat 0)) else .tr 1 0) := h
      obtain ⟨h26, hf⟩ := legal_lt hl
      have e : decD (m.mem.getD i.toNat 0) = partsD (fop (m.mem.getD i.toNat 0)) (fa (m.mem.getD i.toNat 0)) (fb (m.mem.getD i.toNat 0)) (fc (m.mem.getD i.toNat 0)) := by
        unfold decD
        rw [if_pos hl]
      rw [e]
      refine ⟨decide (20 ≤ fop (m.mem.getD i.toNat 0)), fun _ => ⟨.str (opN (fop (m.mem.getD i.toNat 0))), rfl, rfl, rfl, ?_, rfl⟩, fun z => ?_, fun z => ?_⟩
      · exact ko_at _ h26
      · have z : (false || decide (20 ≤ fop (m.mem.getD i.toNat 0))) = true := z
        have z : 20 ≤ fop (m.mem.getD i.toNat 0) := by simpa using z
        rw [if_neg (by omega)] at h
        exact ⟨rfl, h⟩
      · have z : (false || decide (20 ≤ fop (m.mem.getD i.toNat 0))) = false := z
        have z : fop (m.mem.getD i.toNat 0) < 20 := by simpa using z
        rw [if_pos ⟨hl, z⟩] at h
        exact ⟨rfl, spec_carry m hm false a (fop (m.mem.getD i.toNat 0)) z _ _ _ hf _ _ (aft_imp (fun _ _ q => q) (fun _ q => q) h)⟩
/-! ### kernel mode alone -/
theorem sp_T (m : MS) (a : Addr) (i : Nat) (v : Int) : [T.nm a (.obj 5 [dL m.mem, dL m.rings, .lst (m.ins.map fun i => T.dat (inD i)), .dat (.str m.mode), .dat (.int m.pc), dL m.us, dL m.ks, T.lst ((m.sp.map fun i => T.dat (.int i)).set i (.dat (.int v))), .dat (.int m.tick), .dat (.int m.given), .dat (kvD a), .dat (uvD a)])] = [({ m with sp := m.sp.set i v } : MS).T a] := by
  rw [dL_set]
  rfl
def MS.konly (m : MS) (n : Nat) (x y z : Int) : MS × Int := match n with
  | 20 => ({ m with ks := m.ks.set x.toNat (m.us.getD y.toNat 0) }, (m.pc + 1) % 65536)
  | 21 => ({ m with us := m.us.set x.toNat (m.ks.getD y.toNat 0) }, (m.pc + 1) % 65536)
  | 22 => ({ m with ks := m.ks.set x.toNat (m.sp.getD z.toNat 0) }, (m.pc + 1) % 65536)
  | 23 => ({ m with sp := m.sp.set z.toNat (m.ks.getD x.toNat 0) }, (m.pc + 1) % 65536)
  | 24 => (m, if (m.tick + 1) % 65536 = m.sp.getD 4 0 then (m.pc + 1) % 65536 else m.pc)
  | _ => ({ m with mode := "user" }, m.sp.getD 0 0)
theorem spec_special (m : MS) (hm : WF m) (ht : m.sp.getD 5 0 = m.tick % 65536) (a : Addr) (z : Int) (hz : 0 ≤ z ∧ z ≤ 6) (k : T → Roots → Prop) (kx : Exn → Roots → Prop) (h : k (.dat (.int (m.sp.getD z.toNat 0))) [m.T a]) :
    cMachineSpecial [.ref 0 [], .dat (.int z)] [m.T a] k kx := by
  unfold cMachineSpecial cwOf
  refine ⟨rfl, ?_⟩
  unfold wdMachineSpecial
  refine ⟨fun c => ?_, fun c => ?_⟩
  · have c : decide (z = 5) = true := c
    have c := of_decide_eq_true c
    subst c
    have e : m.sp.getD (5 : Int).toNat 0 = m.tick % 65536 := ht
    rw [e] at h
    exact ⟨rfl, spec_wrap _ _ _ h⟩
  · exact ⟨z.toNat, _, dL_ix m.sp hz.1 (by have := hm.spl; omega), dL_at' m.sp hz.1 (by have := hm.spl; omega), h⟩
theorem spec_konly (m : MS) (hm : WF m) (ht : m.sp.getD 5 0 = m.tick % 65536) (a : Addr) (n : Nat) (hn : 20 ≤ n ∧ n < 26) (x y z : Int) (hf : fits n x y z = true) (k : T → Roots → Prop) (kx : Exn → Roots → Prop) (h : k (.dat (.int (m.konly n x y z).2)) [(m.konly n x y z).1.T a]) :
    cMachineKernelOnly [.ref 0 [], .dat (partsD n x y z)] [m.T a] k kx := by
  unfold cMachineKernelOnly cwOf
  refine ⟨rfl, ?_⟩
  unfold wdMachineKernelOnly
  obtain ⟨hx, hy, hz, _, hz6, hz4⟩ := fits_bd hn.2 hf
  have ul := hm.usl
  have kl := hm.ksl
  have sl := hm.spl
  have hc : n = 20 ∨ n = 21 ∨ n = 22 ∨ n = 23 ∨ n = 24 ∨ n = 25 := by omega
  rcases hc with rfl | rfl | rfl | rfl | rfl | rfl
  · refine ⟨rfl, fun c => absurd c (by decide +kernel), fun _ => ⟨false, fun c => absurd c (by decide +kernel), fun c => absurd c (by decide +kernel), fun _ => ?_⟩⟩
    refine ⟨fun sl rt => sl = [some (.ref 0 []), some (.dat (partsD 20 x y z)), some (.dat (.str (opN 20))), some (.dat (.int x)), some (.dat (.int y)), some (.dat (.int z))] ∧ rt = [({ m with ks := m.ks.set x.toNat (m.us.getD y.toNat 0) } : MS).T a], ⟨fun _ => ?_, fun c => absurd c (by decide +kernel)⟩, ?_⟩
    · exact ⟨y.toNat, _, dL_ix m.us hy.1 (by omega), dL_at' m.us hy.1 (by omega), x.toNat, _, dL_ix m.ks hx.1 (by omega), dL_at' m.ks hx.1 (by omega), rfl, rfl, reg_T_k m a _ _⟩
    rintro _ _ ⟨rfl, rfl⟩
    refine cut_skip ⟨fun c => absurd c (by decide +kernel), fun _ => ⟨rfl, rfl⟩⟩ ?_
    refine cut_skip ⟨fun c => absurd c (by decide +kernel), fun _ => ⟨rfl, rfl⟩⟩ ?_
    refine cut_skip ⟨fun c => absurd c (by decide +kernel), fun _ => ⟨rfl, rfl⟩⟩ ?_
    exact ⟨rfl, spec_add _ _ _ _ h⟩
  · refine ⟨rfl, fun c => absurd c (by decide +kernel), fun _ => ⟨false, fun c => absurd c (by decide +kernel), fun c => absurd c (by decide +kernel), fun _ => ?_⟩⟩
    refine cut_skip ⟨fun c => absurd c (by decide +kernel), fun _ => ⟨rfl, rfl⟩⟩ ?_
    refine ⟨fun sl rt => sl = [some (.ref 0 []), some (.dat (partsD 21 x y z)), some (.dat (.str (opN 21))), some (.dat (.int x)), some (.dat (.int y)), some (.dat (.int z))] ∧ rt = [({ m with us := m.us.set x.toNat (m.ks.getD y.toNat 0) } : MS).T a], ⟨fun _ => ?_, fun c => absurd c (by decide +kernel)⟩, ?_⟩
    · exact ⟨y.toNat, _, dL_ix m.ks hy.1 (by omega), dL_at' m.ks hy.1 (by omega), x.toNat, _, dL_ix m.us hx.1 (by omega), dL_at' m.us hx.1 (by omega), rfl, rfl, reg_T_u m a _ _⟩
    rintro _ _ ⟨rfl, rfl⟩
    refine cut_skip ⟨fun c => absurd c (by decide +kernel), fun _ => ⟨rfl, rfl⟩⟩ ?_
    refine cut_skip ⟨fun c => absurd c (by decide +kernel), fun _ => ⟨rfl, rfl⟩⟩ ?_
    exact ⟨rfl, spec_add _ _ _ _ h⟩
  · refine ⟨rfl, fun c => absurd c (by decide +kernel), fun _ => ⟨false, fun c => absurd c (by decide +kernel), fun c => absurd c (by decide +kernel), fun _ => ?_⟩⟩
    refine cut_skip ⟨fun c => absurd c (by decide +kernel), fun _ => ⟨rfl, rfl⟩⟩ ?_
    refine cut_skip ⟨fun c => absurd c (by decide +kernel), fun _ => ⟨rfl, rfl⟩⟩ ?_
    have z6 := hz6 rfl
    refine ⟨fun sl rt => sl = [some (.ref 0 []), some (.dat (partsD 22 x y z)), some (.dat (.str (opN 22))), some (.dat (.int x)), some (.dat (.int y)), some (.dat (.int z))] ∧ rt = [({ m with ks := m.ks.set x.toNat (m.sp.getD z.toNat 0) } : MS).T a], ⟨fun _ => ?_, fun c => absurd c (by decide +kernel)⟩, ?_⟩
    · exact ⟨rfl, rfl, spec_special m hm ht a z ⟨hz.1, z6⟩ _ _ ⟨x.toNat, _, dL_ix m.ks hx.1 (by omega), dL_at' m.ks hx.1 (by omega), rfl, rfl, reg_T_k m a _ _⟩⟩
    rintro _ _ ⟨rfl, rfl⟩
    refine cut_skip ⟨fun c => absurd c (by decide +kernel), fun _ => ⟨rfl, rfl⟩⟩ ?_
    exact ⟨rfl, spec_add _ _ _ _ h⟩
  · refine ⟨rfl, fun c => absurd c (by decide +kernel), fun _ => ⟨false, fun c => absurd c (by decide +kernel), fun c => absurd c (by decide +kernel), fun _ => ?_⟩⟩
    refine cut_skip ⟨fun c => absurd c (by decide +kernel), fun _ => ⟨rfl, rfl⟩⟩ ?_
    refine cut_skip ⟨fun c => absurd c (by decide +kernel), fun _ => ⟨rfl, rfl⟩⟩ ?_
    refine cut_skip ⟨fun c => absurd c (by decide +kernel), fun _ => ⟨rfl, rfl⟩⟩ ?_
    have z4 := hz4 rfl
    refine ⟨fun sl rt => sl = [some (.ref 0 []), some (.dat (partsD 23 x y z)), some (.dat (.str (opN 23))), some (.dat (.int x)), some (.dat (.int y)), some (.dat (.int z))] ∧ rt = [({ m with sp := m.sp.set z.toNat (m.ks.getD x.toNat 0) } : MS).T a], ⟨fun _ => ?_, fun c => absurd c (by decide +kernel)⟩, ?_⟩
    · exact ⟨x.toNat, _, dL_ix m.ks hx.1 (by omega), dL_at' m.ks hx.1 (by omega), z.toNat, _, dL_ix m.sp hz.1 (by omega), dL_at' m.sp hz.1 (by omega), rfl, rfl, sp_T m a _ _⟩
    rintro _ _ ⟨rfl, rfl⟩
    exact ⟨rfl, spec_add _ _ _ _ h⟩
  · refine ⟨rfl, fun c => absurd c (by decide +kernel), fun _ => ⟨!decide ((m.tick + 1) % 65536 = m.sp.getD 4 0), fun _ => ⟨rfl, spec_wrap _ _ _ ⟨4, _, dL_ix m.sp (i := 4) (by decide) (by omega), dL_at m.sp 4 (by omega), rfl, rfl⟩⟩, fun c => ?_, fun c => ?_⟩⟩
    · have c : (true && !decide ((m.tick + 1) % 65536 = m.sp.getD 4 0)) = true := c
      have c : ¬ (m.tick + 1) % 65536 = m.sp.getD 4 0 := by simpa using c
      have e : m.konly 24 x y z = (m, m.pc) := by simp only [MS.konly, if_neg c]
      rw [e] at h
      exact h
    · have c : (true && !decide ((m.tick + 1) % 65536 = m.sp.getD 4 0)) = false := c
      have c : (m.tick + 1) % 65536 = m.sp.getD 4 0 := by simpa using c
      have e : m.konly 24 x y z = (m, (m.pc + 1) % 65536) := by simp only [MS.konly, if_pos c]
      rw [e] at h
      refine cut_skip ⟨fun c => absurd c (by decide +kernel), fun _ => ⟨rfl, rfl⟩⟩ ?_
      refine cut_skip ⟨fun c => absurd c (by decide +kernel), fun _ => ⟨rfl, rfl⟩⟩ ?_
      refine cut_skip ⟨fun c => absurd c (by decide +kernel), fun _ => ⟨rfl, rfl⟩⟩ ?_
      refine cut_skip ⟨fun c => absurd c (by decide +kernel), fun _ => ⟨rfl, rfl⟩⟩ ?_
      exact ⟨rfl, spec_add _ _ _ _ h⟩
  · refine ⟨rfl, fun _ => ?_, fun c => absurd c (by decide +kernel)⟩
    refine ⟨by show 12 < 900; decide, .inr ⟨_, _, rfl, rfl, rfl, ?_⟩⟩
    exact ⟨0, _, dL_ix m.sp (i := 0) (by decide) (by omega), dL_at m.sp 0 (by omega), h⟩
end K07
end

section
set_option linter.all false
set_option maxRecDepth 100000
set_option maxHeartbeats 1000000
set_option pp.deepTerms false
namespace K07
open PySem L2 Evl Wv

/-! ### one tick of the machine -/
def MS.enter (m : MS) (epc c v : Int) : MS := { m with sp := (((m.sp.set 0 epc).set 1 c).set 2 v).set 6 (m.tick % 65536), mode := "kernel", pc := 0 }
theorem spec_enter (m : MS) (hm : WF m) (a : Addr) (epc c v : Int) (k : T → Roots → Prop) (kx : Exn → Roots → Prop) (h : k (.dat .non) [(m.enter epc c v).T a]) :
    cMachineEnterKernel [.ref 0 [], .dat (.int epc), .dat (.int c), .dat (.int v)] [m.T a] k kx := by
  unfold cMachineEnterKernel cwOf
  refine ⟨rfl, ?_⟩
  unfold wdMachineEnterKernel
  have sl := hm.spl
  refine ⟨0, _, dL_ix m.sp (i := 0) (by decide) (by omega), dL_at m.sp 0 (by omega), rfl, ?_⟩
  refine tn (sl' := _) (rt' := [({ m with sp := m.sp.set 0 epc } : MS).T a]) rfl (sp_T m a 0 epc) ?_
  refine ⟨1, _, dL_ix (m.sp.set 0 epc) (i := 1) (by decide) (by rw [List.length_set]; omega), dL_at (m.sp.set 0 epc) 1 (by rw [List.length_set]; omega), rfl, ?_⟩
  refine tn (sl' := _) (rt' := [({ m with sp := (m.sp.set 0 epc).set 1 c } : MS).T a]) rfl (sp_T { m with sp := m.sp.set 0 epc } a 1 c) ?_
  refine ⟨2, _, dL_ix ((m.sp.set 0 epc).set 1 c) (i := 2) (by decide) (by rw [List.length_set, List.length_set]; omega), dL_at ((m.sp.set 0 epc).set 1 c) 2 (by rw [List.length_set, List.length_set]; omega), rfl, ?_⟩
  refine tn (sl' := _) (rt' := [({ m with sp := ((m.sp.set 0 epc).set 1 c).set 2 v } : MS).T a]) rfl (sp_T { m with sp := (m.sp.set 0 epc).set 1 c } a 2 v) ?_
  refine ⟨rfl, spec_wrap _ _ _ ?_⟩
  refine ⟨6, _, dL_ix (((m.sp.set 0 epc).set 1 c).set 2 v) (i := 6) (by decide) (by rw [List.length_set, List.length_set, List.length_set]; omega), dL_at (((m.sp.set 0 epc).set 1 c).set 2 v) 6 (by rw [List.length_set, List.length_set, List.length_set]; omega), rfl, ?_⟩
  refine tn (sl' := _) (rt' := [({ m with sp := (((m.sp.set 0 epc).set 1 c).set 2 v).set 6 (m.tick % 65536) } : MS).T a]) rfl (sp_T { m with sp := ((m.sp.set 0 epc).set 1 c).set 2 v } a 6 _) ?_
  exact ⟨by show 12 < 900; decide, .inr ⟨_, _, rfl, rfl, rfl, by show 12 < 900; decide, .inr ⟨_, _, rfl, rfl, rfl, h⟩⟩⟩
def MS.tickU (m : MS) : MS := if m.tick % 65536 = m.sp.getD 4 0 then m.enter m.pc 6 0 else
  match m.stepU with
  | .nx m' p => { m' with pc := p }
  | .tr c v => m.enter (if c = 3 then (m.pc + 1) % 65536 else m.pc) c v
theorem spec_utick (m : MS) (hm : WF m) (a : Addr) (k : T → Roots → Prop) (kx : Exn → Roots → Prop) (h : k (.dat .non) [m.tickU.T a]) : cMachineUserTick [.ref 0 []] [m.T a] k kx := by
  unfold cMachineUserTick cwOf
  refine ⟨rfl, ?_⟩
  unfold wdMachineUserTick
  have sl := hm.spl
  unfold MS.tickU at h
  refine ⟨rfl, spec_wrap _ _ _ ⟨4, _, dL_ix m.sp (i := 4) (by decide) (by omega), dL_at m.sp 4 (by omega), fun c => ?_, fun c => ?_⟩⟩
  · have c : decide (m.tick % 65536 = m.sp.getD 4 0) = true := c
    rw [if_pos (of_decide_eq_true c)] at h
    exact ⟨rfl, rfl, spec_enter m hm a _ _ _ _ _ h⟩
  · have c : decide (m.tick % 65536 = m.sp.getD 4 0) = false := c
    rw [if_neg (of_decide_eq_false c)] at h
    refine ⟨rfl, spec_ustep m hm a _ _ ?_⟩
    cases hs : m.stepU with
    | nx m' p =>
      rw [hs] at h
      exact ⟨by show 12 < 900; decide, .inr ⟨_, _, rfl, rfl, rfl, h⟩⟩
    | tr cc v =>
      rw [hs] at h
      refine ⟨rfl, fun e dd => ?_⟩
      refine ⟨fun sl rt => sl = [some (.ref 0 []), some (.dat (.exn e dd 1 [.int v, .int cc])), some (.dat (.int (if cc = 3 then (m.pc + 1) % 65536 else m.pc)))] ∧ rt = [m.T a], ⟨_, .int cc, rfl, rfl, fun z => ?_, fun z => ?_⟩, ?_⟩
      · have z : decide (cc = 3) = true := z
        have z := of_decide_eq_true z
        refine ⟨rfl, spec_add _ _ _ _ ⟨?_, rfl⟩⟩
        rw [if_pos z]
        rfl
      · have z : decide (cc = 3) = false := z
        have z := of_decide_eq_false z
        refine ⟨?_, rfl⟩
        rw [if_neg z]
        rfl
      · rintro _ _ ⟨rfl, rfl⟩
        refine ⟨rfl, _, .int cc, rfl, rfl, _, .int v, rfl, rfl, rfl, ?_⟩
        exact spec_enter m hm a _ _ _ _ _ h
def MS.stepK (m : MS) : Option MS := match m.ix true m.pc 4 with
  | none => none
  | some i => if legal (m.mem.getD i.toNat 0) = true then (if fop (m.mem.getD i.toNat 0) < 20 then (match m.doM true (fop (m.mem.getD i.toNat 0)) (fa (m.mem.getD i.toNat 0)) (fb (m.mem.getD i.toNat 0)) (fc (m.mem.getD i.toNat 0)) with
      | .nx m' p => some { m' with pc := p }
      | .tr _ _ => none)
    else some { (m.konly (fop (m.mem.getD i.toNat 0)) (fa (m.mem.getD i.toNat 0)) (fb (m.mem.getD i.toNat 0)) (fc (m.mem.getD i.toNat 0))).1 with pc := (m.konly (fop (m.mem.getD i.toNat 0)) (fa (m.mem.getD i.toNat 0)) (fb (m.mem.getD i.toNat 0)) (fc (m.mem.getD i.toNat 0))).2 }) else none
def MS.tickK (m : MS) : MS := m.stepK.getD { m with mode := "broken" }
theorem brk_T (m : MS) (a : Addr) : [T.nm a (.obj 5 ((m.ts a).set 3 (.dat (.str "broken"))))] = [({ m with mode := "broken" } : MS).T a] := rfl
theorem spec_ktick (m : MS) (hm : WF m) (ht : m.sp.getD 5 0 = m.tick % 65536) (a : Addr) (k : T → Roots → Prop) (kx : Exn → Roots → Prop) (h : k (.dat .non) [m.tickK.T a]) : cMachineKernelTick [.ref 0 []] [m.T a] k kx := by
  unfold cMachineKernelTick cwOf
  refine ⟨rfl, ?_⟩
  unfold wdMachineKernelTick
  unfold MS.tickK MS.stepK at h
  refine ⟨rfl, spec_fetch m hm true a _ hm.pc.1 _ _ ?_⟩
  cases hi : m.ix true m.pc 4 with
  | none =>
    rw [hi] at h
    exact ⟨rfl, by show 12 < 900; decide, .inr ⟨_, _, rfl, rfl, rfl, h⟩⟩
  | some i =>
    rw [hi] at h
    obtain ⟨i0, i1⟩ := ix_bd hm hm.pc.1 hi
    have ww := hm.mem.get i.toNat
    refine ⟨rfl, spec_decode _ ww.1 _ _ ?_⟩
    cases hl : legal (m.mem.getD i.toNat 0) with
    | false =>
      have e : decD (m.mem.getD i.toNat 0) = .non := by
        unfold decD
        rw [if_neg (by rw [hl]; decide)]
      rw [e]
      dsimp only at h
      rw [if_neg (by rw [hl]; decide)] at h
      exact ⟨fun _ => ⟨by show 12 < 900; decide, .inr ⟨_, _, rfl, rfl, rfl, h⟩⟩, fun z => (nomatch z)⟩
    | true =>
      obtain ⟨h26, hf⟩ := legal_lt hl
      have e : decD (m.mem.getD i.toNat 0) = partsD (fop (m.mem.getD i.toNat 0)) (fa (m.mem.getD i.toNat 0)) (fb (m.mem.getD i.toNat 0)) (fc (m.mem.getD i.toNat 0)) := by
        unfold decD
        rw [if_pos hl]
      rw [e]
      dsimp only at h
      rw [if_pos hl] at h
      refine ⟨fun z => (nomatch z), fun _ => ⟨.str (opN (fop (m.mem.getD i.toNat 0))), rfl, rfl, rfl, fun z => ?_, fun z => ?_⟩⟩
      · have z : inV (V.str (opN (fop (m.mem.getD i.toNat 0)))) [V.str "getu", V.str "putu", V.str "gets", V.str "puts", V.str "until", V.str "rest"] = true := z
        rw [ko_at _ h26] at z
        have z := of_decide_eq_true z
        rw [if_neg (by omega)] at h
        refine ⟨rfl, rfl, spec_konly m hm ht a _ ⟨z, h26⟩ _ _ _ hf _ _ ?_⟩
        exact ⟨by show 12 < 900; decide, .inr ⟨_, _, rfl, rfl, rfl, h⟩⟩
      · have z : inV (V.str (opN (fop (m.mem.getD i.toNat 0)))) [V.str "getu", V.str "putu", V.str "gets", V.str "puts", V.str "until", V.str "rest"] = false := z
        rw [ko_at _ h26] at z
        have z := of_decide_eq_false z
        have z : fop (m.mem.getD i.toNat 0) < 20 := by omega
        rw [if_pos z] at h
        refine ⟨rfl, spec_carry m hm true a _ z _ _ _ hf _ _ ?_⟩
        cases hd : m.doM true (fop (m.mem.getD i.toNat 0)) (fa (m.mem.getD i.toNat 0)) (fb (m.mem.getD i.toNat 0)) (fc (m.mem.getD i.toNat 0)) with
        | nx m' p =>
          rw [hd] at h
          exact ⟨by show 12 < 900; decide, .inr ⟨_, _, rfl, rfl, rfl, h⟩⟩
        | tr c v =>
          rw [hd] at h
          exact ⟨rfl, by show 12 < 900; decide, .inr ⟨_, _, rfl, rfl, rfl, h⟩⟩
/-! ### inputs -/
def wr (mem : List Int) (ring word : Int) : List Int := (mem.set (ring + 2 + mem.getD ring.toNat 0 % 14).toNat word).set ring.toNat ((mem.getD ring.toNat 0 + 1) % 65536)
theorem wr_len (mem : List Int) (ring word : Int) : (wr mem ring word).length = mem.length := by simp [wr]
theorem wr_ws {mem : List Int} {ring word : Int} (h : Ws mem) (hw : W word) : Ws (wr mem ring word) := (h.set _ hw).set _ (W.mod _)
theorem spec_wi (m : MS) (a : Addr) (ring word : Int) (h0 : 0 ≤ ring) (h1 : ring + 16 ≤ m.mem.length) (k : T → Roots → Prop) (kx) (hk : k (.dat .non) [({ m with mem := wr m.mem ring word } : MS).T a]) :
    cWriteInput [.ref 0 [0], .dat (.int ring), .dat (.int word)] [m.T a] k kx := by
  unfold cWriteInput cwOf
  refine ⟨rfl, ?_⟩
  unfold wdWriteInput
  have c0 : 0 ≤ m.mem.getD ring.toNat 0 % 14 := Int.emod_nonneg _ (by decide)
  have c1 : m.mem.getD ring.toNat 0 % 14 < 14 := Int.emod_lt_of_pos _ (by decide)
  refine ⟨ring.toNat, _, dL_ix m.mem h0 (by omega), dL_at' m.mem h0 (by omega), ?_⟩
  refine ⟨(by show (0 : Int) < 14; decide), (ring + 2 + m.mem.getD ring.toNat 0 % 14).toNat, _, dL_ix m.mem (by omega) (by omega), dL_at' m.mem (by omega) (by omega), rfl, ?_⟩
  refine tn (sl' := _) (rt' := [({ m with mem := m.mem.set (ring + 2 + m.mem.getD ring.toNat 0 % 14).toNat word } : MS).T a]) rfl (mem_T m a _ _) ?_
  refine ⟨rfl, spec_add _ _ _ _ ?_⟩
  refine ⟨ring.toNat, _, dL_ix (m.mem.set (ring + 2 + m.mem.getD ring.toNat 0 % 14).toNat word) h0 (by rw [List.length_set]; omega), dL_at' (m.mem.set (ring + 2 + m.mem.getD ring.toNat 0 % 14).toNat word) h0 (by rw [List.length_set]; omega), rfl, ?_⟩
  exact tn (sl' := _) (rt' := _) rfl (mem_T { m with mem := m.mem.set (ring + 2 + m.mem.getD ring.toNat 0 % 14).toNat word } a _ _) hk
/-- the inputs whose time has come -/
def takeL (rings : List Int) (tick : Int) : List In3 → List Int → Nat → List Int × Nat
  | [], mem, g => (mem, g)
  | i :: r, mem, g => if i.1 ≤ tick then takeL rings tick r (if i.1 = tick then wr mem (rings.getD i.2.1.toNat 0) i.2.2 else mem) (g + 1) else (mem, g)
def MS.take (m : MS) : MS := { m with mem := (takeL m.rings m.tick (m.ins.drop m.given.toNat) m.mem m.given.toNat).1, given := ((takeL m.rings m.tick (m.ins.drop m.given.toNat) m.mem m.given.toNat).2 : Nat) }
theorem takeL_at {rings : List Int} {tick : Int} {ins : List In3} {j : Nat} {mem : List Int} {x : In3} (hx : ins[j]? = some x) (hc : x.1 ≤ tick) :
    takeL rings tick (ins.drop j) mem j = takeL rings tick (ins.drop (j + 1)) (if x.1 = tick then wr mem (rings.getD x.2.1.toNat 0) x.2.2 else mem) (j + 1) := by
  have h := (List.getElem?_eq_some_iff.mp hx)
  obtain ⟨hl, e⟩ := h
  rw [List.drop_eq_getElem_cons hl, e]
  show (if x.1 ≤ tick then _ else _) = _
  rw [if_pos hc]
theorem takeL_end {rings : List Int} {tick : Int} {ins : List In3} {j : Nat} {mem : List Int} (h : ∀ x, ins[j]? = some x → ¬ x.1 ≤ tick) : takeL rings tick (ins.drop j) mem j = (mem, j) := by
  by_cases hl : j < ins.length
  · rw [List.drop_eq_getElem_cons hl]
    show (if (ins[j]).1 ≤ tick then _ else _) = _
    rw [if_neg (h _ (List.getElem?_eq_getElem hl))]
  · rw [List.drop_of_length_le (by omega)]
    rfl
theorem in_at (ins : List In3) {j : Nat} {x : In3} (h : ins[j]? = some x) : (ins.map fun i => T.dat (inD i))[j]? = some (.dat (inD x)) := by
  rw [List.getElem?_map, h]
  rfl
theorem spec_take (m : MS) (hm : WF m) (a : Addr) (k : T → Roots → Prop) (kx) (hk : k (.dat .non) [m.take.T a]) : cMachineTakeInputs [.ref 0 []] [m.T a] k kx := by
  unfold cMachineTakeInputs cwOf
  refine ⟨rfl, ?_⟩
  unfold wdMachineTakeInputs
  have g0 := hm.given
  have gl := hm.gl
  have hgt : ((m.given.toNat : Nat) : Int) = m.given := Int.toNat_of_nonneg g0
  refine ⟨fun e sl rt => ∃ (j : Nat) (mem : List Int) (x1 x2 x3 : Option Val), e = m.ins.length - j ∧ j ≤ m.ins.length ∧ sl = [some (.ref 0 []), x1, x2, x3] ∧ rt = [({ m with mem := mem, given := (j : Nat) } : MS).T a] ∧ mem.length = m.mem.length ∧
    takeL m.rings m.tick (m.ins.drop j) mem j = takeL m.rings m.tick (m.ins.drop m.given.toNat) m.mem m.given.toNat, ⟨_, m.given.toNat, m.mem, none, none, none, rfl, by omega, rfl, ?_, rfl, rfl⟩, ?_⟩
  · rw [hgt]
  rintro e _ _ ⟨j, mem, x1, x2, x3, rfl, hj, rfl, rfl, hml, ht⟩
  have hlen : ((m.ins.map fun i => T.dat (inD i)).length : Int) = m.ins.length := by simp
  have hat : ∀ x, m.ins[j]? = some x → ixN (m.ins.map fun i => T.dat (inD i)).length (j : Int) = some j := fun x hx => by
    have := (List.getElem?_eq_some_iff.mp hx).1
    exact ix_nat (by omega) (by rw [List.length_map]; omega)
  refine ⟨(match m.ins[j]? with | some x => decide (x.1 ≤ m.tick) | none => false), fun hb => ?_, fun hb => ?_, fun hb => ?_⟩
  · have hb : decide ((j : Int) < ((m.ins.map fun i => T.dat (inD i)).length : Int)) = true := hb
    rw [hlen] at hb
    have hb := of_decide_eq_true hb
    obtain ⟨x, hx⟩ : ∃ x, m.ins[j]? = some x := ⟨_, List.getElem?_eq_getElem (by omega)⟩
    rw [hx]
    exact ⟨j, .dat (inD x), hat x hx, in_at _ hx, .int x.1, rfl, rfl, rfl⟩
  · have hb : (decide ((j : Int) < ((m.ins.map fun i => T.dat (inD i)).length : Int)) && (match m.ins[j]? with | some x => decide (x.1 ≤ m.tick) | none => false)) = true := hb
    rw [Bool.and_eq_true, hlen] at hb
    have hb1 := of_decide_eq_true hb.1
    obtain ⟨⟨t, d, w⟩, hx⟩ : ∃ x, m.ins[j]? = some x := ⟨_, List.getElem?_eq_getElem (by omega)⟩
    have hb2 := hb.2
    rw [hx] at hb2
    have htT : t ≤ m.tick := of_decide_eq_true hb2
    have hxm := List.mem_of_getElem? hx
    obtain ⟨hd, hw⟩ := hm.ins _ hxm
    have hd : 0 ≤ d ∧ d < (m.rings.length : Int) := hd
    have hr : m.rings.getD d.toNat 0 ∈ m.rings := by
      have : d.toNat < m.rings.length := by omega
      rw [List.getD_eq_getElem?_getD, List.getElem?_eq_getElem this]
      exact List.getElem_mem this
    obtain ⟨r0, r1⟩ := hm.rg _ hr
    refine ⟨j, .dat (inD (t, d, w)), hat _ hx, in_at _ hx, rfl, ?_⟩
    refine ⟨fun sl rt => sl = [some (.ref 0 []), some (.dat (.int t)), some (.dat (.int d)), some (.dat (.int w))] ∧ rt = [({ m with mem := (if t = m.tick then wr mem (m.rings.getD d.toNat 0) w else mem), given := (j : Nat) } : MS).T a], ⟨fun h => ?_, fun h => ?_⟩, ?_⟩
    · have h : decide (t = m.tick) = true := h
      have h := of_decide_eq_true h
      refine ⟨d.toNat, _, dL_ix m.rings hd.1 hd.2, dL_at' m.rings hd.1 hd.2, rfl, ?_⟩
      refine spec_wi ({ m with mem := mem, given := (j : Nat) } : MS) a (m.rings.getD d.toNat 0) w r0 (by show _ ≤ ((mem.length : Nat) : Int); rw [hml]; exact r1) _ _ ⟨rfl, ?_⟩
      rw [if_pos h]
      rfl
    · have h : decide (t = m.tick) = false := h
      have h := of_decide_eq_false h
      refine ⟨rfl, ?_⟩
      rw [if_neg h]
    · rintro _ _ ⟨rfl, rfl⟩
      refine ⟨(j : Int), rfl, by show 12 < 900; decide, rfl, 1, rfl, .inl ⟨m.ins.length - (j + 1), by omega, j + 1, _, _, _, _, rfl, by omega, rfl, rfl, ?_, ?_⟩⟩
      · split
        · rw [wr_len]; exact hml
        · exact hml
      · rw [← ht, takeL_at hx htT]
  · have hb : (decide ((j : Int) < ((m.ins.map fun i => T.dat (inD i)).length : Int)) && (match m.ins[j]? with | some x => decide (x.1 ≤ m.tick) | none => false)) = false := hb
    rw [hlen] at hb
    have he : takeL m.rings m.tick (m.ins.drop j) mem j = (mem, j) := takeL_end fun x hx hc => by
      rw [hx] at hb
      have : decide ((j : Int) < (m.ins.length : Int)) = true := decide_eq_true (by have := (List.getElem?_eq_some_iff.mp hx).1; omega)
      rw [this] at hb
      have hb : (true && decide (x.1 ≤ m.tick)) = false := hb
      rw [decide_eq_true hc] at hb
      cases hb
    rw [he] at ht
    have e : m.take = ({ m with mem := mem, given := (j : Nat) } : MS) := by
      unfold MS.take
      rw [← ht]
    rw [e] at hk
    exact hk
end K07
end

section
set_option linter.all false
set_option maxRecDepth 100000
set_option maxHeartbeats 1000000
set_option pp.deepTerms false
namespace K07
open PySem L2 Evl Wv

/-! ### what stays well formed -/
theorem takeL_ok {rings : List Int} {tick : Int} {n : Nat} (N : Nat) (hr : ∀ r ∈ rings, 0 ≤ r ∧ r + 16 ≤ N) : ∀ {l : List In3} {mem : List Int} {g : Nat}, (∀ i ∈ l, (0 ≤ i.2.1 ∧ i.2.1 < rings.length) ∧ W i.2.2) → Ws mem → mem.length = N →
    Ws (takeL rings tick l mem g).1 ∧ (takeL rings tick l mem g).1.length = N ∧ g ≤ (takeL rings tick l mem g).2 ∧ (takeL rings tick l mem g).2 ≤ g + l.length
  | [], mem, g, _, h, hl => ⟨h, hl, Nat.le_refl _, Nat.le_refl _⟩
  | i :: r, mem, g, hi, h, hl => by
    unfold takeL
    split
    · obtain ⟨h1, h2, h3, h4⟩ := takeL_ok (n := n) (tick := tick) N hr (l := r) (mem := if i.1 = tick then wr mem (rings.getD i.2.1.toNat 0) i.2.2 else mem) (g := g + 1) (fun x hx => hi x (List.mem_cons_of_mem _ hx))
        (by split
            · exact wr_ws h (hi i List.mem_cons_self).2
            · exact h) (by split
                           · rw [wr_len]; exact hl
                           · exact hl)
      exact ⟨h1, h2, by omega, by rw [List.length_cons]; omega⟩
    · exact ⟨h, hl, Nat.le_refl _, by omega⟩
theorem WF.take {m : MS} (h : WF m) : WF m.take := by
  have g0 := h.given
  have gl := h.gl
  obtain ⟨h1, h2, h3, h4⟩ := takeL_ok (n := 0) (rings := m.rings) (tick := m.tick) m.mem.length (by intro r hr; have := h.rg r hr; exact ⟨this.1, by omega⟩) (l := m.ins.drop m.given.toNat) (mem := m.mem) (g := m.given.toNat) (fun i hi => h.ins i (List.mem_of_mem_drop hi)) h.mem rfl
  rw [List.length_drop] at h4
  exact { mem := h1, us := h.us, ks := h.ks, sp := h.sp, usl := h.usl, ksl := h.ksl, spl := h.spl, pc := h.pc, ml := by show (takeL _ _ _ _ _).1.length ≤ 1000; rw [h2]; exact h.ml,
          rg := fun r hr => by show 0 ≤ r ∧ r + 16 ≤ ((takeL _ _ _ _ _).1.length : Int); rw [h2]; exact h.rg r hr, ins := h.ins, given := by show (0 : Int) ≤ ((takeL _ _ _ _ _).2 : Nat); omega,
          gl := by show ((takeL _ _ _ _ _).2 : Int) ≤ m.ins.length; omega }
/-! ### one step -/
def MS.next (m : MS) : MS := if m.mode = "broken" then m else { m with tick := m.tick + 1, sp := m.sp.set 5 ((m.tick + 1) % 65536) }
def MS.step (m : MS) : MS := if m.mode = "broken" then m else MS.next (if m.mode = "user" then m.take.tickU else m.take.tickK)
theorem enter_spl (m : MS) (a b c : Int) : (m.enter a b c).sp.length = m.sp.length := by simp [MS.enter]
theorem doM_spl {m m' : MS} {b : Bool} {n : Nat} {x y z p : Int} (h : m.doM b n x y z = .nx m' p) : m'.sp = m.sp ∧ m'.mode = m.mode ∧ m'.tick = m.tick ∧ m'.ins = m.ins ∧ m'.rings = m.rings ∧ m'.given = m.given ∧ m'.mem.length = m.mem.length := by
  have S : ∀ l, (m.setR b l).sp = m.sp ∧ (m.setR b l).mode = m.mode ∧ (m.setR b l).tick = m.tick ∧ (m.setR b l).ins = m.ins ∧ (m.setR b l).rings = m.rings ∧ (m.setR b l).given = m.given ∧ (m.setR b l).mem.length = m.mem.length := fun l => by
    cases b <;> exact ⟨rfl, rfl, rfl, rfl, rfl, rfl, rfl⟩
  unfold MS.doM at h
  split at h
  all_goals first
    | (cases h; exact S _)
    | (cases h; exact ⟨rfl, rfl, rfl, rfl, rfl, rfl, rfl⟩)
    | cases h
    | (split at h
       all_goals first
         | (cases h; exact S _)
         | (cases h; exact ⟨rfl, rfl, rfl, rfl, rfl, rfl, by simp⟩)
         | cases h)
theorem stepU_spl {m m' : MS} {p : Int} (h : m.stepU = .nx m' p) : m'.sp = m.sp ∧ m'.mode = m.mode ∧ m'.tick = m.tick ∧ m'.ins = m.ins ∧ m'.rings = m.rings ∧ m'.given = m.given ∧ m'.mem.length = m.mem.length := by
  unfold MS.stepU at h
  split at h
  · cases h
  · split at h
    · exact doM_spl h
    · cases h
theorem tickU_spl (m : MS) : m.tickU.sp.length = m.sp.length := by
  unfold MS.tickU
  split
  · exact enter_spl _ _ _ _
  · split
    · rename_i h
      exact congrArg List.length (stepU_spl h).1
    · exact enter_spl _ _ _ _
theorem konly_spl (m : MS) (n : Nat) (x y z : Int) : (m.konly n x y z).1.sp.length = m.sp.length := by
  unfold MS.konly
  split <;> simp
theorem tickK_spl (m : MS) : m.tickK.sp.length = m.sp.length := by
  unfold MS.tickK MS.stepK
  split
  · rfl
  · split
    · split
      · split
        · rename_i h
          exact congrArg List.length (doM_spl h).1
        · rfl
      · exact konly_spl _ _ _ _ _
    · rfl
theorem next_T (m : MS) (a : Addr) (v : Int) : [T.nm a (.obj 5 [dL m.mem, dL m.rings, .lst (m.ins.map fun i => T.dat (inD i)), .dat (.str m.mode), .dat (.int m.pc), dL m.us, dL m.ks, T.lst ((m.sp.map fun i => T.dat (.int i)).set 5 (.dat (.int v))), .dat (.int (m.tick + 1)), .dat (.int m.given), .dat (kvD a), .dat (uvD a)])] = [({ m with tick := m.tick + 1, sp := m.sp.set 5 v } : MS).T a] := by
  rw [dL_set]
  rfl
theorem spec_step (m : MS) (hm : WF m) (ht : m.sp.getD 5 0 = m.tick % 65536) (a : Addr) (k : T → Roots → Prop) (kx : Exn → Roots → Prop) (h : k (.dat .non) [m.step.T a]) : cMachineStep [.ref 0 []] [m.T a] k kx := by
  unfold cMachineStep cwOf
  refine ⟨rfl, ?_⟩
  unfold wdMachineStep
  unfold MS.step at h
  have hs : (D.sc (.str m.mode) (.str "broken")) = some (decide (m.mode = "broken")) := rfl
  refine ⟨fun c => ?_, fun c => ?_⟩
  · have c : decide (m.mode = "broken") = true := c
    rw [if_pos (of_decide_eq_true c)] at h
    exact h
  have c : decide (m.mode = "broken") = false := c
  rw [if_neg (of_decide_eq_false c)] at h
  have hm1 := hm.take
  have ht1 : m.take.sp.getD 5 0 = m.take.tick % 65536 := ht
  refine ⟨rfl, rfl, spec_take m hm a _ _ ?_⟩
  refine ⟨fun sl rt => sl = [some (.ref 0 [])] ∧ rt = [(if m.mode = "user" then m.take.tickU else m.take.tickK).T a], ⟨fun q => ?_, fun q => ?_⟩, ?_⟩
  · have q : decide (m.mode = "user") = true := q
    rw [if_pos (of_decide_eq_true q)]
    exact ⟨rfl, rfl, spec_utick m.take hm1 a _ _ ⟨rfl, rfl⟩⟩
  · have q : decide (m.mode = "user") = false := q
    rw [if_neg (of_decide_eq_false q)]
    exact ⟨rfl, rfl, spec_ktick m.take hm1 ht1 a _ _ ⟨rfl, rfl⟩⟩
  rintro _ _ ⟨rfl, rfl⟩
  have sl : (if m.mode = "user" then m.take.tickU else m.take.tickK).sp.length = 7 := by
    split
    · rw [tickU_spl]; exact hm.spl
    · rw [tickK_spl]; exact hm.spl
  generalize (if m.mode = "user" then m.take.tickU else m.take.tickK) = n at *
  unfold MS.next at h
  refine ⟨fun q => ?_, fun q => ?_⟩
  · have q : (!decide (n.mode = "broken")) = true := q
    have q : ¬ n.mode = "broken" := by simpa using q
    rw [if_neg q] at h
    refine ⟨n.tick, rfl, by show 12 < 900; decide, rfl, 1, rfl, ?_⟩
    refine ⟨rfl, spec_wrap _ _ _ ?_⟩
    refine ⟨5, _, dL_ix n.sp (i := 5) (by decide) (by omega), dL_at n.sp 5 (by omega), rfl, ?_⟩
    exact tn (sl' := _) (rt' := _) rfl (next_T n a _) h
  · have q : (!decide (n.mode = "broken")) = false := q
    have q : n.mode = "broken" := by simpa using q
    rw [if_pos q] at h
    exact h
/-! ### its state; a machine taken up from one -/
def MS.stD (m : MS) : D := .tup [.str m.mode, .int m.pc, .tup [.tup (dints m.us), .tup (dints m.ks), .tup (dints m.sp)], .int m.tick, .int m.given, .tup (dints m.mem)]
theorem dats_ints (l : List Int) : (dints l).map T.dat = l.map fun i => T.dat (.int i) := by simp [dints]
theorem dats_in (l : List In3) : (l.map inD).map T.dat = l.map fun i => T.dat (inD i) := by simp
theorem seq_dL {rt : Roots} {r : Nat} {p : List Nat} {l : List Int} (h : tat rt r p = some (dL l)) : seqOf (.ref r p) rt = some (dints l) := by
  show (match tat rt r p with | some (.lst ts) => dats ts | _ => none) = _
  rw [h]
  show dats (l.map fun i => T.dat (.int i)) = _
  rw [← dats_ints, map_dats]
theorem seq_in {rt : Roots} {r : Nat} {p : List Nat} {l : List In3} (h : tat rt r p = some (.lst (l.map fun i => T.dat (inD i)))) : seqOf (.ref r p) rt = some (l.map inD) := by
  show (match tat rt r p with | some (.lst ts) => dats ts | _ => none) = _
  rw [h]
  show dats (l.map fun i => T.dat (inD i)) = _
  rw [← dats_in, map_dats]
theorem spec_state (m : MS) (a : Addr) (k : T → Roots → Prop) (kx : Exn → Roots → Prop) (h : k (.dat m.stD) [m.T a]) : cMachineState [.ref 0 []] [m.T a] k kx := by
  unfold cMachineState cwOf
  refine ⟨rfl, ?_⟩
  unfold wdMachineState
  refine ⟨dints m.us, seq_dL rfl, ?_⟩
  refine ⟨dints m.ks, seq_dL rfl, ?_⟩
  refine ⟨dints m.sp, seq_dL rfl, ?_⟩
  refine ⟨by show 3 ≤ 1000; decide, ?_⟩
  refine ⟨dints m.mem, seq_dL rfl, ?_⟩
  exact ⟨by show 6 ≤ 1000; decide, h⟩
theorem spec_kvinit (x : Addr) (ts : List T) (k : T → Roots → Prop) (kx) (hk : k (.dat .non) [.obj 3 [.dat (.cst (.ref x))], .nm x (.obj 5 ts)]) : cKernelViewInit [.ref 0 [], .ref 1 []] [.obj 3 [], .nm x (.obj 5 ts)] k kx := by
  unfold cKernelViewInit cwOf
  refine ⟨rfl, ?_⟩
  unfold wdKernelViewInit
  exact ⟨by show 0 < 900; decide, .inl ⟨rfl, hk⟩⟩
theorem spec_uvinit (x : Addr) (ts : List T) (k : T → Roots → Prop) (kx) (hk : k (.dat .non) [.obj 4 [.dat (.cst (.ref x))], .nm x (.obj 5 ts)]) : cUserViewInit [.ref 0 [], .ref 1 []] [.obj 4 [], .nm x (.obj 5 ts)] k kx := by
  unfold cUserViewInit cwOf
  refine ⟨rfl, ?_⟩
  unfold wdUserViewInit
  exact ⟨by show 0 < 900; decide, .inl ⟨rfl, hk⟩⟩
def z0 (n : Nat) : List D := List.replicate n (.int 0)
def initT (x : Addr) (mem rings ins : List D) : T := .nm x (.obj 5 [.lst (mem.map .dat), .lst (rings.map .dat), .lst (ins.map .dat), .dat (.str "kernel"), .dat (.int 0), .dat (.fzl (z0 8)), .dat (.fzl (z0 8)), .dat (.fzl (z0 7)), .dat (.int 0), .dat (.int 0), .dat (kvD x), .dat (uvD x)])
theorem spec_minit (x : Addr) (mem rings ins : List D) (k : T → Roots → Prop) (kx) (hk : k (.dat .non) [initT x mem rings ins]) :
    cMachineInit [.ref 0 [], .dat (.tup mem), .dat (.lst rings), .dat (.lst ins)] [.nm x (.obj 5 [])] k kx := by
  unfold cMachineInit cwOf
  refine ⟨rfl, ?_⟩
  unfold wdMachineInit
  refine ⟨mem, rfl, by show 0 < 900; decide, .inl ⟨rfl, rings, rfl, by show 1 < 900; decide, .inl ⟨rfl, ins, rfl, by show 2 < 900; decide, .inl ⟨rfl, ?_⟩⟩⟩⟩
  refine tn (sl' := [some (.ref 0 []), some (.dat (.tup mem)), some (.dat (.lst rings)), some (.dat (.lst ins))]) (rt' := [.nm x (.obj 5 [.lst (mem.map .dat), .lst (rings.map .dat), .lst (ins.map .dat)])]) rfl rfl ?_
  refine ⟨by show 3 < 900; decide, .inl ⟨rfl, by show 4 < 900; decide, .inl ⟨rfl, ?_⟩⟩⟩
  refine ⟨by show 1 ≤ 1000; decide, ⟨by decide, by decide⟩, by show 1 * 8 ≤ 100000; decide, by show 5 < 900; decide, .inl ⟨rfl, ?_⟩⟩
  refine ⟨by show 1 ≤ 1000; decide, ⟨by decide, by decide⟩, by show 1 * 8 ≤ 100000; decide, by show 6 < 900; decide, .inl ⟨rfl, ?_⟩⟩
  refine ⟨by show 1 ≤ 1000; decide, ⟨by decide, by decide⟩, by show 1 * 7 ≤ 100000; decide, by show 7 < 900; decide, .inl ⟨rfl, ?_⟩⟩
  refine ⟨by show 8 < 900; decide, .inl ⟨rfl, by show 9 < 900; decide, .inl ⟨rfl, ?_⟩⟩⟩
  refine tn (sl' := [some (.ref 0 []), some (.dat (.tup mem)), some (.dat (.lst rings)), some (.dat (.lst ins))]) (rt' := [.nm x (.obj 5 [.lst (mem.map .dat), .lst (rings.map .dat), .lst (ins.map .dat), .dat (.str "kernel"), .dat (.int 0), .dat (.fzl (z0 8)), .dat (.fzl (z0 8)), .dat (.fzl (z0 7)), .dat (.int 0), .dat (.int 0)])]) rfl rfl ?_
  refine ⟨rfl, spec_kvinit x _ _ _ ⟨rfl, by show 10 < 900; decide, .inl ⟨rfl, ?_⟩⟩⟩
  refine tn (sl' := [some (.ref 0 []), some (.dat (.tup mem)), some (.dat (.lst rings)), some (.dat (.lst ins))]) (rt' := [.nm x (.obj 5 [.lst (mem.map .dat), .lst (rings.map .dat), .lst (ins.map .dat), .dat (.str "kernel"), .dat (.int 0), .dat (.fzl (z0 8)), .dat (.fzl (z0 8)), .dat (.fzl (z0 7)), .dat (.int 0), .dat (.int 0), .dat (kvD x)])]) rfl rfl ?_
  exact ⟨rfl, spec_uvinit x _ _ _ ⟨rfl, by show 11 < 900; decide, .inl ⟨rfl, hk⟩⟩⟩
theorem spec_resumed (m : MS) (k : T → Roots → Prop) (kx : Exn → Roots → Prop) (hk : ∀ x, k (m.T x) []) :
    cResumed [.dat m.stD, .dat (.lst (dints m.rings)), .dat (.lst (m.ins.map inD))] [] k kx := by
  unfold cResumed cwOf
  refine ⟨rfl, ?_⟩
  unfold wdResumed
  refine ⟨rfl, rfl, fun x => ⟨rfl, spec_minit x (dints m.mem) (dints m.rings) (m.ins.map inD) _ _ ⟨rfl, ?_⟩⟩⟩
  refine tn (sl' := [some (.dat m.stD), some (.dat (.lst (dints m.rings))), some (.dat (.lst (m.ins.map inD))), some (.dat (.str m.mode)), some (.dat (.int m.pc)), some (.dat (.tup [.tup (dints m.us), .tup (dints m.ks), .tup (dints m.sp)])), some (.dat (.int m.tick)), some (.dat (.int m.given)), some (.dat (.tup (dints m.mem))), some (.dat (.tup (dints m.us))), some (.dat (.tup (dints m.ks))), some (.dat (.tup (dints m.sp))), some (.ref 0 [])]) (rt' := [initT x (dints m.mem) (dints m.rings) (m.ins.map inD)]) rfl rfl ?_
  refine ⟨by show 12 < 900; decide, .inr ⟨_, _, rfl, rfl, rfl, by show 12 < 900; decide, .inr ⟨_, _, rfl, rfl, rfl, ?_⟩⟩⟩
  refine ⟨dints m.us, rfl, by show 12 < 900; decide, _, rfl, rfl, dints m.ks, rfl, by show 12 < 900; decide, _, rfl, rfl, dints m.sp, rfl, by show 12 < 900; decide, _, rfl, rfl, ?_⟩
  refine ⟨by show 12 < 900; decide, .inr ⟨_, _, rfl, rfl, rfl, by show 12 < 900; decide, .inr ⟨_, _, rfl, rfl, rfl, ?_⟩⟩⟩
  refine ⟨Nat.zero_le _, ?_⟩
  have h := hk x
  unfold MS.T MS.ts dL at h
  rw [← dats_ints m.mem, ← dats_ints m.rings, ← dats_in m.ins, ← dats_ints m.us, ← dats_ints m.ks, ← dats_ints m.sp] at h
  exact h
end K07
end

section
set_option linter.all false
set_option maxRecDepth 100000
set_option maxHeartbeats 1000000
set_option pp.deepTerms false
namespace K07
open PySem L2 Evl Wv
/-! ### the law's machine -/
def modeS (b : Bool) : Str := if b = true then "kernel" else "user"
theorem mode_k {b : Bool} {s : Str} (h : s = modeS b) : (s = "kernel") ↔ b = true := by
  cases b with
  | true => exact ⟨fun _ => rfl, fun _ => h⟩
  | false =>
    constructor
    · intro z
      rw [h] at z
      exact absurd z (by decide +kernel)
    · intro z; cases z
/-! ### the law's tick -/
def MS.done (m : MS) (b : Bool) : Out := match m.ix b m.pc 4 with
  | none => .tr 2 m.pc
  | some i => if legal (m.mem.getD i.toNat 0) = true then (if fop (m.mem.getD i.toNat 0) < 20 then m.doM b (fop (m.mem.getD i.toNat 0)) (fa (m.mem.getD i.toNat 0)) (fb (m.mem.getD i.toNat 0)) (fc (m.mem.getD i.toNat 0))
    else if b = true then .nx (m.konly (fop (m.mem.getD i.toNat 0)) (fa (m.mem.getD i.toNat 0)) (fb (m.mem.getD i.toNat 0)) (fc (m.mem.getD i.toNat 0))).1 (m.konly (fop (m.mem.getD i.toNat 0)) (fa (m.mem.getD i.toNat 0)) (fb (m.mem.getD i.toNat 0)) (fc (m.mem.getD i.toNat 0))).2 else .tr 1 0) else .tr 1 0
theorem done_U (m : MS) : m.stepU = m.done false := by
  unfold MS.stepU MS.done
  cases m.ix false m.pc 4 with
  | none => rfl
  | some i =>
    show (if legal (m.mem.getD i.toNat 0) = true ∧ fop (m.mem.getD i.toNat 0) < 20 then _ else _) = (if legal (m.mem.getD i.toNat 0) = true then (if fop (m.mem.getD i.toNat 0) < 20 then _ else _) else _)
    by_cases h1 : legal (m.mem.getD i.toNat 0) = true
    · by_cases h2 : fop (m.mem.getD i.toNat 0) < 20
      · rw [if_pos ⟨h1, h2⟩, if_pos h1, if_pos h2]
      · rw [if_neg fun z => h2 z.2, if_pos h1, if_neg h2]
        rfl
    · rw [if_neg fun z => h1 z.1, if_neg h1]
theorem done_K (m : MS) : m.stepK = (match m.done true with | .nx m' p => some { m' with pc := p } | .tr _ _ => none) := by
  unfold MS.stepK MS.done
  cases m.ix true m.pc 4 with
  | none => rfl
  | some i =>
    show (if legal (m.mem.getD i.toNat 0) = true then (if fop (m.mem.getD i.toNat 0) < 20 then _ else _) else _) = (match (if legal (m.mem.getD i.toNat 0) = true then (if fop (m.mem.getD i.toNat 0) < 20 then _ else _) else _) with | Out.nx m' p => some ({ m' with pc := p } : MS) | Out.tr _ _ => none)
    by_cases h1 : legal (m.mem.getD i.toNat 0) = true
    · by_cases h2 : fop (m.mem.getD i.toNat 0) < 20
      · (rw [if_pos h1, if_pos h2, if_pos h1, if_pos h2]) <;> rfl
      · (rw [if_pos h1, if_neg h2, if_pos h1, if_neg h2]) <;> rfl
    · rw [if_neg h1, if_neg h1]
/-- what a tick's instruction leaves -/
def fin (m : MS) (b : Bool) : Out → MS
  | .nx m' p => { m' with pc := p }
  | .tr c v => if b = true then { m with mode := "broken" } else m.enter (if c = 3 then (m.pc + 1) % 65536 else m.pc) c v
def outB (m : MS) (b : Bool) : Out := if b = true ∨ m.tick % 65536 ≠ m.sp.getD 4 0 then m.done b else .tr 6 0
theorem fin_K (m : MS) : m.tickK = fin m true (outB m true) := by
  unfold MS.tickK outB
  rw [if_pos (.inl rfl), done_K]
  cases m.done true with
  | nx m' p => rfl
  | tr c v => rfl
theorem fin_U (m : MS) : m.tickU = fin m false (outB m false) := by
  unfold MS.tickU outB
  by_cases h : m.tick % 65536 = m.sp.getD 4 0
  · rw [if_pos h, if_neg (by rintro (z | z); · cases z
                             · exact z h)]
    rfl
  · rw [if_neg h, if_pos (.inr h), done_U]
    cases m.done false with
    | nx m' p => rfl
    | tr c v => rfl
theorem step_fin (m : MS) (b : Bool) (hb : m.mode = modeS b) : m.step = MS.next (fin m.take b (outB m.take b)) := by
  unfold MS.step
  cases b with
  | true =>
    rw [if_neg (by rw [hb]; decide +kernel), if_neg (by rw [hb]; decide +kernel), fin_K]
  | false =>
    rw [if_neg (by rw [hb]; decide +kernel), if_pos (by rw [hb]; rfl), fin_U]
theorem mode_ok {m : MS} {b : Bool} (h : m.mode = modeS b) : m.mode = "kernel" ∨ m.mode = "user" := by
  cases b with
  | true => exact .inl h
  | false => exact .inr h
theorem konly_mode (m : MS) (n : Nat) (x y z : Int) : (m.konly n x y z).1.mode = m.mode ∨ (m.konly n x y z).1.mode = "user" := by
  unfold MS.konly
  split <;> first
    | exact .inl rfl
    | exact .inr rfl
theorem done_mode {m m' : MS} {b : Bool} {p : Int} (hm : m.mode = "kernel" ∨ m.mode = "user") (h : m.done b = .nx m' p) : m'.mode = "kernel" ∨ m'.mode = "user" := by
  unfold MS.done at h
  split at h
  · cases h
  · split at h
    · split at h
      · rw [(doM_spl h).2.1]
        exact hm
      · split at h
        · cases h
          rcases konly_mode m (fop (m.mem.getD _ 0)) (fa (m.mem.getD _ 0)) (fb (m.mem.getD _ 0)) (fc (m.mem.getD _ 0)) with z | z
          · rw [z]; exact hm
          · exact .inr z
        · cases h
    · cases h
theorem not_broken {s : Str} (h : s = "kernel" ∨ s = "user") : ¬ s = "broken" := by
  rcases h with h | h
  · rw [h]; decide +kernel
  · rw [h]; decide +kernel
theorem done_spl {m m' : MS} {b : Bool} {p : Int} (h : m.done b = .nx m' p) : m'.sp.length = m.sp.length := by
  unfold MS.done at h
  split at h
  · cases h
  · split at h
    · split at h
      · rw [(doM_spl h).1]
      · split at h
        · cases h
          exact konly_spl _ _ _ _ _
        · cases h
    · cases h

/-! ### a step keeps the machine well formed -/
theorem cal_W' (n : Nat) {p q : Int} (hp : W p) (hq : W q) : W (cal n p q) := by
  unfold cal
  split
  · exact W.mod _
  · exact W.mod _
  · exact W.mod _
  · exact Bits.w_and hp hq
  · exact Bits.w_or hp hq
  · exact Bits.w_xor hp hq
theorem WF.rg' {m : MS} (h : WF m) (b : Bool) : Ws (m.rg b) ∧ (m.rg b).length = 8 := by
  cases b with
  | true => exact ⟨h.ks, h.ksl⟩
  | false => exact ⟨h.us, h.usl⟩
theorem WF.setR {m : MS} (h : WF m) (b : Bool) {l : List Int} (hl : Ws l) (h8 : l.length = 8) : WF (m.setR b l) := by
  cases b with
  | true => exact { h with ks := hl, ksl := h8 }
  | false => exact { h with us := hl, usl := h8 }
theorem WF.setR' {m : MS} (h : WF m) (b : Bool) (i : Nat) {v : Int} (hv : W v) : WF (m.setR b ((m.rg b).set i v)) :=
  h.setR b ((h.rg' b).1.set i hv) (by rw [List.length_set]; exact (h.rg' b).2)
theorem W.divp {p : Int} (h : W p) (j : Nat) : W (p / 2 ^ j) := by
  have hp : (0 : Int) < 2 ^ j := Int.pow_pos (by decide)
  refine ⟨Int.ediv_nonneg h.1 (by omega), ?_⟩
  have := Int.ediv_le_self (2 ^ j) h.1
  have h2 := h.2
  omega
def OutOk : Out → Prop
  | .nx m' p => WF m' ∧ W p
  | .tr c v => W c ∧ W v
theorem doM_ok {m : MS} (h : WF m) (b : Bool) (n : Nat) (x y z : Int) (hz : 0 ≤ z ∧ z ≤ 15) : OutOk (m.doM b n x y z) := by
  have r := (h.rg' b).1
  unfold MS.doM
  split
  · exact ⟨by constructor <;> decide, by constructor <;> decide⟩
  · split
    · exact ⟨by constructor <;> decide, W.mod _⟩
    · exact ⟨h.setR' b _ (h.mem.get _), W.mod _⟩
  · exact ⟨h.setR' b _ (r.get _), W.mod _⟩
  · exact ⟨h.setR' b _ (W.mod _), W.mod _⟩
  · exact ⟨h.setR' b _ ((r.get _).divp _), W.mod _⟩
  · exact ⟨h.setR' b _ (W.mod _), W.mod _⟩
  · split
    · exact ⟨by constructor <;> decide, W.mod _⟩
    · exact ⟨h.setR' b _ (h.mem.get _), W.mod _⟩
  · split
    · exact ⟨by constructor <;> decide, W.mod _⟩
    · exact ⟨{ h with mem := h.mem.set _ (r.get _), ml := by show (List.set _ _ _).length ≤ 1000; rw [List.length_set]; exact h.ml, rg := fun q hq => by show 0 ≤ q ∧ q + 16 ≤ ((List.set _ _ _).length : Int); rw [List.length_set]; exact h.rg q hq }, W.mod _⟩
  · exact ⟨h, r.get _⟩
  · exact ⟨h.setR' b _ (W.mod _), r.get _⟩
  · refine ⟨h, ?_⟩
    split <;> exact W.mod _
  · refine ⟨h, ?_⟩
    split <;> exact W.mod _
  · refine ⟨h, ?_⟩
    split <;> exact W.mod _
  · exact ⟨by constructor <;> decide, by constructor <;> omega⟩
  · exact ⟨h.setR' b _ (cal_W' _ (r.get _) (r.get _)), W.mod _⟩
theorem konly_ok {m : MS} (h : WF m) (n : Nat) (x y z : Int) : WF (m.konly n x y z).1 ∧ W (m.konly n x y z).2 := by
  unfold MS.konly
  split
  · exact ⟨{ h with ks := h.ks.set _ (h.us.get _), ksl := by show (List.set _ _ _).length = 8; rw [List.length_set]; exact h.ksl }, W.mod _⟩
  · exact ⟨{ h with us := h.us.set _ (h.ks.get _), usl := by show (List.set _ _ _).length = 8; rw [List.length_set]; exact h.usl }, W.mod _⟩
  · exact ⟨{ h with ks := h.ks.set _ (h.sp.get _), ksl := by show (List.set _ _ _).length = 8; rw [List.length_set]; exact h.ksl }, W.mod _⟩
  · exact ⟨{ h with sp := h.sp.set _ (h.ks.get _), spl := by show (List.set _ _ _).length = 7; rw [List.length_set]; exact h.spl }, W.mod _⟩
  · refine ⟨h, ?_⟩
    split
    · exact W.mod _
    · exact h.pc
  · exact ⟨{ h with }, h.sp.get _⟩
theorem done_ok {m : MS} (h : WF m) (b : Bool) : OutOk (m.done b) := by
  unfold MS.done
  split
  · exact ⟨by constructor <;> decide, h.pc⟩
  · split
    · split
      · exact doM_ok h b _ _ _ _ (by unfold fc; omega)
      · split
        · exact konly_ok h _ _ _ _
        · exact ⟨by constructor <;> decide, by constructor <;> decide⟩
    · exact ⟨by constructor <;> decide, by constructor <;> decide⟩
theorem outB_ok {m : MS} (h : WF m) (b : Bool) : OutOk (outB m b) := by
  unfold outB
  split
  · exact done_ok h b
  · exact ⟨by constructor <;> decide, by constructor <;> decide⟩
/-- what no instruction changes -/
structure Kept (m m' : MS) : Prop where
  ins : m'.ins = m.ins
  rings : m'.rings = m.rings
  given : m'.given = m.given
  tick : m'.tick = m.tick
  mem : m'.mem.length = m.mem.length
theorem konly_kept (m : MS) (n : Nat) (x y z : Int) : Kept m (m.konly n x y z).1 := by
  unfold MS.konly
  split <;> exact ⟨rfl, rfl, rfl, rfl, rfl⟩
theorem done_kept {m m' : MS} {b : Bool} {p : Int} (h : m.done b = .nx m' p) : Kept m m' := by
  unfold MS.done at h
  split at h
  · cases h
  · split at h
    · split at h
      · obtain ⟨_, _, h3, h4, h5, h6, h7⟩ := doM_spl h
        exact ⟨h4, h5, h6, h3, h7⟩
      · split at h
        · cases h
          exact konly_kept _ _ _ _ _
        · cases h
    · cases h
theorem outB_nx {m m' : MS} {b : Bool} {p : Int} (h : outB m b = .nx m' p) : m.done b = .nx m' p := by
  unfold outB at h
  split at h
  · exact h
  · cases h
theorem enter_wf {m : MS} (h : WF m) {e c v : Int} (he : W e) (hc : W c) (hv : W v) : WF (m.enter e c v) :=
  { h with sp := ((((h.sp.set _ he).set _ hc).set _ hv).set _ (W.mod _)), spl := by rw [enter_spl]; exact h.spl, pc := ⟨by show (0 : Int) ≤ 0; decide, by show (0 : Int) < 65536; decide⟩ }
theorem fin_wf {m : MS} (h : WF m) (b : Bool) {o : Out} (ho : OutOk o) : WF (fin m b o) := by
  cases o with
  | nx m' p => exact { ho.1 with pc := ho.2 }
  | tr c v =>
    show WF (if b = true then { m with mode := "broken" } else _)
    split
    · exact { h with }
    · refine enter_wf h ?_ ho.1 ho.2
      split
      · exact W.mod _
      · exact h.pc
theorem fin_kept {m : MS} (b : Bool) {o : Out} (ho : ∀ m' p, o = .nx m' p → Kept m m') : Kept m (fin m b o) := by
  cases o with
  | nx m' p =>
    have k := ho m' p rfl
    exact ⟨k.ins, k.rings, k.given, k.tick, k.mem⟩
  | tr c v =>
    show Kept m (if b = true then { m with mode := "broken" } else _)
    split
    · exact ⟨rfl, rfl, rfl, rfl, rfl⟩
    · exact ⟨rfl, rfl, rfl, rfl, rfl⟩
theorem fin_mode {m : MS} {b : Bool} (hb : m.mode = modeS b) : ((fin m b (outB m b)).mode = "kernel" ∨ (fin m b (outB m b)).mode = "user") ∨ (fin m b (outB m b)).mode = "broken" ∧ (fin m b (outB m b)).sp = m.sp := by
  cases h : outB m b with
  | nx m' p => exact .inl (show m'.mode = "kernel" ∨ m'.mode = "user" from done_mode (mode_ok hb) (outB_nx h))
  | tr c v =>
    cases b with
    | true => exact .inr ⟨rfl, rfl⟩
    | false => exact .inl (.inl rfl)
theorem take_kept (m : MS) (h : WF m) : m.take.ins = m.ins ∧ m.take.rings = m.rings ∧ m.take.tick = m.tick ∧ m.take.mem.length = m.mem.length := by
  obtain ⟨_, h2, _, _⟩ := takeL_ok (n := 0) (rings := m.rings) (tick := m.tick) m.mem.length (by intro r hr; have := h.rg r hr; exact ⟨this.1, by omega⟩) (l := m.ins.drop m.given.toNat) (mem := m.mem) (g := m.given.toNat) (fun i hi => h.ins i (List.mem_of_mem_drop hi)) h.mem rfl
  exact ⟨rfl, rfl, rfl, h2⟩
theorem next_wf {m : MS} (h : WF m) : WF (MS.next m) := by
  unfold MS.next
  split
  · exact h
  · exact { h with sp := h.sp.set _ (W.mod _), spl := by show (List.set _ _ _).length = 7; rw [List.length_set]; exact h.spl }
theorem next_same (m : MS) : (MS.next m).ins = m.ins ∧ (MS.next m).rings = m.rings ∧ (MS.next m).mem = m.mem ∧ (MS.next m).mode = m.mode ∧ (MS.next m).us = m.us ∧ (MS.next m).ks = m.ks := by
  unfold MS.next
  split <;> exact ⟨rfl, rfl, rfl, rfl, rfl, rfl⟩
/-- a machine that a step can take on -/
structure Good (m : MS) : Prop where
  wf : WF m
  mode : (∃ b, m.mode = modeS b) ∨ m.mode = "broken"
  ht : m.sp.getD 5 0 = m.tick % 65536
theorem modeS_of {s : Str} (h : s = "kernel" ∨ s = "user") : ∃ b, s = modeS b := by
  rcases h with h | h
  · exact ⟨true, h⟩
  · exact ⟨false, h⟩
theorem step_brk {m : MS} (h : m.mode = "broken") : m.step = m := by
  unfold MS.step
  rw [if_pos h]
theorem Good.step {m : MS} (h : Good m) : Good m.step ∧ m.step.ins = m.ins ∧ m.step.rings = m.rings ∧ m.step.mem.length = m.mem.length := by
  rcases h.mode with ⟨b, hb⟩ | hb
  · rw [step_fin m b hb]
    have h1 := h.wf.take
    obtain ⟨k1, k2, k3, k4⟩ := take_kept m h.wf
    have hb1 : m.take.mode = modeS b := hb
    have hf := fin_wf h1 b (outB_ok h1 b)
    have hk := fin_kept b (m := m.take) (o := outB m.take b) fun m' p e => done_kept (outB_nx e)
    have hm := fin_mode hb1
    have ht1 : m.take.sp.getD 5 0 = m.take.tick % 65536 := h.ht
    generalize m.take = m1 at *
    generalize fin m1 b (outB m1 b) = f at *
    obtain ⟨n1, n2, n3, n4, _⟩ := next_same f
    refine ⟨⟨next_wf hf, ?_, ?_⟩, by rw [n1, hk.ins, k1], by rw [n2, hk.rings, k2], by rw [n3, hk.mem, k4]⟩
    · rw [n4]
      rcases hm with z | z
      · exact .inl (modeS_of z)
      · exact .inr z.1
    · rcases hm with z | z
      · have nb := not_broken z
        unfold MS.next
        rw [if_neg nb]
        show (f.sp.set 5 ((f.tick + 1) % 65536)).getD 5 0 = (f.tick + 1) % 65536
        rw [List.getD_eq_getElem?_getD, List.getElem?_set_self (by rw [hf.spl]; decide)]
        rfl
      · unfold MS.next
        rw [if_pos z.1, z.2, hk.tick]
        exact ht1
  · rw [step_brk hb]
    exact ⟨h, rfl, rfl, rfl⟩
/-- user mode that ends: the registers of both stay -/
theorem step_back {m : MS} (h : m.mode = "user") (hk : m.step.mode = "kernel") : m.step.us = m.us ∧ m.step.ks = m.ks := by
  have e := step_fin m false h
  rw [e] at hk ⊢
  obtain ⟨_, _, _, n4, n5, n6⟩ := next_same (fin m.take false (outB m.take false))
  rw [n4] at hk
  rw [n5, n6]
  cases ho : outB m.take false with
  | nx m' p =>
    rw [ho] at hk
    have hk : m'.mode = "kernel" := hk
    have hd := outB_nx ho
    rw [← done_U] at hd
    rw [(stepU_spl hd).2.1] at hk
    have hk : m.mode = "kernel" := hk
    rw [h] at hk
    exact absurd hk (by decide +kernel)
  | tr c v => exact ⟨rfl, rfl⟩
end K07
end

section
set_option linter.all false
set_option maxRecDepth 100000
set_option maxHeartbeats 1000000
set_option pp.deepTerms false
namespace K07
open PySem L2 Evl Wv

/-! ### two machines that see the same pages -/
def pl (P : List Int) (k o : Nat) : Nat := (16 * P.getD k 0 + (o : Int)).toNat
structure PL (P : List Int) (n : Nat) : Prop where
  len : P.length = 6
  bd : ∀ k, k < 6 → 0 ≤ P.getD k 0 ∧ 16 * P.getD k 0 + 16 ≤ (n : Int)
  inj : ∀ i j, i < 6 → j < 6 → P.getD i 0 = P.getD j 0 → i = j
theorem pl_lt {P : List Int} {n k o : Nat} (h : PL P n) (hk : k < 6) (ho : o < 16) : pl P k o < n := by
  have := h.bd k hk
  unfold pl
  omega
theorem pl_inj {P : List Int} {n k o k' o' : Nat} (h : PL P n) (hk : k < 6) (ho : o < 16) (hk' : k' < 6) (ho' : o' < 16) (e : pl P k o = pl P k' o') : k = k' ∧ o = o' := by
  have b := h.bd k hk
  have b' := h.bd k' hk'
  unfold pl at e
  have q : P.getD k 0 = P.getD k' 0 := by omega
  exact ⟨h.inj k k' hk hk' q, by omega⟩
theorem setne {l : List Int} {i j : Nat} {v : Int} (h : i ≠ j) : (l.set i v).getD j 0 = l.getD j 0 := by
  rw [List.getD_eq_getElem?_getD, List.getElem?_set_ne h, ← List.getD_eq_getElem?_getD]
theorem setself {l : List Int} {i : Nat} {v : Int} (h : i < l.length) : (l.set i v).getD i 0 = v := by
  rw [List.getD_eq_getElem?_getD, List.getElem?_set_self h]
  rfl
/-- where the pages and the map lie in a memory -/
structure Lay (m0 P : List Int) (base : Int) (fr : List Nat) (rt : List Int) : Prop where
  pl : PL P m0.length
  fb : ∀ j, j < 8 → fr.getD j 0 < 6
  rb : ∀ j, j < 8 → 0 ≤ rt.getD j 0 ∧ rt.getD j 0 < 8
  b0 : 0 ≤ base
  b1 : base + 8 ≤ (m0.length : Int)
  off : ∀ j : Nat, j < 8 → ∀ k, k < 6 → (base + (j : Int)) / 16 ≠ P.getD k 0
  ent : ∀ j : Nat, j < 8 → m0.getD (base + (j : Int)).toNat 0 = 8 * P.getD (fr.getD j 0) 0 + rt.getD j 0
/-- nothing else is changed -/
structure Ot (m0 P : List Int) (mem : List Int) : Prop where
  len : mem.length = m0.length
  oth : ∀ j : Nat, (∀ k, k < 6 → (j : Int) / 16 ≠ P.getD k 0) → mem.getD j 0 = m0.getD j 0
theorem Ot.set {m0 P mem : List Int} (h : Ot m0 P mem) (p : PL P m0.length) {k o : Nat} (hk : k < 6) (ho : o < 16) (v : Int) : Ot m0 P (mem.set (pl P k o) v) := by
  refine ⟨by rw [List.length_set, h.len], fun j hj => ?_⟩
  rw [setne]
  · exact h.oth j hj
  · intro e
    have b := p.bd k hk
    apply hj k hk
    unfold pl at e
    omega
structure MR (m0 P m1 Q a b : List Int) : Prop where
  oa : Ot m0 P a
  ob : Ot m1 Q b
  fr : ∀ k o, k < 6 → o < 16 → a.getD (pl P k o) 0 = b.getD (pl Q k o) 0
theorem MR.set {m0 P m1 Q a b : List Int} (hP : PL P m0.length) (hQ : PL Q m1.length) (h : MR m0 P m1 Q a b) {k o : Nat} (hk : k < 6) (ho : o < 16) {v w : Int} (e : v = w) : MR m0 P m1 Q (a.set (pl P k o) v) (b.set (pl Q k o) w) := by
  subst e
  refine ⟨h.oa.set hP hk ho v, h.ob.set hQ hk ho v, fun k' o' hk' ho' => ?_⟩
  by_cases e : k = k' ∧ o = o'
  · obtain ⟨rfl, rfl⟩ := e
    rw [setself (by rw [h.oa.len]; exact pl_lt hP hk ho), setself (by rw [h.ob.len]; exact pl_lt hQ hk ho)]
  · rw [setne fun z => e (pl_inj hP hk ho hk' ho' z), setne fun z => e (pl_inj hQ hk ho hk' ho' z)]
    exact h.fr k' o' hk' ho'
theorem wr_pl {mem P : List Int} {n d : Nat} (hP : PL P n) (hd : d < 6) (w : Int) :
    wr mem (16 * P.getD d 0) w = (mem.set (pl P d (2 + (mem.getD (pl P d 0) 0 % 14).toNat)) w).set (pl P d 0) ((mem.getD (pl P d 0) 0 + 1) % 65536) := by
  have b := hP.bd d hd
  have e0 : (16 * P.getD d 0).toNat = pl P d 0 := by unfold pl; omega
  unfold wr
  rw [e0]
  have e1 : (16 * P.getD d 0 + 2 + mem.getD (pl P d 0) 0 % 14).toNat = pl P d (2 + (mem.getD (pl P d 0) 0 % 14).toNat) := by
    generalize mem.getD (pl P d 0) 0 = q
    unfold pl
    omega
  rw [e1]
theorem MR.wr {m0 P m1 Q a b : List Int} (hP : PL P m0.length) (hQ : PL Q m1.length) (h : MR m0 P m1 Q a b) {d : Nat} (hd : d < 6) (w : Int) : MR m0 P m1 Q (K07.wr a (16 * P.getD d 0) w) (K07.wr b (16 * Q.getD d 0) w) := by
  rw [wr_pl hP hd, wr_pl hQ hd, ← h.fr d 0 hd (by decide)]
  generalize a.getD (pl P d 0) 0 = q
  have ho : 2 + (q % 14).toNat < 16 := by omega
  exact (h.set hP hQ hd ho rfl).set hP hQ hd (by decide) rfl
def sh (s : Int) (x : In3) : In3 := (s + x.1, x.2)
theorem takeL_rel {m0 P m1 Q : List Int} (hP : PL P m0.length) (hQ : PL Q m1.length) {sA sB tA tB : Int} (ht : tA - sA = tB - sB) : ∀ (I : List In3) (a b : List Int) (g : Nat), (∀ x ∈ I, 0 ≤ x.2.1 ∧ x.2.1 < 2) → MR m0 P m1 Q a b →
    MR m0 P m1 Q (takeL [16 * P.getD 0 0, 16 * P.getD 1 0] tA (I.map (sh sA)) a g).1 (takeL [16 * Q.getD 0 0, 16 * Q.getD 1 0] tB (I.map (sh sB)) b g).1 ∧
    (takeL [16 * P.getD 0 0, 16 * P.getD 1 0] tA (I.map (sh sA)) a g).2 = (takeL [16 * Q.getD 0 0, 16 * Q.getD 1 0] tB (I.map (sh sB)) b g).2
  | [], a, b, g, _, h => ⟨h, rfl⟩
  | x :: I, a, b, g, hi, h => by
    have hx := hi x List.mem_cons_self
    have er : ∀ P : List Int, ([16 * P.getD 0 0, 16 * P.getD 1 0] : List Int).getD x.2.1.toNat 0 = 16 * P.getD x.2.1.toNat 0 := fun P => by
      have z : x.2.1 = 0 ∨ x.2.1 = 1 := by omega
      rcases z with z | z <;> rw [z] <;> rfl
    rw [List.map_cons, List.map_cons]
    show MR m0 P m1 Q (if sA + x.1 ≤ tA then takeL _ tA (I.map (sh sA)) (if sA + x.1 = tA then K07.wr a (([16 * P.getD 0 0, 16 * P.getD 1 0] : List Int).getD x.2.1.toNat 0) x.2.2 else a) (g + 1) else (a, g)).1 (if sB + x.1 ≤ tB then takeL _ tB (I.map (sh sB)) (if sB + x.1 = tB then K07.wr b (([16 * Q.getD 0 0, 16 * Q.getD 1 0] : List Int).getD x.2.1.toNat 0) x.2.2 else b) (g + 1) else (b, g)).1 ∧
      (if sA + x.1 ≤ tA then takeL _ tA (I.map (sh sA)) (if sA + x.1 = tA then K07.wr a (([16 * P.getD 0 0, 16 * P.getD 1 0] : List Int).getD x.2.1.toNat 0) x.2.2 else a) (g + 1) else (a, g)).2 = (if sB + x.1 ≤ tB then takeL _ tB (I.map (sh sB)) (if sB + x.1 = tB then K07.wr b (([16 * Q.getD 0 0, 16 * Q.getD 1 0] : List Int).getD x.2.1.toNat 0) x.2.2 else b) (g + 1) else (b, g)).2
    rw [er P, er Q]
    by_cases c : sA + x.1 ≤ tA
    · have c' : sB + x.1 ≤ tB := by omega
      rw [if_pos c, if_pos c']
      refine takeL_rel hP hQ ht I _ _ (g + 1) (fun y hy => hi y (List.mem_cons_of_mem _ hy)) ?_
      by_cases e : sA + x.1 = tA
      · have e' : sB + x.1 = tB := by omega
        rw [if_pos e, if_pos e']
        exact h.wr hP hQ (by omega) _
      · have e' : ¬ sB + x.1 = tB := by omega
        rw [if_neg e, if_neg e']
        exact h
    · have c' : ¬ sB + x.1 ≤ tB := by omega
      rw [if_neg c, if_neg c']
      exact ⟨h, rfl⟩
theorem ix_lay {m : MS} {m0 P : List Int} {base : Int} {fr : List Nat} {rt : List Int} (L : Lay m0 P base fr rt) (o : Ot m0 P m.mem) (s3 : m.sp.getD 3 0 = base) {a r : Int} (ha : 0 ≤ a) (hr : r = 1 ∨ r = 2 ∨ r = 4) :
    m.ix false a r = if 128 ≤ a ∨ rt.getD (a / 16).toNat 0 / r % 2 = 0 then none else some ((pl P (fr.getD (a / 16).toNat 0) (a % 16).toNat : Nat) : Int) := by
  unfold MS.ix
  rw [if_neg (by decide), s3]
  by_cases h : 128 ≤ a
  · rw [if_pos (.inl h), if_pos (.inl h)]
  have ej : a / 16 = (((a / 16).toNat : Nat) : Int) := by omega
  have j8 : (a / 16).toNat < 8 := by omega
  generalize (a / 16).toNat = j at ej j8
  rw [ej]
  have hb := L.b1
  have hb0 := L.b0
  have hent : m.mem.getD (base + (j : Int)).toNat 0 = 8 * P.getD (fr.getD j 0) 0 + rt.getD j 0 := by
    rw [o.oth _ fun k hk => ?_]
    · exact L.ent j j8
    · rw [Int.toNat_of_nonneg (by omega)]
      exact L.off j j8 k hk
  rw [if_neg (show ¬ (128 ≤ a ∨ (m.mem.length : Int) ≤ base + (j : Int)) by rw [o.len]; omega), hent]
  have hf := L.pl.bd _ (L.fb j j8)
  have hR := L.rb j j8
  generalize hFF : P.getD (fr.getD j 0) 0 = F at hf
  generalize hRR : rt.getD j 0 = R at hR
  have e8 : (8 * F + R) / 8 = F := by omega
  have er : (8 * F + R) / r % 2 = R / r % 2 := by rcases hr with rfl | rfl | rfl <;> omega
  rw [e8, er]
  by_cases z : R / r % 2 = 0
  · rw [if_pos (.inr z), if_pos (.inr z)]
  · rw [if_neg (by rintro (q | q)
                   · rw [o.len] at q; omega
                   · exact z q), if_neg (by rintro (q | q)
                                            · exact h q
                                            · exact z q)]
    congr 1
    unfold pl
    rw [hFF]
    omega
structure Pm where
  m0 : List Int
  P : List Int
  m1 : List Int
  Q : List Int
  bA : Int
  bB : Int
  fr : List Nat
  rt : List Int
  sA : Int
  sB : Int
  al : Int
  I : List In3
structure Rl (c : Pm) (A B : MS) : Prop where
  la : Lay c.m0 c.P c.bA c.fr c.rt
  lb : Lay c.m1 c.Q c.bB c.fr c.rt
  ii : ∀ x ∈ c.I, 0 ≤ x.2.1 ∧ x.2.1 < 2
  mr : MR c.m0 c.P c.m1 c.Q A.mem B.mem
  mode : A.mode = B.mode
  pc : A.pc = B.pc
  us : A.us = B.us
  given : A.given = B.given
  tk : A.tick - c.sA = B.tick - c.sB
  s3a : A.sp.getD 3 0 = c.bA
  s3b : B.sp.getD 3 0 = c.bB
  s4a : A.sp.getD 4 0 = (c.sA + c.al) % 65536
  s4b : B.sp.getD 4 0 = (c.sB + c.al) % 65536
  ra : A.rings = [16 * c.P.getD 0 0, 16 * c.P.getD 1 0]
  rb : B.rings = [16 * c.Q.getD 0 0, 16 * c.Q.getD 1 0]
  ia : A.ins = c.I.map (sh c.sA)
  ib : B.ins = c.I.map (sh c.sB)
def OutR (c : Pm) : Out → Out → Prop
  | .nx a p, .nx b q => Rl c a b ∧ p = q
  | .tr x v, .tr y w => x = y ∧ v = w
  | _, _ => False
theorem Rl.take {c : Pm} {A B : MS} (R : Rl c A B) : Rl c A.take B.take := by
  have t := takeL_rel R.la.pl R.lb.pl R.tk (c.I.drop A.given.toNat) A.mem B.mem A.given.toNat (fun x hx => R.ii x (List.mem_of_mem_drop hx)) R.mr
  have ea : A.take = { A with mem := (takeL [16 * c.P.getD 0 0, 16 * c.P.getD 1 0] A.tick ((c.I.drop A.given.toNat).map (sh c.sA)) A.mem A.given.toNat).1, given := ((takeL [16 * c.P.getD 0 0, 16 * c.P.getD 1 0] A.tick ((c.I.drop A.given.toNat).map (sh c.sA)) A.mem A.given.toNat).2 : Nat) } := by
    unfold MS.take
    rw [R.ra, R.ia, ← List.map_drop]
  have eb : B.take = { B with mem := (takeL [16 * c.Q.getD 0 0, 16 * c.Q.getD 1 0] B.tick ((c.I.drop A.given.toNat).map (sh c.sB)) B.mem A.given.toNat).1, given := ((takeL [16 * c.Q.getD 0 0, 16 * c.Q.getD 1 0] B.tick ((c.I.drop A.given.toNat).map (sh c.sB)) B.mem A.given.toNat).2 : Nat) } := by
    unfold MS.take
    rw [R.rb, R.ib, ← List.map_drop, R.given]
  rw [ea, eb]
  exact ⟨R.la, R.lb, R.ii, t.1, R.mode, R.pc, R.us, by show ((_ : Nat) : Int) = _; rw [t.2], R.tk, R.s3a, R.s3b, R.s4a, R.s4b, R.ra, R.rb, R.ia, R.ib⟩
theorem Rl.regs {c : Pm} {A B : MS} (R : Rl c A B) {l l' : List Int} (e : l = l') {p p' : Int} (ep : p = p') : OutR c (.nx (A.setR false l) p) (.nx (B.setR false l') p') :=
  ⟨⟨R.la, R.lb, R.ii, R.mr, R.mode, R.pc, e, R.given, R.tk, R.s3a, R.s3b, R.s4a, R.s4b, R.ra, R.rb, R.ia, R.ib⟩, ep⟩
theorem Rl.rg {c : Pm} {A B : MS} (R : Rl c A B) : A.rg false = B.rg false := R.us
theorem Rl.rd {c : Pm} {A B : MS} (R : Rl c A B) {a a' r p p' : Int} {x : Nat} (e : a = a') (h0 : 0 ≤ a) (hr : r = 1 ∨ r = 2 ∨ r = 4) (ep : p = p') :
    OutR c (match A.ix false a r with | none => .tr 2 a | some i => .nx (A.setR false ((A.rg false).set x (A.mem.getD i.toNat 0))) p) (match B.ix false a' r with | none => .tr 2 a' | some i => .nx (B.setR false ((B.rg false).set x (B.mem.getD i.toNat 0))) p') := by
  subst e
  rw [ix_lay R.la R.mr.oa R.s3a h0 hr, ix_lay R.lb R.mr.ob R.s3b h0 hr]
  by_cases z : 128 ≤ a ∨ c.rt.getD (a / 16).toNat 0 / r % 2 = 0
  · rw [if_pos z, if_pos z]
    exact ⟨rfl, rfl⟩
  · rw [if_neg z, if_neg z]
    refine R.regs ?_ ep
    rw [Int.toNat_natCast, Int.toNat_natCast, R.rg, R.mr.fr _ _ (R.la.fb _ (by omega)) (by omega)]
theorem Rl.wt {c : Pm} {A B : MS} (R : Rl c A B) {a a' p p' v v' : Int} (e : a = a') (h0 : 0 ≤ a) (ep : p = p') (ev : v = v') :
    OutR c (match A.ix false a 2 with | none => .tr 2 a | some i => .nx { A with mem := A.mem.set i.toNat v } p) (match B.ix false a' 2 with | none => .tr 2 a' | some i => .nx { B with mem := B.mem.set i.toNat v' } p') := by
  subst e
  rw [ix_lay R.la R.mr.oa R.s3a h0 (.inr (.inl rfl)), ix_lay R.lb R.mr.ob R.s3b h0 (.inr (.inl rfl))]
  by_cases z : 128 ≤ a ∨ c.rt.getD (a / 16).toNat 0 / 2 % 2 = 0
  · rw [if_pos z, if_pos z]
    exact ⟨rfl, rfl⟩
  · rw [if_neg z, if_neg z]
    refine ⟨⟨R.la, R.lb, R.ii, ?_, R.mode, R.pc, R.us, R.given, R.tk, R.s3a, R.s3b, R.s4a, R.s4b, R.ra, R.rb, R.ia, R.ib⟩, ep⟩
    show MR _ _ _ _ (A.mem.set (Int.toNat _) v) (B.mem.set (Int.toNat _) v')
    rw [Int.toNat_natCast, Int.toNat_natCast]
    exact R.mr.set R.la.pl R.lb.pl (R.la.fb _ (by omega)) (by omega) ev
theorem doM_rel {c : Pm} {A B : MS} (R : Rl c A B) : ∀ n : Nat, n < 20 → ∀ x y z : Int, OutR c (A.doM false n x y z) (B.doM false n x y z)
  | 0, _, _, _, _ => ⟨rfl, rfl⟩
  | 1, _, x, y, z => R.rd (by rw [R.pc]) (Int.emod_nonneg _ (by decide)) (.inr (.inr rfl)) (by rw [R.pc])
  | 2, _, x, y, z => R.regs (by rw [R.rg]) (by rw [R.pc])
  | 3, _, x, y, z => R.regs (by rw [R.rg]) (by rw [R.pc])
  | 4, _, x, y, z => R.regs (by rw [R.rg]) (by rw [R.pc])
  | 5, _, x, y, z => R.regs (by rw [R.rg]) (by rw [R.pc])
  | 6, _, x, y, z => R.regs (by rw [R.rg]) (by rw [R.pc])
  | 7, _, x, y, z => R.regs (by rw [R.rg]) (by rw [R.pc])
  | 8, _, x, y, z => R.regs (by rw [R.rg]) (by rw [R.pc])
  | 9, _, x, y, z => R.regs (by rw [R.rg]) (by rw [R.pc])
  | 10, _, x, y, z => R.regs (by rw [R.rg]) (by rw [R.pc])
  | 11, _, x, y, z => R.regs (by rw [R.rg]) (by rw [R.pc])
  | 12, _, x, y, z => R.rd (by rw [R.rg]) (Int.emod_nonneg _ (by decide)) (.inl rfl) (by rw [R.pc])
  | 13, _, x, y, z => R.wt (by rw [R.rg]) (Int.emod_nonneg _ (by decide)) (by rw [R.pc]) (by rw [R.rg])
  | 14, _, x, y, z => ⟨R, by rw [R.rg]⟩
  | 15, _, x, y, z => R.regs (by rw [R.rg, R.pc]) (by rw [R.rg])
  | 16, _, x, y, z => ⟨R, by rw [R.rg, R.pc]⟩
  | 17, _, x, y, z => ⟨R, by rw [R.rg, R.pc]⟩
  | 18, _, x, y, z => ⟨R, by rw [R.rg, R.pc]⟩
  | 19, _, x, y, z => ⟨rfl, rfl⟩
  | n + 20, h, _, _, _ => absurd h (by omega)
theorem done_rel {c : Pm} {A B : MS} (R : Rl c A B) (h0 : 0 ≤ A.pc) : OutR c (A.done false) (B.done false) := by
  unfold MS.done
  rw [← R.pc, ix_lay R.la R.mr.oa R.s3a h0 (.inr (.inr rfl)), ix_lay R.lb R.mr.ob R.s3b h0 (.inr (.inr rfl))]
  by_cases z : 128 ≤ A.pc ∨ c.rt.getD (A.pc / 16).toNat 0 / 4 % 2 = 0
  · rw [if_pos z, if_pos z]
    exact ⟨rfl, rfl⟩
  · rw [if_neg z, if_neg z]
    dsimp only
    rw [Int.toNat_natCast, Int.toNat_natCast, R.mr.fr _ _ (R.la.fb _ (by omega)) (by omega)]
    generalize B.mem.getD _ 0 = w
    by_cases h1 : legal w = true
    · rw [if_pos h1, if_pos h1]
      by_cases h2 : fop w < 20
      · rw [if_pos h2, if_pos h2]
        exact doM_rel R _ h2 _ _ _
      · rw [if_neg h2, if_neg h2, if_neg (by decide), if_neg (by decide)]
        exact ⟨rfl, rfl⟩
    · rw [if_neg h1, if_neg h1]
      exact ⟨rfl, rfl⟩
theorem Rl.next {c : Pm} {A B : MS} (R : Rl c A B) (ha : ¬ A.mode = "broken") : Rl c (MS.next A) (MS.next B) := by
  unfold MS.next
  rw [if_neg ha, if_neg (by rw [← R.mode]; exact ha)]
  exact ⟨R.la, R.lb, R.ii, R.mr, R.mode, R.pc, R.us, R.given, by show A.tick + 1 - _ = B.tick + 1 - _; have := R.tk; omega,
    (setne (by decide)).trans R.s3a, (setne (by decide)).trans R.s3b, (setne (by decide)).trans R.s4a, (setne (by decide)).trans R.s4b, R.ra, R.rb, R.ia, R.ib⟩
theorem Rl.enter {c : Pm} {A B : MS} (R : Rl c A B) (e e' x v : Int) : Rl c (A.enter e x v) (B.enter e' x v) :=
  ⟨R.la, R.lb, R.ii, R.mr, rfl, rfl, R.us, R.given, R.tk,
    ((setne (by decide)).trans ((setne (by decide)).trans ((setne (by decide)).trans (setne (by decide))))).trans R.s3a, ((setne (by decide)).trans ((setne (by decide)).trans ((setne (by decide)).trans (setne (by decide))))).trans R.s3b,
    ((setne (by decide)).trans ((setne (by decide)).trans ((setne (by decide)).trans (setne (by decide))))).trans R.s4a, ((setne (by decide)).trans ((setne (by decide)).trans ((setne (by decide)).trans (setne (by decide))))).trans R.s4b, R.ra, R.rb, R.ia, R.ib⟩
theorem take3 (l : List Int) (h : l.length = 7) (e c v x y : Int) : (((((l.set 0 e).set 1 c).set 2 v).set 6 x).set 5 y).take 3 = [e, c, v] := by
  match l, h with
  | [_, _, _, _, _, _, _], _ => rfl
theorem step_rel {c : Pm} {A B : MS} (R : Rl c A B) (gA : Good A) (gB : Good B) (hu : A.mode = "user") :
    Rl c A.step B.step ∧ A.step.tick = A.tick + 1 ∧ (A.tick % 65536 = A.sp.getD 4 0 → A.step.mode = "kernel") ∧ (A.step.mode = "user" ∨ A.step.mode = "kernel" ∧ A.step.sp.take 3 = B.step.sp.take 3) := by
  have hv : B.mode = "user" := R.mode.symm.trans hu
  rw [step_fin A false hu, step_fin B false hv]
  have T := R.take
  have wA := gA.wf.take
  have wB := gB.wf.take
  have t0 : A.take.tick = A.tick := rfl
  have sp0 : A.take.sp = A.sp := rfl
  have md : A.take.mode = "user" := hu
  have ec : A.take.tick % 65536 = A.take.sp.getD 4 0 ↔ B.take.tick % 65536 = B.take.sp.getD 4 0 := by
    rw [T.s4a, T.s4b]
    have := T.tk
    generalize A.take.tick = x at this
    generalize B.take.tick = y at this
    omega
  have OR : OutR c (outB A.take false) (outB B.take false) := by
    unfold outB
    by_cases z : A.take.tick % 65536 = A.take.sp.getD 4 0
    · rw [if_neg (by rintro (y | y); · cases y
                     · exact y z), if_neg (by rintro (y | y); · cases y
                                              · exact y (ec.mp z))]
      exact ⟨rfl, rfl⟩
    · rw [if_pos (.inr z), if_pos (.inr fun y => z (ec.mpr y))]
      exact done_rel T wA.pc.1
  have al : A.tick % 65536 = A.sp.getD 4 0 → outB A.take false = .tr 6 0 := fun z => by
    unfold outB
    rw [if_neg (by rintro (y | y); · cases y
                   · exact y z)]
  rw [← t0, ← sp0] at al
  rw [← t0, ← sp0]
  generalize A.take = A1 at *
  generalize B.take = B1 at *
  cases hA : outB A1 false with
  | nx a p =>
    rw [hA] at OR al
    cases hB : outB B1 false with
    | tr x v => rw [hB] at OR; exact OR.elim
    | nx b q =>
      rw [hB] at OR
      obtain ⟨R2, rfl⟩ := OR
      have kA := done_kept (outB_nx hA)
      have mA : a.mode = "user" := by
        have := outB_nx hA
        rw [← done_U] at this
        rw [(stepU_spl this).2.1]
        exact md
      have nb : ¬ a.mode = "broken" := by rw [mA]; decide +kernel
      refine ⟨?_, ?_, fun z => (nomatch (al z)), .inl ?_⟩
      · refine Rl.next ⟨R2.la, R2.lb, R2.ii, R2.mr, R2.mode, rfl, R2.us, R2.given, R2.tk, R2.s3a, R2.s3b, R2.s4a, R2.s4b, R2.ra, R2.rb, R2.ia, R2.ib⟩ nb
      · show (MS.next { a with pc := p }).tick = _
        unfold MS.next
        rw [if_neg nb, ← kA.tick]
      · show (MS.next { a with pc := p }).mode = _
        unfold MS.next
        rw [if_neg nb]
        exact mA
  | tr x v =>
    rw [hA] at OR al
    cases hB : outB B1 false with
    | nx b q => rw [hB] at OR; exact OR.elim
    | tr x' v' =>
      rw [hB] at OR
      obtain ⟨rfl, rfl⟩ := OR
      have nb : ∀ (m : MS) (e : Int), ¬ (m.enter e x v).mode = "broken" := fun m e => show ¬ ("kernel" : Str) = "broken" by decide +kernel
      refine ⟨(T.enter _ _ x v).next (nb _ _), ?_, fun _ => ?_, .inr ⟨?_, ?_⟩⟩
      · show (MS.next (A1.enter _ x v)).tick = _
        unfold MS.next
        rw [if_neg (nb _ _)]
        rfl
      · show (MS.next (A1.enter _ x v)).mode = _
        unfold MS.next
        rw [if_neg (nb _ _)]
        rfl
      · show (MS.next (A1.enter _ x v)).mode = _
        unfold MS.next
        rw [if_neg (nb _ _)]
        rfl
      · show (MS.next (A1.enter (if x = 3 then (A1.pc + 1) % 65536 else A1.pc) x v)).sp.take 3 = (MS.next (B1.enter (if x = 3 then (B1.pc + 1) % 65536 else B1.pc) x v)).sp.take 3
        unfold MS.next
        rw [if_neg (nb _ _), if_neg (nb _ _)]
        refine (take3 A1.sp wA.spl _ _ _ _ _).trans ((take3 B1.sp wB.spl _ _ _ _ _).trans ?_).symm
        rw [T.pc]
end K07
end

section
set_option linter.all false
set_option maxRecDepth 100000
set_option maxHeartbeats 1000000
set_option pp.deepTerms false
namespace K07
open PySem L2 Evl Wv

/-! ### what the law draws -/
theorem dL_toD (l : List Int) : (dL l).toD = .lst (dints l) := by
  show D.lst (T.toDs _) = _
  rw [← dats_ints, toDs_map]
theorem in_toD (l : List In3) : (T.lst (l.map fun i => T.dat (inD i))).toD = .lst (l.map inD) := by
  show D.lst (T.toDs _) = _
  rw [← dats_in, toDs_map]
theorem dL_app (l : List Int) (v : Int) : (l.map fun i => T.dat (.int i)) ++ [T.dat (.int v)] = (l ++ [v]).map fun i => T.dat (.int i) := by simp
theorem at_dints (l : List Int) {i : Int} (h0 : 0 ≤ i) (h1 : i < l.length) : atI (dints l) i = some (.int (l.getD i.toNat 0)) := by
  unfold atI
  rw [ix_nat (n := (dints l).length) h0 (by simpa [dints] using h1)]
  show (dints l)[i.toNat]? = _
  unfold dints
  rw [List.getElem?_map, List.getD_eq_getElem?_getD, List.getElem?_eq_getElem (by omega)]
  rfl
theorem in2 {x a b : Int} (h : inV (V.int x) [V.int a, V.int b] = true) : x = a ∨ x = b := by
  have h : ((a == x) || ((b == x) || false)) = true := h
  simp only [Bool.or_false, Bool.or_eq_true, beq_iff_eq] at h
  omega
theorem spec_lnumber (cell j : Int) (k : T → Roots → Prop) (kx : Exn → Roots → Prop) (hj : 0 ≤ j ∧ j < 1000000) (hk : ∀ v, 0 ≤ v → k (.dat (.int v)) []) : cLawNumber [.dat (.int cell), .dat (.int j)] [] k kx := by
  unfold cLawNumber cwOf
  refine ⟨rfl, ?_⟩
  unfold wdLawNumber
  refine ⟨⟨by decide, by decide, by decide⟩, fun c => ?_, fun _ => ?_⟩
  · have c : decide ((10 : Int) ^ (18 : Int).toNat ≤ cell) = true := c
    have c := of_decide_eq_true c
    have e : (10 : Int) ^ (18 : Int).toNat = 1000000000000000000 := by decide +kernel
    exact hk _ (by omega)
  refine ⟨Or.inr (by decide), Or.inr (by decide), (by show (0 : Int) < 2147483647; decide), ?_⟩
  have m0 : 0 ≤ (cell * 48271 + j * 69621 + 11) % 2147483647 := Int.emod_nonneg _ (by decide)
  have m1 : (cell * 48271 + j * 69621 + 11) % 2147483647 < 2147483647 := Int.emod_lt_of_pos _ (by decide)
  exact ⟨Or.inl ⟨by show -(2 ^ 64) < _; omega, by show _ < 2 ^ 64; omega⟩, Or.inr (by decide), (by show (0 : Int) < 2147483399; decide), hk _ (Int.emod_nonneg _ (by decide))⟩
theorem range_at {n i : Nat} {d : D} (h : ((List.range n).map fun i => D.int (i : Nat))[i]? = some d) : d = .int (i : Nat) ∧ i < n := by
  rw [List.getElem?_map] at h
  obtain ⟨q, hq, rfl⟩ := Option.map_eq_some_iff.mp h
  obtain ⟨h1, h2⟩ := List.getElem?_eq_some_iff.mp hq
  simp at h1 h2
  exact ⟨by rw [h2], h1⟩
theorem Ws.app {l : List Int} (h : Ws l) {v : Int} (hv : W v) : Ws (l ++ [v]) := fun x hx => by
  rcases List.mem_append.mp hx with z | z
  · exact h x z
  · rw [List.mem_singleton.mp z]; exact hv

def ops07 : List Int := [1, 2, 3, 4, 5, 6, 7, 8, 9, 10, 11, 12, 13, 12, 13, 11, 14, 15, 16, 17, 18, 19, 0, 22]
theorem ops07_bd (i : Nat) : 0 ≤ ops07.getD i 0 ∧ ops07.getD i 0 ≤ 22 := by
  rw [List.getD_eq_getElem?_getD]
  cases z : ops07[i]? with
  | none => exact ⟨by decide, by decide⟩
  | some x => exact (show ∀ x ∈ ops07, 0 ≤ x ∧ x ≤ 22 by decide) x (List.mem_of_getElem? z)
theorem b2i (b : Bool) : (if b = true then (1 : Int) else 0) = 0 ∨ (if b = true then (1 : Int) else 0) = 1 := by cases b <;> simp
theorem spec_lword (y : Int) (k : T → Roots → Prop) (kx : Exn → Roots → Prop) (hk : ∀ v, W v → k (.dat (.int v)) []) : cLawWord [.dat (.int y)] [] k kx := by
  unfold cLawWord cwOf
  refine ⟨rfl, ?_⟩
  unfold wdLawWord
  refine ⟨(by show (0 : Int) < 8; decide), ⟨by decide, by decide⟩, fun _ => ?_, fun _ => ⟨fun _ => ⟨(by show (0 : Int) < 140; decide), hk (y / 8 % 140) ⟨by omega, by omega⟩⟩, fun _ => ⟨(by show (0 : Int) < 65536; decide), hk _ (W.mod _)⟩⟩⟩
  refine ⟨by show 24 ≤ 1000; decide, (by show (0 : Int) < 24; decide), _, at_dints ops07 (i := y / 8 % 24) (by omega) (by show y / 8 % 24 < 24; omega), ?_⟩
  have o0 := ops07_bd (y / 8 % 24).toNat
  generalize ops07.getD (y / 8 % 24).toNat 0 = op at o0
  refine ⟨⟨by decide, by decide⟩, (by show (0 : Int) < 8; decide), ⟨by decide, by decide⟩, (by show (0 : Int) < 8; decide), ⟨by decide, by decide⟩, (by show (0 : Int) < 16; decide), ?_⟩
  have a0 : 0 ≤ y / 8 / 24 % 8 ∧ y / 8 / 24 % 8 < 8 := by omega
  have b0 : 0 ≤ y / 8 / 192 % 8 ∧ y / 8 / 192 % 8 < 8 := by omega
  have c0 : 0 ≤ y / 8 / 1536 % 16 ∧ y / 8 / 1536 % 16 < 16 := by omega
  refine ⟨by show 4 ≤ 1000; decide, rfl, rfl, fun _ => ?_, fun _ => ?_⟩
  · refine ⟨Or.inr ⟨by decide, by decide⟩, Or.inr ⟨by decide, by decide⟩, by show 2 ≤ 1000; decide, rfl, rfl, ?_⟩
    have i1 := b2i (inV (V.int op) [V.int 1, V.int 14])
    have i2 := b2i (decide (op = 19))
    refine ⟨?_, ?_, hk (op * 1024 + y / 8 / 24 % 8 * 128 * (if inV (V.int op) [V.int 1, V.int 14] = true then 1 else 0) + y / 8 / 1536 % 16 * (if decide (op = 19) = true then 1 else 0)) ?_⟩
    · show CMul _ (if inV (V.int op) [V.int 1, V.int 14] = true then 1 else 0)
      rcases i1 with i1 | i1 <;> rw [i1] <;> exact Or.inr ⟨by decide, by decide⟩
    · show CMul _ (if decide (op = 19) = true then 1 else 0)
      rcases i2 with i2 | i2 <;> rw [i2] <;> exact Or.inr ⟨by decide, by decide⟩
    · rcases i1 with i1 | i1 <;> rcases i2 with i2 | i2 <;> rw [i1, i2] <;> constructor <;> omega
  refine ⟨by show 2 ≤ 1000; decide, rfl, rfl, fun _ => ⟨Or.inr ⟨by decide, by decide⟩, Or.inr ⟨by decide, by decide⟩, Or.inr ⟨by decide, by decide⟩, hk _ ⟨by omega, by omega⟩⟩, fun _ => ?_⟩
  refine ⟨Or.inr ⟨by decide, by decide⟩, Or.inr ⟨by decide, by decide⟩, Or.inr ⟨by decide, by decide⟩, by show 2 ≤ 1000; decide, _, _, rfl, fun _ => ⟨rfl, rfl⟩, ?_⟩
  have i1 := b2i (decide (3 ≤ op) && decide (op ≤ 8))
  have hat : ∃ q : Int, (q = 16 ∨ q = 8) ∧ atI [D.int 16, D.int 8] (if (decide (3 ≤ op) && decide (op ≤ 8)) = true then 1 else 0) = some (.int q) := by
    rcases i1 with i1 | i1 <;> rw [i1]
    · exact ⟨16, .inl rfl, rfl⟩
    · exact ⟨8, .inr rfl, rfl⟩
  obtain ⟨q, hq, hat⟩ := hat
  refine ⟨_, hat, (by show (0 : Int) < q; omega), hk (op * 1024 + y / 8 / 24 % 8 * 128 + y / 8 / 192 % 8 * 16 + y / 8 / 1536 % 16 % q) ?_⟩
  have m0 : 0 ≤ y / 8 / 1536 % 16 % q := Int.emod_nonneg _ (by omega)
  have m1 : y / 8 / 1536 % 16 % q < q := Int.emod_lt_of_pos _ (by omega)
  constructor <;> omega
end K07
end

section
set_option linter.all false
set_option maxRecDepth 100000
set_option maxHeartbeats 1000000
set_option pp.deepTerms false
namespace K07
open PySem L2 Evl Wv

theorem spec_lrow (cell j0 : Int) (hj : 0 ≤ j0 ∧ j0 < 1000) (n : Nat) (hn : n ≤ 200) (k : T → Roots → Prop) (kx : Exn → Roots → Prop) (hk : ∀ l : List Int, Ws l → l.length = n → k (dL l) []) : cLawRow [.dat (.int cell), .dat (.int j0), .dat (.int (n : Int))] [] k kx := by
  unfold cLawRow cwOf
  refine ⟨rfl, ?_⟩
  unfold wdLawRow
  refine ⟨by show 0 ≤ 1000; decide, ?_⟩
  refine ⟨fun sl rt => ∃ r : Int, sl = [some (.dat (.int cell)), some (.dat (.int j0)), some (.dat (.int (n : Int))), some (.ref 0 []), some (.dat (.int r)), none] ∧ rt = [dL []], ?_, ?_⟩
  · exact ⟨⟨by decide, by decide, by decide⟩, fun c => ⟨cell, rfl, rfl⟩, fun _ => ⟨0, rfl, rfl⟩⟩
  rintro _ _ ⟨r, rfl, rfl⟩
  refine ⟨fun sl rt => ∃ (l : List Int) (r : Int) (y : Option Val), sl = [some (.dat (.int cell)), some (.dat (.int j0)), some (.dat (.int (n : Int))), some (.ref 0 []), some (.dat (.int r)), y] ∧ rt = [dL l] ∧ Ws l ∧ l.length = n, ?_, ?_⟩
  · refine ⟨by omega, by omega, fun i sl rt => ∃ (l : List Int) (r : Int) (y : Option Val), sl = [some (.dat (.int cell)), some (.dat (.int j0)), some (.dat (.int (n : Int))), some (.ref 0 []), some (.dat (.int r)), y] ∧ rt = [dL l] ∧ Ws l ∧ l.length = i, ⟨[], r, none, rfl, rfl, fun _ z => (nomatch z), rfl⟩, ?_, ?_⟩
    · rintro i d _ _ hd ⟨l, r, y, rfl, rfl, lw, ll⟩
      obtain ⟨rfl, hi⟩ := range_at hd
      rw [Int.toNat_natCast] at hi
      have hlt : (l.map fun i => T.dat (.int i)).length < 40000 := by rw [List.length_map]; omega
      refine ⟨fun _ => ?_, fun _ => ?_⟩
      · refine ⟨(by show (0 : Int) < 65536; decide), hlt, ⟨by decide, by decide⟩, .inl ⟨l ++ [r % 65536], r / 65536, _, rfl, ?_, lw.app (W.mod _), by rw [List.length_append, ll]; rfl⟩⟩
        show [T.lst (List.map _ l ++ [T.dat (.int _)])] = _
        rw [dL_app]
        rfl
      · refine ⟨(by show (0 : Int) < 1000003; decide), Or.inl ⟨by decide, by decide⟩, rfl, spec_lnumber _ _ _ _ (by omega) fun v _ => ⟨rfl, spec_lword v _ _ fun u hu => ⟨hlt, .inl ⟨l ++ [u], r, _, rfl, ?_, lw.app hu, by rw [List.length_append, ll]; rfl⟩⟩⟩⟩
        show [T.lst (List.map _ l ++ [T.dat (.int _)])] = _
        rw [dL_app]
        rfl
    · rintro _ _ ⟨l, r, y, rfl, rfl, lw, ll⟩
      exact ⟨l, r, y, rfl, rfl, lw, by simpa using ll⟩
  · rintro _ _ ⟨l, r, y, rfl, rfl, lw, ll⟩
    exact ⟨Nat.zero_le _, hk l lw ll⟩
/-! ### the eight pages -/
abbrev Pg := Nat × Int
def pgD (x : Pg) : D := .tup [.int (x.1 : Nat), .int x.2]
def pgT (l : List Pg) : T := .lst (l.map fun x => T.dat (pgD x))
def inT (l : List In3) : T := .lst (l.map fun x => T.dat (inD x))
structure Pn where
  w : List Int
  pg : List Pg
  us : List Int
  pc : Int
  al : Int
  I : List In3
structure PnOk (p : Pn) : Prop where
  wl : p.w.length = 96
  ww : Ws p.w
  pl : p.pg.length = 8
  pb : ∀ x ∈ p.pg, x.1 < 6 ∧ 0 ≤ x.2 ∧ x.2 < 8
  ul : p.us.length = 8
  uw : Ws p.us
  pc0 : 0 ≤ p.pc ∧ p.pc < 128
  al0 : 0 ≤ p.al ∧ p.al < 91
  il : p.I.length ≤ 12
  ib : ∀ x ∈ p.I, (0 ≤ x.2.1 ∧ x.2.1 < 2) ∧ W x.2.2
def frm (w : List Int) (k : Nat) : List Int := (w.drop (16 * k)).take 16
def frD (w : List Int) (n : Nat) : List D := (List.range n).map fun k => .lst (dints (frm w k))
def pnKeys : List Key := [Sum.inr "frames", Sum.inr "pages", Sum.inr "user", Sum.inr "pc", Sum.inr "alarm", Sum.inr "inputs"]
def pnT (p : Pn) : T := .dct pnKeys [.dat (.lst (frD p.w 6)), pgT p.pg, dL p.us, .dat (.int p.pc), .dat (.int p.al), inT p.I]
def rts07 : List Int := [7, 5, 3, 7, 1, 4, 6, 0]
theorem rts07_bd (i : Nat) : 0 ≤ rts07.getD i 0 ∧ rts07.getD i 0 < 8 := by
  rw [List.getD_eq_getElem?_getD]
  cases z : rts07[i]? with
  | none => exact ⟨by decide, by decide⟩
  | some x => exact (show ∀ x ∈ rts07, 0 ≤ x ∧ x < 8 by decide) x (List.mem_of_getElem? z)
def pS (x : Int) (words pages k y user inputs tick z frames : Option Val) : Slots := [some (.ref 0 []), some (.dat (.int x)), words, pages, k, y, user, inputs, tick, z, frames]
theorem cut16 (w : List Int) (hw : w.length = 96) (k : Nat) (hk : k < 6) : cutD (dints w) (some (16 * (k : Int))) (some (16 * (k : Int) + 16)) = dints (frm w k) := by
  have e' : (dints w).length = 96 := by simp [dints, hw]
  have h : k = 0 ∨ k = 1 ∨ k = 2 ∨ k = 3 ∨ k = 4 ∨ k = 5 := by omega
  unfold cutD
  rw [e']
  rcases h with rfl | rfl | rfl | rfl | rfl | rfl
  · rw [show HT.sIx 96 0 (some (16 * ((0 : Nat) : Int))) = 0 from rfl, show HT.sIx 96 96 (some (16 * ((0 : Nat) : Int) + 16)) = 16 from rfl]
    simp [dints, frm, List.map_take, List.map_drop]
  · rw [show HT.sIx 96 0 (some (16 * ((1 : Nat) : Int))) = 16 from rfl, show HT.sIx 96 96 (some (16 * ((1 : Nat) : Int) + 16)) = 32 from rfl]
    simp [dints, frm, List.map_take, List.map_drop]
  · rw [show HT.sIx 96 0 (some (16 * ((2 : Nat) : Int))) = 32 from rfl, show HT.sIx 96 96 (some (16 * ((2 : Nat) : Int) + 16)) = 48 from rfl]
    simp [dints, frm, List.map_take, List.map_drop]
  · rw [show HT.sIx 96 0 (some (16 * ((3 : Nat) : Int))) = 48 from rfl, show HT.sIx 96 96 (some (16 * ((3 : Nat) : Int) + 16)) = 64 from rfl]
    simp [dints, frm, List.map_take, List.map_drop]
  · rw [show HT.sIx 96 0 (some (16 * ((4 : Nat) : Int))) = 64 from rfl, show HT.sIx 96 96 (some (16 * ((4 : Nat) : Int) + 16)) = 80 from rfl]
    simp [dints, frm, List.map_take, List.map_drop]
  · rw [show HT.sIx 96 0 (some (16 * ((5 : Nat) : Int))) = 80 from rfl, show HT.sIx 96 96 (some (16 * ((5 : Nat) : Int) + 16)) = 96 from rfl]
    simp [dints, frm, List.map_take, List.map_drop]
theorem fr_toD (w : List Int) (n : Nat) : (T.lst ((List.range n).map fun k => T.lst ((dints (frm w k)).map .dat))).toD = .lst (frD w n) := by
  show D.lst (T.toDs _) = _
  unfold frD
  congr 1
  generalize List.range n = r
  induction r with
  | nil => rfl
  | cons a r ih =>
    show D.lst (T.toDs ((dints (frm w a)).map .dat)) :: T.toDs _ = _
    rw [ih, toDs_map]
    rfl
theorem spec_lplain (cs : List Int) (hc : 6 ≤ cs.length) (k : T → Roots → Prop) (kx : Exn → Roots → Prop) (hk : ∀ p : Pn, PnOk p → k (pnT p) [dL cs]) : cLawPlain [.ref 0 []] [dL cs] k kx := by
  unfold cLawPlain cwOf
  refine ⟨rfl, ?_⟩
  unfold wdLawPlain
  refine ⟨0, _, dL_ix cs (i := 0) (by decide) (by omega), dL_at cs 0 (by omega), rfl, spec_lnumber _ _ _ _ (by decide) fun x x0 => ?_⟩
  refine ⟨1, _, dL_ix cs (i := 1) (by decide) (by omega), dL_at cs 1 (by omega), rfl, spec_lrow _ 1 (by decide) 96 (by decide) _ _ fun w ww wl => ?_⟩
  refine tn (sl' := pS x (some (.dat (.lst (dints w)))) none none none none none none none none) (rt' := [dL cs]) (by rw [← dL_toD w]; rfl) rfl ?_
  refine ⟨by show 0 ≤ 1000; decide, ?_⟩
  -- the pages
  refine ⟨fun sl rt => ∃ (pg : List Pg) (y z : Option Val), sl = pS x (some (.dat (.lst (dints w)))) (some (.ref 1 [])) y z none none none none none ∧ rt = [dL cs, pgT pg] ∧ pg.length = 8 ∧ ∀ q ∈ pg, q.1 < 6 ∧ 0 ≤ q.2 ∧ q.2 < 8, ?_, ?_⟩
  · refine ⟨by decide, by decide, fun i sl rt => ∃ (pg : List Pg) (y z : Option Val), sl = pS x (some (.dat (.lst (dints w)))) (some (.ref 1 [])) y z none none none none none ∧ rt = [dL cs, pgT pg] ∧ pg.length = i ∧ ∀ q ∈ pg, q.1 < 6 ∧ 0 ≤ q.2 ∧ q.2 < 8, ⟨[], none, none, rfl, rfl, rfl, fun _ z => (nomatch z)⟩, ?_, ?_⟩
    · rintro i d _ _ hd ⟨pg, y, z, rfl, rfl, pl, pb⟩
      obtain ⟨rfl, hi⟩ := range_at hd
      have hi : i < 8 := hi
      refine ⟨2, _, dL_ix cs (i := 2) (by decide) (by omega), dL_at cs 2 (by omega), ⟨by decide, by decide⟩, Or.inl ⟨by decide, by decide⟩, rfl, spec_lnumber _ _ _ _ (by omega) fun v v0 => ?_⟩
      refine ⟨(by show (0 : Int) < 6; decide), by show 8 ≤ 1000; decide, ⟨by decide, by decide⟩, (by show (0 : Int) < 8; decide), _, at_dints rts07 (i := v / 6 % 8) (by omega) (by show v / 6 % 8 < 8; omega), by show 2 ≤ 1000; decide, by rw [List.length_map]; omega, ?_⟩
      have r0 := rts07_bd (v / 6 % 8).toNat
      generalize rts07.getD (v / 6 % 8).toNat 0 = r at r0
      have e6 : (((v % 6).toNat : Nat) : Int) = v % 6 := by omega
      refine .inl ⟨pg ++ [((v % 6).toNat, r)], _, _, rfl, ?_, by rw [List.length_append, pl]; rfl, fun q hq => ?_⟩
      · show [dL cs, T.lst (List.map _ pg ++ [_])] = [dL cs, T.lst (List.map _ (pg ++ [_]))]
        rw [List.map_append]
        show _ = [dL cs, T.lst (_ ++ [T.dat (.tup [.int (((v % 6).toNat : Nat) : Int), .int r])])]
        rw [e6]
      · rcases List.mem_append.mp hq with h | h
        · exact pb q h
        · rw [List.mem_singleton.mp h]
          exact ⟨by show (v % 6).toNat < 6; omega, r0.1, r0.2⟩
    · rintro _ _ ⟨pg, y, z, rfl, rfl, pl, pb⟩
      exact ⟨pg, y, z, rfl, rfl, pl, pb⟩
  rintro _ _ ⟨pg, y1, y2, rfl, rfl, pgl, pgb⟩
  -- the registers
  refine ⟨by decide, by decide, fun i acc rt => ∃ l : List Int, acc = l.map (fun i => T.dat (.int i)) ∧ rt = [dL cs, pgT pg] ∧ l.length = i ∧ Ws l, ⟨[], rfl, rfl, rfl, fun _ z => (nomatch z)⟩, ?_, ?_⟩
  · rintro i d acc _ hd ⟨l, rfl, rfl, ll, lw⟩
    obtain ⟨rfl, hi⟩ := range_at hd
    have hi : i < 8 := hi
    refine ⟨by rw [List.length_map]; omega, fun _ => ?_, fun z => (nomatch z)⟩
    refine ⟨2, _, dL_ix cs (i := 2) (by decide) (by omega), dL_at cs 2 (by omega), rfl, spec_lrow _ 60 (by decide) 8 (by decide) _ _ fun u uw ul => ?_⟩
    refine ⟨_, (by show atI (T.toDs (u.map fun i => T.dat (.int i))) (i : Int) = _; rw [← dats_ints, toDs_map]; exact at_dints u (i := (i : Int)) (by omega) (by omega)), l ++ [u.getD ((i : Int)).toNat 0], dL_app l _, rfl, by rw [List.length_append, ll]; rfl, lw.app (uw.get _)⟩
  rintro acc _ ⟨us, rfl, rfl, usl, usw⟩
  have usl : us.length = 8 := usl
  refine tn (sl' := pS x (some (.dat (.lst (dints w)))) (some (.ref 1 [])) y1 y2 (some (.ref 2 [])) none none none none) (rt' := [dL cs, pgT pg, dL us]) rfl rfl ?_
  refine ⟨fun sl rt => ∃ (us : List Int) (y z : Option Val), sl = pS x (some (.dat (.lst (dints w)))) (some (.ref 1 [])) y z (some (.ref 2 [])) none none none none ∧ rt = [dL cs, pgT pg, dL us] ∧ us.length = 8 ∧ Ws us, ?_, ?_⟩
  · refine ⟨by decide, by decide, fun i sl rt => ∃ (us : List Int) (y z : Option Val), sl = pS x (some (.dat (.lst (dints w)))) (some (.ref 1 [])) y z (some (.ref 2 [])) none none none none ∧ rt = [dL cs, pgT pg, dL us] ∧ us.length = 8 ∧ Ws us, ⟨us, y1, y2, rfl, rfl, usl, usw⟩, ?_, ?_⟩
    · rintro i d _ _ hd ⟨us, y, z, rfl, rfl, ul, uw⟩
      obtain ⟨rfl, hi⟩ := range_at hd
      have hi : i < 8 := hi
      refine ⟨⟨by show (0 : Int) < 3 + (i : Nat); omega, by show (3 + (i : Nat) : Int) < 1073741824; omega⟩, (by show (0 : Int) < 2; decide), fun _ => ?_, fun _ => .inl ⟨us, _, _, rfl, rfl, ul, uw⟩⟩
      refine ⟨_, _, dL_ix us (i := (i : Nat)) (by omega) (by omega), dL_at us _ (by omega), (by show (0 : Int) < 130; decide), _, _, dL_ix us (i := (i : Nat)) (by omega) (by omega), dL_at us _ (by omega), rfl, ?_⟩
      refine .inl ⟨us.set ((i : Nat) : Int).toNat (us.getD ((i : Nat) : Int).toNat 0 % 130), _, _, rfl, ?_, by rw [List.length_set, ul], uw.set _ ⟨by omega, by omega⟩⟩
      show [dL cs, pgT pg, T.lst ((us.map fun i => T.dat (.int i)).set _ (.dat (.int _)))] = _
      rw [dL_set]
      rfl
    · rintro _ _ h
      exact h
  rintro _ _ ⟨us, y1, y2, rfl, rfl, usl, usw⟩
  refine ⟨by show 0 ≤ 1000; decide, 3, _, dL_ix cs (i := 3) (by decide) (by omega), dL_at cs 3 (by omega), rfl, spec_lnumber _ _ _ _ (by decide) fun z0 z00 => ?_⟩
  -- the inputs
  refine ⟨fun sl rt => ∃ (I : List In3) (t : Int) (y z : Option Val), sl = pS x (some (.dat (.lst (dints w)))) (some (.ref 1 [])) y z (some (.ref 2 [])) (some (.ref 3 [])) (some (.dat (.int t))) (some (.dat (.int z0))) none ∧ rt = [dL cs, pgT pg, dL us, inT I] ∧ I.length ≤ 12 ∧ ∀ q ∈ I, (0 ≤ q.2.1 ∧ q.2.1 < 2) ∧ W q.2.2, ?_, ?_⟩
  · refine ⟨(by show (0 : Int) < 13; decide), by omega, by omega, fun i sl rt => ∃ (I : List In3) (t : Int) (y z : Option Val), sl = pS x (some (.dat (.lst (dints w)))) (some (.ref 1 [])) y z (some (.ref 2 [])) (some (.ref 3 [])) (some (.dat (.int t))) (some (.dat (.int z0))) none ∧ rt = [dL cs, pgT pg, dL us, inT I] ∧ I.length = i ∧ ∀ q ∈ I, (0 ≤ q.2.1 ∧ q.2.1 < 2) ∧ W q.2.2, ⟨[], 0, y1, y2, rfl, rfl, rfl, fun _ z => (nomatch z)⟩, ?_, ?_⟩
    · rintro i d _ _ hd ⟨I, t, y, z, rfl, rfl, il, ib⟩
      obtain ⟨rfl, hi⟩ := range_at hd
      have hi : i < (z0 % 13).toNat := hi
      refine ⟨3, _, dL_ix cs (i := 3) (by decide) (by omega), dL_at cs 3 (by omega), ⟨by decide, by decide⟩, rfl, spec_lnumber _ _ _ _ (by omega) fun v v0 => ?_⟩
      refine ⟨by show 5 ≤ 1000; decide, (by show (0 : Int) < 5; decide), _, at_dints [0, 1, 2, 5, 9] (i := v % 5) (by omega) (by show v % 5 < 5; omega), ?_⟩
      refine ⟨⟨by decide, by decide⟩, (by show (0 : Int) < 2; decide), ⟨by decide, by decide⟩, (by show (0 : Int) < 65536; decide), by show 3 ≤ 1000; decide, by rw [List.length_map]; omega, ?_⟩
      refine .inl ⟨I ++ [(t + [0, 1, 2, 5, 9].getD (v % 5).toNat 0, v / 5 % 2, v / 10 % 65536)], _, _, _, rfl, ?_, by rw [List.length_append, il]; rfl, fun q hq => ?_⟩
      · show [dL cs, pgT pg, dL us, T.lst (List.map _ I ++ [_])] = [dL cs, pgT pg, dL us, T.lst (List.map _ (I ++ [_]))]
        rw [List.map_append]
        rfl
      · rcases List.mem_append.mp hq with h | h
        · exact ib q h
        · rw [List.mem_singleton.mp h]
          exact ⟨⟨by show 0 ≤ v / 5 % 2; omega, by show v / 5 % 2 < 2; omega⟩, W.mod _⟩
    · rintro _ _ ⟨I, t, y, z, rfl, rfl, il, ib⟩
      refine ⟨I, t, y, z, rfl, rfl, ?_, ib⟩
      rw [List.length_map, List.length_range] at il
      omega
  rintro _ _ ⟨I, t, y3, y4, rfl, rfl, il, ib⟩
  -- the frames
  refine ⟨by decide, by decide, fun i acc rt => acc = ((List.range i).map fun k => T.lst ((dints (frm w k)).map .dat)) ∧ rt = [dL cs, pgT pg, dL us, inT I], ⟨rfl, rfl⟩, ?_, ?_⟩
  · rintro i d acc _ hd ⟨rfl, rfl⟩
    obtain ⟨rfl, hi⟩ := range_at hd
    have hi : i < 6 := hi
    refine ⟨by rw [List.length_map, List.length_range]; omega, fun _ => ?_, fun z => (nomatch z)⟩
    refine ⟨Or.inl ⟨by decide, by decide⟩, Or.inl ⟨by decide, by decide⟩, dints w, rfl, ?_, rfl⟩
    rw [List.range_succ, List.map_append]
    show _ ++ [T.lst ((cutD (dints w) (some (16 * (i : Int))) (some (16 * (i : Int) + 16))).map .dat)] = _
    rw [cut16 w wl i hi]
    rfl
  rintro acc _ ⟨rfl, rfl⟩
  refine tn (sl' := pS x (some (.dat (.lst (dints w)))) (some (.ref 1 [])) y3 y4 (some (.ref 2 [])) (some (.ref 3 [])) (some (.dat (.int t))) (some (.dat (.int z0))) (some (.dat (.lst (frD w 6))))) (rt' := [dL cs, pgT pg, dL us, inT I]) (by rw [← fr_toD w 6]; rfl) rfl ?_
  refine ⟨by decide +kernel, by show 6 ≤ 15; decide, ?_⟩
  refine ⟨⟨by decide, by decide⟩, (by show (0 : Int) < 128; decide), ⟨by decide, by decide⟩, (by show (0 : Int) < 91; decide), ?_⟩
  exact hk ⟨w, pg, us, x / 19 % 128, x / 5 % 91, I⟩ ⟨wl, ww, pgl, pgb, usl, usw, by show 0 ≤ x / 19 % 128 ∧ x / 19 % 128 < 128; omega, by show 0 ≤ x / 5 % 91 ∧ x / 5 % 91 < 91; omega, il, ib⟩
end K07
end

section
set_option linter.all false
set_option maxRecDepth 100000
set_option maxHeartbeats 1000000
set_option pp.deepTerms false
namespace K07
open PySem L2 Evl Wv

/-! ### a world of the eight pages -/
theorem kp_fr : kat pnKeys (Sum.inr "frames") = some 0 := by decide +kernel
theorem kp_pg : kat pnKeys (Sum.inr "pages") = some 1 := by decide +kernel
theorem kp_us : kat pnKeys (Sum.inr "user") = some 2 := by decide +kernel
theorem kp_pc : kat pnKeys (Sum.inr "pc") = some 3 := by decide +kernel
theorem kp_al : kat pnKeys (Sum.inr "alarm") = some 4 := by decide +kernel
theorem kp_in : kat pnKeys (Sum.inr "inputs") = some 5 := by decide +kernel
def pnD (p : Pn) : D := .dct pnKeys [.lst (frD p.w 6), .lst (p.pg.map pgD), .lst (dints p.us), .int p.pc, .int p.al, .lst (p.I.map inD)]
theorem toDs_map' {α : Type} (f : α → D) (l : List α) : T.toDs (l.map fun x => T.dat (f x)) = l.map f := by
  have := toDs_map (l.map f)
  rw [List.map_map] at this
  exact this
theorem pn_toD (p : Pn) : (pnT p).toD = pnD p := by
  show D.dct pnKeys [D.lst (frD p.w 6), D.lst (T.toDs _), D.lst (T.toDs _), .int p.pc, .int p.al, D.lst (T.toDs _)] = _
  rw [toDs_map', toDs_map', toDs_map']
  rfl
theorem erase_map (l : List Int) : ∀ j : Nat, (l.map fun i => T.dat (.int i)).eraseIdx j = (l.eraseIdx j).map fun i => T.dat (.int i) := by
  induction l with
  | nil => exact fun _ => rfl
  | cons a l ih =>
    intro j
    cases j with
    | zero => rfl
    | succ j =>
      show _ :: (l.map _).eraseIdx j = _ :: (l.eraseIdx j).map _
      rw [ih j]
theorem erase_perm : ∀ {l : List Int} {j : Nat}, j < l.length → (l.getD j 0 :: l.eraseIdx j).Perm l
  | [], _, h => by simp at h
  | a :: l, 0, _ => List.Perm.refl _
  | a :: l, j + 1, h => by
    have ih := erase_perm (l := l) (j := j) (by simpa using h)
    show (l.getD j 0 :: a :: l.eraseIdx j).Perm (a :: l)
    exact (List.Perm.swap _ _ _).trans (ih.cons a)
theorem nodup_getD {l : List Int} (h : l.Nodup) {i j : Nat} (hi : i < l.length) (hj : j < l.length) (e : l.getD i 0 = l.getD j 0) : i = j := by
  have h := List.pairwise_iff_getElem.mp h
  rw [List.getD_eq_getElem?_getD, List.getD_eq_getElem?_getD, List.getElem?_eq_getElem hi, List.getElem?_eq_getElem hj] at e
  have e : l[i] = l[j] := e
  by_cases a : i < j
  · exact absurd e (h i j hi hj a)
  · by_cases b : j < i
    · exact absurd e.symm (h j i hj hi b)
    · omega
structure Wld (p : Pn) (m0 P : List Int) (base st : Int) (M : MS) : Prop where
  lay : Lay m0 P base (p.pg.map Prod.fst) (p.pg.map Prod.snd)
  fr : ∀ k o, k < 6 → o < 16 → m0.getD (pl P k o) 0 = p.w.getD (16 * k + o) 0
  good : Good M
  mem : M.mem = m0
  mode : M.mode = "user"
  pc : M.pc = p.pc
  us : M.us = p.us
  given : M.given = 0
  tick : M.tick = st
  s3 : M.sp.getD 3 0 = base
  s4 : M.sp.getD 4 0 = (st + p.al) % 65536
  rings : M.rings = [16 * P.getD 0 0, 16 * P.getD 1 0]
  ins : M.ins = p.I.map (sh st)
def wS (p : Pn) (x size : Int) (mem at_ left k rest places base frame rights start specials kernel state inputs machine : Option Val) : Slots :=
  [some (.dat (pnD p)), some (.dat (.int x)), some (.dat (.int size)), mem, at_, left, k, rest, places, base, frame, rights, start, specials, kernel, state, inputs, none, none, none, machine]
theorem st_at (x : Int) : ∃ t : Int, 0 ≤ t ∧ t < 400000 ∧ atI [D.int 0, .int 65500, .int (x / 31 % 400000)] (x / 11 % 3) = some (.int t) := by
  have h0 : 0 ≤ x / 11 % 3 := by omega
  have h1 : x / 11 % 3 < 3 := by omega
  generalize x / 11 % 3 = q at h0 h1
  have : q = 0 ∨ q = 1 ∨ q = 2 := by omega
  rcases this with rfl | rfl | rfl
  · exact ⟨0, by decide, by decide, rfl⟩
  · exact ⟨65500, by decide, by decide, rfl⟩
  · exact ⟨x / 31 % 400000, by omega, by omega, rfl⟩
theorem leaf_ints (l : List Int) : (l.map fun i => T.dat (.int i)).all leafT = true := by
  rw [List.all_eq_true]
  intro t ht
  obtain ⟨i, _, rfl⟩ := List.mem_map.mp ht
  rfl
theorem toDs_dL (l : List Int) : T.toDs (l.map fun i => T.dat (.int i)) = dints l := by rw [← dats_ints, toDs_map]
theorem sq_nat {j n : Nat} (h : j < n) : seqIndex? ((j : Nat) : Int) n = some j := by
  have h1 : ¬ ((j : Int) < 0) := by omega
  have h2 : (decide (0 ≤ (j : Int)) && decide ((j : Int) < (n : Int))) = true := by
    rw [Bool.and_eq_true, decide_eq_true_eq, decide_eq_true_eq]
    omega
  show (if (decide (0 ≤ (if (j : Int) < 0 then (j : Int) + (n : Int) else (j : Int))) && decide ((if (j : Int) < 0 then (j : Int) + (n : Int) else (j : Int)) < (n : Int))) = true then some (Int.toNat (if (j : Int) < 0 then (j : Int) + (n : Int) else (j : Int))) else none) = some j
  rw [if_neg h1, if_pos h2]
  rfl
theorem spec_lworld (p : Pn) (hp : PnOk p) (x : Int) (hx : 0 ≤ x) (k : Val → Roots → Prop)
    (hk : ∀ (m0 P : List Int) (base st : Int) (M : MS) (a : Addr) (g0 g1 g2 : T), Wld p m0 P base st M → k (.dat (.tup [.cst (.ref a), .lst (dints P), .int st, .lst (dints m0)])) [g0, g1, g2, M.T a]) :
    cLawWorld [.dat (pnD p), .dat (.int x)] k := by
  unfold cLawWorld cwOfR
  refine ⟨rfl, ?_⟩
  unfold wdLawWorld
  refine ⟨(by show (0 : Int) < 9; decide), Or.inl ⟨by decide, by decide⟩, ?_⟩
  obtain ⟨n, hn, e⟩ : ∃ n : Nat, (9 ≤ n ∧ n ≤ 17) ∧ ((16 * n : Nat) : Int) = 16 * (9 + x % 9) := ⟨(9 + x % 9).toNat, by omega, by omega⟩
  refine tn (sl' := wS p x ((16 * n : Nat) : Int) none none none none none none none none none none none none none none none) (rt' := []) (by rw [e]; rfl) rfl ?_
  -- the memory
  refine ⟨by omega, by omega, fun i acc rt => ∃ l : List Int, acc = l.map (fun i => T.dat (.int i)) ∧ rt = [] ∧ l.length = i ∧ Ws l, ⟨[], rfl, rfl, rfl, fun _ z => (nomatch z)⟩, ?_, ?_⟩
  · rintro i d acc _ hd ⟨l, rfl, rfl, ll, lw⟩
    obtain ⟨rfl, hi⟩ := range_at hd
    have hi : i < ((16 * n : Nat) : Int).toNat := hi
    rw [Int.toNat_natCast] at hi
    refine ⟨by rw [List.length_map]; omega, fun _ => ?_, fun z => (nomatch z)⟩
    exact ⟨Or.inl ⟨by decide, by decide⟩, rfl, spec_lnumber _ _ _ _ (by omega) fun v _ => ⟨⟨by decide, by decide⟩, (by show (0 : Int) < 65536; decide), l ++ [v / 3 % 65536], dL_app l _, rfl, by rw [List.length_append, ll]; rfl, lw.app (W.mod _)⟩⟩
  rintro acc _ ⟨mem, rfl, rfl, ml, mw⟩
  rw [List.length_map, List.length_range, Int.toNat_natCast] at ml
  refine tn (sl' := wS p x ((16 * n : Nat) : Int) (some (.ref 0 [])) none none none none none none none none none none none none none none) (rt' := [dL mem]) rfl rfl ?_
  -- what is left
  refine ⟨⟨by decide, by decide⟩, by omega, by omega, fun i acc rt => acc = (((List.range i).map fun j : Nat => (j : Int)).map fun i => T.dat (.int i)) ∧ rt = [dL mem], ⟨rfl, rfl⟩, ?_, ?_⟩
  · rintro i d acc _ hd ⟨rfl, rfl⟩
    obtain ⟨rfl, hi⟩ := range_at hd
    refine ⟨by rw [List.length_map, List.length_map, List.length_range]; omega, fun _ => ⟨?_, rfl⟩, fun z => (nomatch z)⟩
    rw [List.range_succ, List.map_append, List.map_append]
    rfl
  rintro acc _ ⟨rfl, rfl⟩
  rw [List.length_map, List.length_range, show (((16 * n : Nat) : Int) / 16).toNat = n by omega]
  have nd0 : (((List.range n).map fun j : Nat => (j : Int))).Nodup := by
    rw [List.nodup_iff_pairwise_ne, List.pairwise_map]
    exact (List.nodup_range (n := n)).imp fun h z => h (by omega)
  have bd0 : ∀ z ∈ ((List.range n).map fun j : Nat => (j : Int)), 0 ≤ z ∧ z < n := fun z hz => by
    obtain ⟨j, hj, rfl⟩ := List.mem_map.mp hz
    have := List.mem_range.mp hj
    omega
  have ln0 : ((List.range n).map fun j : Nat => (j : Int)).length = n := by simp
  generalize ((List.range n).map fun j : Nat => (j : Int)) = L0 at nd0 bd0 ln0
  refine tn (sl' := wS p x ((16 * n : Nat) : Int) (some (.ref 0 [])) none (some (.ref 1 [])) none none none none none none none none none none none none) (rt' := [dL mem, dL L0]) rfl rfl ?_
  refine ⟨⟨by decide, by decide⟩, by show 0 ≤ 1000; decide, ?_⟩
  -- the places
  refine ⟨fun sl rt => ∃ (pl left : List Int) (r : Int) (y : Option Val), sl = wS p x ((16 * n : Nat) : Int) (some (.ref 0 [])) none (some (.ref 1 [])) y (some (.dat (.int r))) (some (.ref 2 [])) none none none none none none none none none ∧ rt = [dL mem, dL left, dL pl] ∧ 0 ≤ r ∧ pl.length = 7 ∧ pl.Nodup ∧ ∀ z ∈ pl, 0 ≤ z ∧ z < n, ?_, ?_⟩
  · refine ⟨by decide, by decide, fun i sl rt => ∃ (pl left : List Int) (r : Int) (y : Option Val), sl = wS p x ((16 * n : Nat) : Int) (some (.ref 0 [])) none (some (.ref 1 [])) y (some (.dat (.int r))) (some (.ref 2 [])) none none none none none none none none none ∧ rt = [dL mem, dL left, dL pl] ∧ 0 ≤ r ∧ pl.length = i ∧ left.length + i = n ∧ (pl ++ left).Nodup ∧ ∀ z ∈ pl ++ left, 0 ≤ z ∧ z < n, ⟨[], L0, x / 9, none, rfl, rfl, by omega, rfl, by omega, nd0, bd0⟩, ?_, ?_⟩
    · rintro i d _ _ hd ⟨pl, left, r, y, rfl, rfl, r0, pll, lfl, nd, bd⟩
      obtain ⟨rfl, hi⟩ := range_at hd
      have hi : i < 7 := hi
      have q0 : 0 ≤ r % (left.length : Int) := Int.emod_nonneg _ (by omega)
      have q1 : r % (left.length : Int) < left.length := Int.emod_lt_of_pos _ (by omega)
      obtain ⟨j, hj⟩ : ∃ j : Nat, (j : Int) = r % (left.length : Int) := ⟨(r % (left.length : Int)).toNat, by omega⟩
      have jl : j < left.length := by omega
      have pm := erase_perm jl
      have pm2 : (pl ++ [left.getD j 0] ++ left.eraseIdx j).Perm (pl ++ left) := by
        rw [List.append_assoc]
        exact List.Perm.append_left pl pm
      refine ⟨?_, ?_⟩
      · show (0 : Int) < ((left.map fun i => T.dat (.int i)).length : Int)
        rw [List.length_map]
        omega
      show ((-100000 : Int) ≤ r % ((left.map fun i => T.dat (.int i)).length : Int) ∧ r % ((left.map fun i => T.dat (.int i)).length : Int) ≤ 100000) ∧ _
      rw [List.length_map, ← hj]
      refine ⟨⟨by omega, by omega⟩, leaf_ints left, j, .int (left.getD j 0), sq_nat jl, dL_at left j jl, by show (List.map _ pl).length < 40000; rw [List.length_map]; omega, ⟨by decide, by decide⟩, ?_⟩
      refine .inl ⟨pl ++ [left.getD j 0], left.eraseIdx j, r / 17, _, rfl, ?_, by omega, by rw [List.length_append, pll]; rfl, by rw [List.length_eraseIdx, if_pos jl]; omega, pm2.nodup_iff.mpr nd, fun z hz => bd z (pm2.mem_iff.mp hz)⟩
      show [dL mem, T.lst ((left.map fun i => T.dat (.int i)).eraseIdx j), T.lst (List.map _ pl ++ [T.dat (.int _)])] = _
      rw [erase_map, dL_app]
      rfl
    · rintro _ _ ⟨pl, left, r, y, rfl, rfl, r0, pll, lfl, nd, bd⟩
      exact ⟨pl, left, r, y, rfl, rfl, r0, pll, (List.nodup_append.mp nd).1, fun z hz => bd z (List.mem_append_left _ hz)⟩
  rintro _ _ ⟨places, left, r, y, rfl, rfl, r0, pll, nd, bd⟩
  obtain ⟨a0, a1, a2, a3, a4, a5, a6, rfl⟩ : ∃ a0 a1 a2 a3 a4 a5 a6 : Int, places = [a0, a1, a2, a3, a4, a5, a6] := by
    match places, pll with
    | [a, b, c, d, e, f, g], _ => exact ⟨_, _, _, _, _, _, _, rfl⟩
  obtain ⟨P, hP⟩ : ∃ P : List Int, P = [a0, a1, a2, a3, a4, a5] := ⟨_, rfl⟩
  have g6 : ∀ k : Nat, k < 6 → ([a0, a1, a2, a3, a4, a5, a6] : List Int).getD k 0 = P.getD k 0 := fun k hk => by
    have : k = 0 ∨ k = 1 ∨ k = 2 ∨ k = 3 ∨ k = 4 ∨ k = 5 := by omega
    rw [hP]
    rcases this with rfl | rfl | rfl | rfl | rfl | rfl <;> rfl
  have pbd : ∀ k : Nat, k < 6 → 0 ≤ P.getD k 0 ∧ P.getD k 0 < n := fun k hk => by
    rw [← g6 k hk]
    refine bd _ ?_
    rw [List.getD_eq_getElem?_getD, List.getElem?_eq_getElem (show k < [a0, a1, a2, a3, a4, a5, a6].length by show k < 7; omega)]
    exact List.getElem_mem _
  have b6 := bd a6 (by simp)
  have PLn : PL P (16 * n) := ⟨by rw [hP]; rfl, fun k hk => by have := pbd k hk; omega, fun i j hi hj e => nodup_getD nd (show i < 7 by omega) (show j < 7 by omega) (by rw [g6 i hi, g6 j hj]; exact e)⟩
  have n6 : ∀ k : Nat, k < 6 → a6 ≠ P.getD k 0 := fun k hk e => by
    have := nodup_getD nd (i := 6) (j := k) (show 6 < 7 by omega) (show k < 7 by omega) (by rw [g6 k hk]; exact e)
    omega
  have r9 : 0 ≤ r % 9 ∧ r % 9 < 9 := by omega
  refine ⟨6, .dat (.int a6), rfl, rfl, Or.inl ⟨by decide, by decide⟩, (by show (0 : Int) < 9; decide), ?_⟩
  obtain ⟨base, hbase⟩ : ∃ b, b = 16 * a6 + r % 9 := ⟨_, rfl⟩
  refine tn (sl' := wS p x ((16 * n : Nat) : Int) (some (.ref 0 [])) none (some (.ref 1 [])) y (some (.dat (.int r))) (some (.ref 2 [])) (some (.dat (.int base))) none none none none none none none none) (rt' := [dL mem, dL left, dL [a0, a1, a2, a3, a4, a5, a6]]) (by rw [hbase]; rfl) rfl ?_
  -- the frames
  refine ⟨fun sl rt => ∃ (m : List Int) (y z : Option Val), sl = wS p x ((16 * n : Nat) : Int) (some (.ref 0 [])) z (some (.ref 1 [])) y (some (.dat (.int r))) (some (.ref 2 [])) (some (.dat (.int base))) none none none none none none none none ∧ rt = [dL m, dL left, dL [a0, a1, a2, a3, a4, a5, a6]] ∧ m.length = 16 * n ∧ Ws m ∧ ∀ k o, k < 6 → o < 16 → m.getD (pl P k o) 0 = p.w.getD (16 * k + o) 0, ?_, ?_⟩
  · refine ⟨by decide, by decide, fun i sl rt => ∃ (m : List Int) (y z : Option Val), sl = wS p x ((16 * n : Nat) : Int) (some (.ref 0 [])) z (some (.ref 1 [])) y (some (.dat (.int r))) (some (.ref 2 [])) (some (.dat (.int base))) none none none none none none none none ∧ rt = [dL m, dL left, dL [a0, a1, a2, a3, a4, a5, a6]] ∧ m.length = 16 * n ∧ Ws m ∧ ∀ k o, k < i → o < 16 → m.getD (pl P k o) 0 = p.w.getD (16 * k + o) 0, ⟨mem, y, none, rfl, rfl, ml, mw, fun k o h => absurd h (by omega)⟩, ?_, fun _ _ h => h⟩
    rintro i d _ _ hd ⟨m, y, z, rfl, rfl, mml, mmw, fill⟩
    obtain ⟨rfl, hi⟩ := range_at hd
    have hi : i < 6 := hi
    refine ⟨by decide, by decide, fun j sl rt => ∃ (m : List Int) (z : Option Val), sl = wS p x ((16 * n : Nat) : Int) (some (.ref 0 [])) z (some (.ref 1 [])) (some (.dat (.int (i : Nat)))) (some (.dat (.int r))) (some (.ref 2 [])) (some (.dat (.int base))) none none none none none none none none ∧ rt = [dL m, dL left, dL [a0, a1, a2, a3, a4, a5, a6]] ∧ m.length = 16 * n ∧ Ws m ∧ ∀ k o, k < i ∨ (k = i ∧ o < j) → o < 16 → m.getD (pl P k o) 0 = p.w.getD (16 * k + o) 0, ⟨m, z, rfl, rfl, mml, mmw, fun k o h => fill k o (by omega)⟩, ?_, ?_⟩
    · rintro j d _ _ hd ⟨m, z, rfl, rfl, mml, mmw, fill⟩
      obtain ⟨rfl, hj⟩ := range_at hd
      have hj : j < 16 := hj
      have wl := hp.wl
      have fl : (frm p.w i).length = 16 := by unfold frm; rw [List.length_take, List.length_drop]; omega
      refine ⟨0, _, kp_fr, rfl, .lst (dints (frm p.w i)), ?_, _, at_dints (frm p.w i) (i := (j : Nat)) (by omega) (by omega), ?_⟩
      · show atI (frD p.w 6) (i : Int) = _
        unfold atI
        rw [show ixN (frD p.w 6).length (i : Int) = some i from (by have := ix_nat (n := (frD p.w 6).length) (i := (i : Int)) (by omega) (by unfold frD; rw [List.length_map, List.length_range]; omega); rw [this, Int.toNat_natCast])]
        show (frD p.w 6)[i]? = _
        unfold frD
        rw [List.getElem?_map, List.getElem?_range hi]
        rfl
      have gi : ([a0, a1, a2, a3, a4, a5, a6] : List Int).getD ((i : Nat) : Int).toNat 0 = P.getD i 0 := g6 i hi
      have pi := pbd i hi
      have ej : (16 * ([a0, a1, a2, a3, a4, a5, a6] : List Int).getD ((i : Nat) : Int).toNat 0 + (j : Int)).toNat = pl P i j := by rw [gi]; rfl
      have fv : (frm p.w i).getD ((j : Nat) : Int).toNat 0 = p.w.getD (16 * i + j) 0 := by
        show (frm p.w i).getD j 0 = _
        unfold frm
        rw [List.getD_eq_getElem?_getD, List.getElem?_take_of_lt hj, List.getElem?_drop, ← List.getD_eq_getElem?_getD]
      refine ⟨_, _, dL_ix [a0, a1, a2, a3, a4, a5, a6] (i := (i : Nat)) (by omega) (by show (i : Int) < 7; omega), dL_at' [a0, a1, a2, a3, a4, a5, a6] (i := (i : Nat)) (by omega) (by show (i : Int) < 7; omega), Or.inl ⟨by decide, by decide⟩, _, _, dL_ix m (i := 16 * ([a0, a1, a2, a3, a4, a5, a6] : List Int).getD ((i : Nat) : Int).toNat 0 + (j : Nat)) (by rw [gi]; omega) (by rw [gi, mml]; omega), dL_at' m (by rw [gi]; omega) (by rw [gi, mml]; omega), rfl, ?_⟩
      refine .inl ⟨m.set (pl P i j) ((frm p.w i).getD ((j : Nat) : Int).toNat 0), _, rfl, ?_, by rw [List.length_set, mml], mmw.set _ ?_, fun k o hk ho => ?_⟩
      · show [T.lst ((m.map fun i => T.dat (.int i)).set (16 * ([a0, a1, a2, a3, a4, a5, a6] : List Int).getD ((i : Nat) : Int).toNat 0 + (j : Int)).toNat (.dat (.int _))), _, _] = _
        rw [dL_set, ej]
        rfl
      · rw [fv]
        exact hp.ww.get _
      · have PLm : PL P m.length := by rw [mml]; exact PLn
        by_cases e : k = i ∧ o = j
        · obtain ⟨rfl, rfl⟩ := e
          rw [setself (pl_lt PLm hi hj), fv]
        · rw [setne fun z => e ?_]
          · exact fill k o (by omega) ho
          · obtain ⟨z1, z2⟩ := pl_inj PLm hi hj (by omega) ho z
            exact ⟨z1.symm, z2.symm⟩
    · rintro _ _ ⟨m, z, rfl, rfl, mml, mmw, fill⟩
      exact .inl ⟨m, _, z, rfl, rfl, mml, mmw, fun k o hk ho => fill k o (by show k < i ∨ k = i ∧ o < 16; omega) ho⟩
  rintro _ _ ⟨m, y, z, rfl, rfl, mml, mmw, fill⟩
  -- the map
  have wfr : ∀ j : Nat, j < 8 → (p.pg.map Prod.fst).getD j 0 < 6 := fun j hj => by
    have pl := hp.pl
    rw [List.getD_eq_getElem?_getD, List.getElem?_map, List.getElem?_eq_getElem (by omega)]
    exact (hp.pb _ (List.getElem_mem _)).1
  have wrt : ∀ j : Nat, j < 8 → 0 ≤ (p.pg.map Prod.snd).getD j 0 ∧ (p.pg.map Prod.snd).getD j 0 < 8 := fun j hj => by
    have pl := hp.pl
    rw [List.getD_eq_getElem?_getD, List.getElem?_map, List.getElem?_eq_getElem (by omega)]
    exact (hp.pb _ (List.getElem_mem _)).2
  have pat : ∀ j : Nat, j < 8 → (p.pg.map pgD)[j]? = some (.tup [.int ((p.pg.map Prod.fst).getD j 0 : Nat), .int ((p.pg.map Prod.snd).getD j 0)]) := fun j hj => by
    have pl := hp.pl
    rw [List.getD_eq_getElem?_getD, List.getD_eq_getElem?_getD, List.getElem?_map, List.getElem?_map, List.getElem?_map, List.getElem?_eq_getElem (by omega)]
    rfl
  generalize hF : p.pg.map Prod.fst = F at wfr pat
  generalize hR : p.pg.map Prod.snd = R at wrt pat
  refine ⟨fun sl rt => ∃ (m : List Int) (y z u v : Option Val), sl = wS p x ((16 * n : Nat) : Int) (some (.ref 0 [])) z (some (.ref 1 [])) y (some (.dat (.int r))) (some (.ref 2 [])) (some (.dat (.int base))) u v none none none none none none ∧ rt = [dL m, dL left, dL [a0, a1, a2, a3, a4, a5, a6]] ∧ m.length = 16 * n ∧ Ws m ∧ (∀ k o, k < 6 → o < 16 → m.getD (pl P k o) 0 = p.w.getD (16 * k + o) 0) ∧ ∀ j : Nat, j < 8 → m.getD (base + (j : Int)).toNat 0 = 8 * P.getD (F.getD j 0) 0 + R.getD j 0, ?_, ?_⟩
  · refine ⟨by decide, by decide, fun i sl rt => ∃ (m : List Int) (y z u v : Option Val), sl = wS p x ((16 * n : Nat) : Int) (some (.ref 0 [])) z (some (.ref 1 [])) y (some (.dat (.int r))) (some (.ref 2 [])) (some (.dat (.int base))) u v none none none none none none ∧ rt = [dL m, dL left, dL [a0, a1, a2, a3, a4, a5, a6]] ∧ m.length = 16 * n ∧ Ws m ∧ (∀ k o, k < 6 → o < 16 → m.getD (pl P k o) 0 = p.w.getD (16 * k + o) 0) ∧ ∀ j : Nat, j < i → m.getD (base + (j : Int)).toNat 0 = 8 * P.getD (F.getD j 0) 0 + R.getD j 0, ⟨m, y, z, none, none, rfl, rfl, mml, mmw, fill, fun j h => absurd h (by omega)⟩, ?_, fun _ _ h => h⟩
    rintro i d _ _ hd ⟨m, y, z, u, v, rfl, rfl, mml, mmw, fill, ent⟩
    obtain ⟨rfl, hi⟩ := range_at hd
    have hi : i < 8 := hi
    refine ⟨1, _, kp_pg, rfl, .tup [.int (F.getD i 0 : Nat), .int (R.getD i 0)], ?_, rfl, ?_⟩
    · show atI (p.pg.map pgD) (i : Int) = _
      unfold atI
      have pl := hp.pl
      rw [show ixN (p.pg.map pgD).length (i : Int) = some i from (by have := ix_nat (n := (p.pg.map pgD).length) (i := (i : Int)) (by omega) (by rw [List.length_map]; omega); rw [this, Int.toNat_natCast])]
      exact pat i hi
    have hf := wfr i hi
    have hr := wrt i hi
    have gi : ([a0, a1, a2, a3, a4, a5, a6] : List Int).getD ((F.getD i 0 : Nat) : Int).toNat 0 = P.getD (F.getD i 0) 0 := g6 _ hf
    have pf := pbd _ hf
    refine ⟨_, _, dL_ix [a0, a1, a2, a3, a4, a5, a6] (i := (F.getD i 0 : Nat)) (by omega) (by show ((F.getD i 0 : Nat) : Int) < 7; omega), dL_at' [a0, a1, a2, a3, a4, a5, a6] (i := (F.getD i 0 : Nat)) (by omega) (by show ((F.getD i 0 : Nat) : Int) < 7; omega), Or.inl ⟨by decide, by decide⟩, _, _, dL_ix m (i := base + (i : Nat)) (by omega) (by omega), dL_at' m (by omega) (by omega), rfl, ?_⟩
    refine .inl ⟨m.set (base + (i : Int)).toNat (8 * P.getD (F.getD i 0) 0 + R.getD i 0), _, _, _, _, rfl, ?_, by rw [List.length_set, mml], mmw.set _ ⟨by omega, by omega⟩, fun k o hk ho => ?_, fun j hj => ?_⟩
    · show [T.lst ((m.map fun i => T.dat (.int i)).set (base + (i : Int)).toNat (.dat (.int (8 * ([a0, a1, a2, a3, a4, a5, a6] : List Int).getD ((F.getD i 0 : Nat) : Int).toNat 0 + R.getD i 0)))), _, _] = _
      rw [dL_set, gi]
      rfl
    · rw [setne]
      · exact fill k o hk ho
      · intro e
        have := n6 k hk
        have := pbd k hk
        unfold pl at e
        omega
    · by_cases e : j = i
      · subst e
        rw [setself (by omega)]
      · rw [setne (by omega)]
        exact ent j (by omega)
  rintro _ _ ⟨m, y, z, u, v, rfl, rfl, mml, mmw, fill, ent⟩
  obtain ⟨st, t0, t1, ht⟩ := st_at x
  refine ⟨⟨by decide, by decide⟩, (by show (0 : Int) < 400000; decide), by show 3 ≤ 1000; decide, ⟨by decide, by decide⟩, (by show (0 : Int) < 3; decide), _, ht, ?_⟩
  -- the special registers
  refine ⟨rfl, spec_lnumber _ _ _ _ (by decide) fun v7 _ => ⟨⟨by decide, by decide⟩, (by show (0 : Int) < 65536; decide), 4, _, kp_al, rfl, (by show (0 : Int) < 65536; decide), (by show (0 : Int) < 65536; decide), by show 7 ≤ 1000; decide, ?_⟩⟩
  obtain ⟨sp, hsp⟩ : ∃ sp : List Int, sp = [v7 / 5 % 65536, 3, 9, base, (st + p.al) % 65536, st % 65536, 17] := ⟨_, rfl⟩
  refine tn (sl' := wS p x ((16 * n : Nat) : Int) (some (.ref 0 [])) z (some (.ref 1 [])) y (some (.dat (.int r))) (some (.ref 2 [])) (some (.dat (.int base))) u v (some (.dat (.int st))) (some (.dat (.tup (dints sp)))) none none none none) (rt' := [dL m, dL left, dL [a0, a1, a2, a3, a4, a5, a6]]) (by rw [hsp]; rfl) rfl ?_
  -- the registers of the kernel
  refine ⟨by decide, by decide, fun i acc rt => ∃ l : List Int, acc = l.map (fun i => T.dat (.int i)) ∧ rt = [dL m, dL left, dL [a0, a1, a2, a3, a4, a5, a6]] ∧ l.length = i ∧ Ws l, ⟨[], rfl, rfl, rfl, fun _ z => (nomatch z)⟩, ?_, ?_⟩
  · rintro i d acc _ hd ⟨l, rfl, rfl, ll, lw⟩
    obtain ⟨rfl, hi⟩ := range_at hd
    have hi : i < 8 := hi
    refine ⟨by rw [List.length_map]; omega, fun _ => ?_, fun z => (nomatch z)⟩
    exact ⟨rfl, spec_lnumber _ _ _ _ (by decide) fun v _ => ⟨⟨by decide, by decide⟩, (by show (0 : Int) < 65536; decide), l ++ [v / 5 % 65536], dL_app l _, rfl, by rw [List.length_append, ll]; rfl, lw.app (W.mod _)⟩⟩
  rintro acc _ ⟨ks, rfl, rfl, ksl, ksw⟩
  have ksl : ks.length = 8 := ksl
  refine ⟨_, rfl, ?_⟩
  refine tn (sl' := wS p x ((16 * n : Nat) : Int) (some (.ref 0 [])) z (some (.ref 1 [])) y (some (.dat (.int r))) (some (.ref 2 [])) (some (.dat (.int base))) u v (some (.dat (.int st))) (some (.dat (.tup (dints sp)))) (some (.dat (.tup (dints ks)))) none none none) (rt' := [dL m, dL left, dL [a0, a1, a2, a3, a4, a5, a6]]) (by rw [← toDs_dL ks]; rfl) rfl ?_
  refine ⟨3, _, kp_pc, rfl, 2, _, kp_us, rfl, dints p.us, rfl, by show 3 ≤ 1000; decide, dints m, seq_dL (rt := [dL m, dL left, dL [a0, a1, a2, a3, a4, a5, a6]]) (r := 0) (p := []) rfl, by show 6 ≤ 1000; decide, ?_⟩
  obtain ⟨M, hM⟩ : ∃ M : MS, M = { mem := m, rings := [16 * P.getD 0 0, 16 * P.getD 1 0], ins := p.I.map (sh st), mode := "user", pc := p.pc, us := p.us, ks := ks, sp := sp, tick := st, given := 0 } := ⟨_, rfl⟩
  refine tn (sl' := wS p x ((16 * n : Nat) : Int) (some (.ref 0 [])) z (some (.ref 1 [])) y (some (.dat (.int r))) (some (.ref 2 [])) (some (.dat (.int base))) u v (some (.dat (.int st))) (some (.dat (.tup (dints sp)))) (some (.dat (.tup (dints ks)))) (some (.dat M.stD)) none none) (rt' := [dL m, dL left, dL [a0, a1, a2, a3, a4, a5, a6]]) (by rw [hM]; rfl) rfl ?_
  -- the inputs
  refine ⟨5, _, kp_in, rfl, fun i acc rt => acc = ((p.I.take i).map fun x => T.dat (inD (sh st x))) ∧ rt = [dL m, dL left, dL [a0, a1, a2, a3, a4, a5, a6]], ⟨rfl, rfl⟩, ?_, ?_⟩
  · rintro i d acc _ hd ⟨rfl, rfl⟩
    have hd : (p.I.map inD)[i]? = some d := hd
    rw [List.getElem?_map] at hd
    obtain ⟨q, hq, rfl⟩ := Option.map_eq_some_iff.mp hd
    have e : p.I.take (i + 1) = p.I.take i ++ [q] := by rw [List.take_succ, hq]; rfl
    have il := hp.il
    refine ⟨by rw [List.length_map, List.length_take]; omega, rfl, fun _ => ⟨by show 3 ≤ 1000; decide, ?_, rfl⟩, fun z => (nomatch z)⟩
    rw [e, List.map_append]
    rfl
  rintro acc _ ⟨rfl, rfl⟩
  refine tn (sl' := wS p x ((16 * n : Nat) : Int) (some (.ref 0 [])) z (some (.ref 1 [])) y (some (.dat (.int r))) (some (.ref 2 [])) (some (.dat (.int base))) u v (some (.dat (.int st))) (some (.dat (.tup (dints sp)))) (some (.dat (.tup (dints ks)))) (some (.dat M.stD)) (some (.dat (.lst (M.ins.map inD)))) none) (rt' := [dL m, dL left, dL [a0, a1, a2, a3, a4, a5, a6]]) ?_ rfl ?_
  · rw [hM, List.length_map, List.take_length]
    show wS _ _ _ _ _ _ _ _ _ _ _ _ _ _ _ _ (some (.dat (.lst (T.toDs (p.I.map fun x => T.dat (inD (sh st x))))))) _ = _
    rw [toDs_map' (fun x => inD (sh st x)) p.I]
    show _ = wS _ _ _ _ _ _ _ _ _ _ _ _ _ _ _ _ (some (.dat (.lst ((p.I.map (sh st)).map inD)))) _
    rw [List.map_map]
    rfl
  -- the machine
  have er : D.lst [.int (16 * a0), .int (16 * a1)] = .lst (dints M.rings) := by rw [hM, hP]; rfl
  refine ⟨0, .dat (.int a0), rfl, rfl, Or.inl ⟨by decide, by decide⟩, 1, .dat (.int a1), rfl, rfl, Or.inl ⟨by decide, by decide⟩, by show 2 ≤ 1000; decide, rfl, ?_⟩
  show cResumed [.dat M.stD, .dat (.lst [.int (16 * a0), .int (16 * a1)]), .dat (.lst (M.ins.map inD))] [] _ _
  rw [er]
  refine spec_resumed M _ _ fun a => ?_
  refine tn (sl' := wS p x ((16 * n : Nat) : Int) (some (.ref 0 [])) z (some (.ref 1 [])) y (some (.dat (.int r))) (some (.ref 2 [])) (some (.dat (.int base))) u v (some (.dat (.int st))) (some (.dat (.tup (dints sp)))) (some (.dat (.tup (dints ks)))) (some (.dat M.stD)) (some (.dat (.lst (M.ins.map inD)))) (some (.ref 3 []))) (rt' := [dL m, dL left, dL [a0, a1, a2, a3, a4, a5, a6], M.T a]) rfl rfl ?_
  have PLm : PL P m.length := by rw [mml]; exact PLn
  have off6 : ∀ j : Nat, j < 8 → (base + (j : Int)) / 16 = a6 := fun j hj => by omega
  have wsp : Ws sp := by
    rw [hsp]
    intro q hq
    simp only [List.mem_cons, List.not_mem_nil, or_false] at hq
    rcases hq with rfl | rfl | rfl | rfl | rfl | rfl | rfl <;> constructor <;> omega
  have hW : Wld p m P base st M := by
    refine ⟨⟨PLm, by rw [hF]; exact wfr, by rw [hR]; exact wrt, by omega, by omega, fun j hj k hk e => n6 k hk (by rw [← off6 j hj]; exact e), fun j hj => by rw [hF, hR]; exact ent j hj⟩, fill, ?_, by rw [hM], by rw [hM], by rw [hM], by rw [hM], by rw [hM], by rw [hM], by rw [hM, hsp]; rfl, by rw [hM, hsp]; rfl, by rw [hM], by rw [hM]⟩
    have pa := pbd 0 (by decide)
    have pb := pbd 1 (by decide)
    have pc := hp.pc0
    subst hM
    refine ⟨⟨mmw, hp.uw, ksw, wsp, hp.ul, ksl, by show sp.length = 7; rw [hsp]; rfl, ⟨by show 0 ≤ p.pc; omega, by show p.pc < 65536; omega⟩, by show m.length ≤ 1000; omega, fun q hq => ?_, fun q hq => ?_, by show (0 : Int) ≤ 0; decide, by show (0 : Int) ≤ ((p.I.map (sh st)).length : Int); omega⟩, .inl ⟨false, rfl⟩, ?_⟩
    · have hq : q ∈ [16 * P.getD 0 0, 16 * P.getD 1 0] := hq
      simp only [List.mem_cons, List.not_mem_nil, or_false] at hq
      show 0 ≤ q ∧ q + 16 ≤ (m.length : Int)
      rcases hq with rfl | rfl <;> constructor <;> omega
    · have hq : q ∈ p.I.map (sh st) := hq
      obtain ⟨q', h1, rfl⟩ := List.mem_map.mp hq
      exact hp.ib q' h1
    · show sp.getD 5 0 = st % 65536
      rw [hsp]
      rfl
  refine ⟨dints [a0, a1, a2, a3, a4, a5, a6], rfl, by show 4 ≤ 1000; decide, ?_⟩
  have h := hk m P base st M a (.dat (dL m).toD) (dL left) (dL [a0, a1, a2, a3, a4, a5, a6]) hW
  rw [← dL_toD m, hP] at h
  exact h
end K07
end

section
set_option linter.all false
set_option maxRecDepth 100000
set_option maxHeartbeats 1000000
set_option pp.deepTerms false
namespace K07
open PySem L2 Evl Wv

/-! ### what is seen, what lies outside -/
theorem pys_ints : ∀ l : List Int, D.pys (dints l) = some (l.map PyData.int)
  | [] => rfl
  | a :: l => by
    show D.pys (D.int a :: dints l) = _
    simp only [D.pys, D.py, pys_ints l]
    rfl
theorem eqvA_int : ∀ l : List Int, PyData.eqvAll (l.map PyData.int) (l.map PyData.int) = true
  | [] => rfl
  | a :: l => by
    show (PyData.eqv (.int a) (.int a) && PyData.eqvAll (l.map PyData.int) (l.map PyData.int)) = true
    rw [eqvA_int l]
    simp [PyData.eqv]
theorem lay_int : ∀ l : List Int, PyData.canLayAll0 (l.map PyData.int) = true ∧ PyData.depthAll (l.map PyData.int) ≤ 1
  | [] => ⟨rfl, by show 0 ≤ 1; decide⟩
  | a :: l => by
    obtain ⟨h1, h2⟩ := lay_int l
    refine ⟨by simp [PyData.canLayAll0, PyData.canLay0, h1], ?_⟩
    show max _ _ ≤ 1
    exact Nat.max_le.mpr ⟨by show 0 ≤ 1; decide, h2⟩
theorem py_ints (l : List Int) : (D.lst (dints l)).py = some (.list (l.map PyData.int)) := by
  show (D.pys (dints l)).map PyData.list = _
  rw [pys_ints]
  rfl
def llP (ls : List (List Int)) : List PyData := ls.map fun l => .list (l.map PyData.int)
def llD (ls : List (List Int)) : List D := ls.map fun l => .lst (dints l)
theorem pys_ll : ∀ ls : List (List Int), D.pys (llD ls) = some (llP ls)
  | [] => rfl
  | a :: ls => by
    show D.pys (D.lst (dints a) :: llD ls) = _
    have h := py_ints a
    have ih := pys_ll ls
    simp only [D.pys, h, ih]
    rfl
theorem eqvA_ll : ∀ ls : List (List Int), PyData.eqvAll (llP ls) (llP ls) = true
  | [] => rfl
  | a :: ls => by
    show (PyData.eqv (.list (a.map PyData.int)) (.list (a.map PyData.int)) && PyData.eqvAll (llP ls) (llP ls)) = true
    rw [eqvA_ll ls, Bool.and_true]
    simpa [PyData.eqv] using eqvA_int a
theorem lay_ll : ∀ ls : List (List Int), PyData.canLayAll0 (llP ls) = true ∧ PyData.depthAll (llP ls) ≤ 2
  | [] => ⟨rfl, by show 0 ≤ 2; decide⟩
  | a :: ls => by
    obtain ⟨h1, h2⟩ := lay_ll ls
    obtain ⟨k1, k2⟩ := lay_int a
    refine ⟨?_, ?_⟩
    · show PyData.canLayAll0 (PyData.list (a.map PyData.int) :: llP ls) = true
      simp [PyData.canLayAll0, PyData.canLay0, h1, k1]
    · show max (PyData.depth (.list (a.map PyData.int))) (PyData.depthAll (llP ls)) ≤ 2
      refine Nat.max_le.mpr ⟨?_, h2⟩
      simp only [PyData.depth]
      omega
def slc (mem : List Int) (q : Int) : List Int := (mem.drop (16 * q).toNat).take 16
def frs (mem P : List Int) : List (List Int) := P.map (slc mem)
def seenD (m : MS) (P : List Int) (st : Int) : D := .lst [.str m.mode, .int m.pc, .lst (dints m.us), .int (m.tick - st), .lst (llD (frs m.mem P)), .int m.given]
def seenP (m : MS) (P : List Int) (st : Int) : PyData := .list [.str m.mode, .int m.pc, .list (m.us.map PyData.int), .int (m.tick - st), .list (llP (frs m.mem P)), .int m.given]
theorem seen_py (m : MS) (P : List Int) (st : Int) : (seenD m P st).py = some (seenP m P st) := by
  have h1 := py_ints m.us
  have h2 := pys_ll (frs m.mem P)
  unfold seenD seenP
  simp only [D.py, D.pys] at h1 h2 ⊢
  simp only [pys_ints, h2]
  rfl
theorem seen_shaped (m : MS) (P : List Int) (st : Int) (hm : PyData.strOk m.mode = true) : SeqAt.shaped (seenP m P st) = true := by
  unfold SeqAt.shaped seenP
  have h1 := lay_int m.us
  have h2 := lay_ll (frs m.mem P)
  rw [Bool.and_eq_true]
  generalize m.us.map PyData.int = A at *
  generalize llP (frs m.mem P) = B at *
  refine ⟨by simp [PyData.canLay0, PyData.canLayAll0, h1.1, h2.1, hm], decide_eq_true ?_⟩
  simp only [PyData.depth, PyData.depthAll]
  have := h1.2
  have := h2.2
  omega
theorem seen_eqv (m : MS) (P : List Int) (st : Int) : PyData.eqv (seenP m P st) (seenP m P st) = true := by
  unfold seenP
  have h1 := eqvA_int m.us
  have h2 := eqvA_ll (frs m.mem P)
  generalize m.us.map PyData.int = A at *
  generalize llP (frs m.mem P) = B at *
  simp [PyData.eqv, PyData.eqvAll, h1, h2]
theorem six {n : Nat} {v : Int} {d : Nat} (h0 : 0 ≤ v) (h1 : v ≤ n) : HT.sIx n d (some v) = v.toNat := by
  show (if v < 0 then (v + (n : Int)).toNat else min v.toNat n) = _
  rw [if_neg (by omega)]
  omega
theorem cut_mem (mem : List Int) {q : Int} (h0 : 0 ≤ q) (h1 : 16 * q + 16 ≤ mem.length) : cutD (dints mem) (some (16 * q)) (some (16 * q + 16)) = dints (slc mem q) := by
  have e : (dints mem).length = mem.length := by simp [dints]
  unfold cutD slc
  rw [e, six (by omega) (by omega), six (by omega) (by omega), show (16 * q + 16).toNat - (16 * q).toNat = 16 by omega]
  simp [dints, List.map_take, List.map_drop]
def wldD (a : Addr) (P : List Int) (st : Int) (m0 : List Int) : D := .tup [.cst (.ref a), .lst (dints P), .int st, .lst (dints m0)]
def seenT (m : MS) (P : List Int) (st : Int) : T := .lst [.dat (.str m.mode), .dat (.int m.pc), .dat (.lst (dints m.us)), .dat (.int (m.tick - st)), .dat (.lst (llD (frs m.mem P))), .dat (.int m.given)]
theorem fr_ll (mem : List Int) : ∀ P : List Int, T.toDs (P.map fun q => T.lst ((dints (slc mem q)).map .dat)) = llD (frs mem P)
  | [] => rfl
  | q :: P => by
    show D.lst (T.toDs ((dints (slc mem q)).map .dat)) :: T.toDs (P.map fun q => T.lst ((dints (slc mem q)).map .dat)) = _
    rw [fr_ll mem P, toDs_map]
    rfl
theorem spec_lseen (m : MS) (a : Addr) (P : List Int) (st : Int) (m0 : List Int) (hP : PL P m.mem.length) (k : T → Roots → Prop) (kx : Exn → Roots → Prop) (hk : k (seenT m P st) [m.T a]) : cLawSeen [.dat (wldD a P st m0)] [m.T a] k kx := by
  unfold cLawSeen cwOf
  refine ⟨rfl, ?_⟩
  unfold wdLawSeen
  refine ⟨.cst (.ref a), rfl, 0, _, rfl, rfl, ?_⟩
  refine ⟨.lst (dints P), rfl, fun i acc rt => acc = ((P.take i).map fun q => T.lst ((dints (slc m.mem q)).map .dat)) ∧ rt = [m.T a], ⟨rfl, rfl⟩, ?_, ?_⟩
  · rintro i d acc _ hd ⟨rfl, rfl⟩
    have hd : (dints P)[i]? = some d := hd
    unfold dints at hd
    rw [List.getElem?_map] at hd
    obtain ⟨q, hq, rfl⟩ := Option.map_eq_some_iff.mp hd
    have e : P.take (i + 1) = P.take i ++ [q] := by rw [List.take_succ, hq]; rfl
    have pl := hP.len
    have hi := (List.getElem?_eq_some_iff.mp hq).1
    have hb := hP.bd i (by omega)
    rw [List.getD_eq_getElem?_getD, hq] at hb
    have hb : 0 ≤ q ∧ 16 * q + 16 ≤ (m.mem.length : Int) := hb
    refine ⟨by rw [List.length_map, List.length_take]; omega, fun _ => ⟨Or.inl ⟨by decide, by decide⟩, Or.inl ⟨by decide, by decide⟩, dints m.mem, (by show dats (m.mem.map fun i => T.dat (.int i)) = _; rw [← dats_ints, map_dats]), ?_, rfl⟩, fun z => (nomatch z)⟩
    rw [e, List.map_append]
    show _ ++ [T.lst ((cutD (dints m.mem) (some (16 * q)) (some (16 * q + 16))).map .dat)] = _
    rw [cut_mem m.mem hb.1 hb.2]
    rfl
  rintro acc _ ⟨rfl, rfl⟩
  have el : (dints P).length = P.length := by simp [dints]
  rw [el, List.take_length]
  refine tn (sl' := [some (.dat (wldD a P st m0)), some (.ref 0 []), some (.dat (.lst (llD (frs m.mem P)))), none]) (rt' := [m.T a]) (by rw [← fr_ll m.mem P]; rfl) rfl ?_
  refine ⟨dints m.us, (by show dats (m.us.map fun i => T.dat (.int i)) = _; rw [← dats_ints, map_dats]), .int st, rfl, by show 6 ≤ 1000; decide, ?_⟩
  unfold seenT at hk
  rw [← toDs_map (dints m.us)] at hk
  exact hk
theorem inV_dints (v : Int) : ∀ l : List Int, inV (V.int v) ((dints l).map D.v) = decide (v ∈ l)
  | [] => by simp [inV, dints]
  | a :: l => by
    have ih := inV_dints v l
    show ((a == v) || inV (V.int v) ((dints l).map D.v)) = _
    rw [ih]
    by_cases z : a = v
    · subst z
      simp
    · have z' : ¬ v = a := fun y => z y.symm
      simp [z, z']
theorem flat_dints (l : List Int) : (dints l).all D.flat = true := by
  rw [List.all_eq_true]
  intro d hd
  obtain ⟨i, _, rfl⟩ := List.mem_map.mp hd
  rfl
theorem spec_lout (m : MS) (a : Addr) (P : List Int) (st : Int) (m0 : List Int) (hP : PL P m0.length) (ho : Ot m0 P m.mem) (hl : m0.length ≤ 1000) (k : T → Roots → Prop) (kx : Exn → Roots → Prop) (hk : k (.dat (.bool true)) [m.T a]) : cLawOutside [.dat (wldD a P st m0)] [m.T a] k kx := by
  unfold cLawOutside cwOf
  refine ⟨rfl, ?_⟩
  unfold wdLawOutside
  have e0 : (dints m0).length = m0.length := by simp [dints]
  refine ⟨.cst (.ref a), rfl, 0, _, rfl, rfl, ?_⟩
  refine ⟨fun sl rt => ∃ y : Option Val, sl = [some (.dat (wldD a P st m0)), some (.ref 0 []), y] ∧ rt = [m.T a], ?_, ?_⟩
  · refine ⟨.lst (dints m0), rfl, by rw [e0]; omega, by rw [e0]; omega, fun i sl rt => ∃ y : Option Val, sl = [some (.dat (wldD a P st m0)), some (.ref 0 []), y] ∧ rt = [m.T a], ⟨none, rfl, rfl⟩, ?_, fun _ _ h => h⟩
    rintro i d _ _ hd ⟨y, rfl, rfl⟩
    obtain ⟨rfl, hi⟩ := range_at hd
    rw [e0, Int.toNat_natCast] at hi
    have ml := ho.len
    refine ⟨⟨by decide, by decide⟩, .lst (dints P), rfl, rfl, flat_dints P, decide (m.mem.getD i 0 ≠ m0.getD i 0), fun c => ?_, fun c => ?_, fun c => .inl ⟨_, rfl, rfl⟩⟩
    · refine ⟨i, _, (by rw [dL_len]; exact (by have := ix_nat (n := m.mem.length) (i := (i : Int)) (by omega) (by omega); rw [this, Int.toNat_natCast])), dL_at m.mem i (by omega), .lst (dints m0), rfl, _, at_dints m0 (i := (i : Int)) (by omega) (by omega), ?_, rfl⟩
      show (!decide (m.mem.getD i 0 = m0.getD ((i : Int)).toNat 0)) = _
      rw [Int.toNat_natCast, decide_not]
    · exfalso
      have c : (!inV (V.int ((i : Int) / 16)) ((dints P).map D.v) && decide (m.mem.getD i 0 ≠ m0.getD i 0)) = true := c
      rw [Bool.and_eq_true, inV_dints] at c
      have c1 : ¬ (i : Int) / 16 ∈ P := by simpa using c.1
      have c2 := of_decide_eq_true c.2
      refine c2 (ho.oth i fun k hk e => c1 ?_)
      rw [e, List.getD_eq_getElem?_getD, List.getElem?_eq_getElem (by rw [hP.len]; exact hk)]
      exact List.getElem_mem _
  rintro _ _ ⟨y, rfl, rfl⟩
  refine ⟨.lst (dints m0), rfl, ?_⟩
  show k (.dat (.bool (decide (((m.mem.map fun i => T.dat (.int i)).length : Int) = ((dints m0).length : Int))))) [m.T a]
  rw [List.length_map, e0, ho.len, decide_eq_true rfl]
  exact hk
end K07
end

section
set_option linter.all false
set_option maxRecDepth 100000
set_option maxHeartbeats 1000000
set_option pp.deepTerms false
namespace K07
open PySem L2 Evl Wv

/-! ### the law of what user mode sees -/
theorem slc_eq {a b : List Int} {q q' : Int} (ha : 0 ≤ q ∧ 16 * q + 16 ≤ (a.length : Int)) (hb : 0 ≤ q' ∧ 16 * q' + 16 ≤ (b.length : Int)) (h : ∀ o : Nat, o < 16 → a.getD (16 * q + (o : Int)).toNat 0 = b.getD (16 * q' + (o : Int)).toNat 0) : slc a q = slc b q' := by
  have one : ∀ {a : List Int} {q : Int}, 0 ≤ q ∧ 16 * q + 16 ≤ (a.length : Int) → ∀ o : Nat, (slc a q)[o]? = if o < 16 then some (a.getD (16 * q + (o : Int)).toNat 0) else none := by
    intro a q ha o
    unfold slc
    by_cases ho : o < 16
    · rw [if_pos ho, List.getElem?_take_of_lt ho, List.getElem?_drop, show (16 * q).toNat + o = (16 * q + (o : Int)).toNat by omega, List.getD_eq_getElem?_getD, List.getElem?_eq_getElem (by omega)]
      rfl
    · rw [if_neg ho, List.getElem?_eq_none (by rw [List.length_take]; omega)]
  refine List.ext_getElem? fun o => ?_
  rw [one ha, one hb]
  by_cases ho : o < 16
  · rw [if_pos ho, if_pos ho, h o ho]
  · rw [if_neg ho, if_neg ho]
theorem Rl.frs {c : Pm} {A B : MS} (R : Rl c A B) : frs A.mem c.P = frs B.mem c.Q := by
  have pa := R.la.pl
  have pb := R.lb.pl
  refine List.ext_getElem? fun k => ?_
  unfold K07.frs
  rw [List.getElem?_map, List.getElem?_map]
  by_cases hk : k < 6
  · have e : ∀ {P : List Int} {n : Nat}, PL P n → P[k]? = some (P.getD k 0) := fun h => by
      rw [List.getD_eq_getElem?_getD, List.getElem?_eq_getElem (by rw [h.len]; exact hk)]
      rfl
    rw [e pa, e pb]
    show some _ = some _
    have ba := pa.bd k hk
    have bb := pb.bd k hk
    rw [slc_eq (by rw [R.mr.oa.len]; exact ba) (by rw [R.mr.ob.len]; exact bb) fun o ho => R.mr.fr k o hk ho]
  · rw [List.getElem?_eq_none (by rw [pa.len]; omega), List.getElem?_eq_none (by rw [pb.len]; omega)]
    rfl
theorem Rl.seen {c : Pm} {A B : MS} (R : Rl c A B) : seenP A c.P c.sA = seenP B c.Q c.sB := by
  unfold seenP
  rw [R.mode, R.pc, R.us, R.tk, R.frs, R.given]
theorem wld_rl {p : Pn} {m0 P m1 Q : List Int} {bA bB sA sB : Int} {A B : MS} (hp : PnOk p) (hA : Wld p m0 P bA sA A) (hB : Wld p m1 Q bB sB B) :
    Rl ⟨m0, P, m1, Q, bA, bB, p.pg.map Prod.fst, p.pg.map Prod.snd, sA, sB, p.al, p.I⟩ A B :=
  ⟨hA.lay, hB.lay, fun x hx => (hp.ib x hx).1, ⟨⟨by rw [hA.mem], fun j _ => by rw [hA.mem]⟩, ⟨by rw [hB.mem], fun j _ => by rw [hB.mem]⟩, fun k o hk ho => by rw [hA.mem, hB.mem, hA.fr k o hk ho, hB.fr k o hk ho]⟩,
    by rw [hA.mode, hB.mode], by rw [hA.pc, hB.pc], by rw [hA.us, hB.us], by rw [hA.given, hB.given], by rw [hA.tick, hB.tick]; show sA - sA = sB - sB; omega, hA.s3, hB.s3, hA.s4, hB.s4, hA.rings, hB.rings, hA.ins, hB.ins⟩
def lS (cs : List Int) (plain one other turn ends : Option Val) : Slots := [some (.dat (.ro (dints cs))), some (.ref 0 []), none, plain, one, other, turn, ends, none]
theorem str_ok {s : Str} (h : s = "user" ∨ s = "kernel") : PyData.strOk s = true := by
  rcases h with rfl | rfl <;> decide +kernel
theorem cut3 (l : List Int) (e : l.length = 7) : cutD (dints l) none (some 3) = dints (l.take 3) := by
  match l, e with
  | [a, b, c, d, e, f, g], _ => rfl
theorem shaped_list {ps : List PyData} (h : PyData.canLayAll0 ps = true ∧ PyData.depthAll ps ≤ 1) : SeqAt.shaped (.list ps) = true := by
  unfold SeqAt.shaped
  rw [Bool.and_eq_true]
  refine ⟨h.1, decide_eq_true ?_⟩
  simp only [PyData.depth]
  have := h.2
  omega
theorem spec_law (cs : List Int) (hcs : cs.length ≤ 63) (k : T → Roots → Prop) (kx : Exn → Roots → Prop) (hk : k (.dat (.bool true)) []) : cLaw [.dat (.ro (dints cs))] [] k kx := by
  unfold cLaw cwOf
  refine ⟨rfl, ?_⟩
  unfold wdLaw
  have dlen : ∀ l : List Int, (dints l).length = l.length := fun l => by simp [dints]
  refine ⟨fun i acc rt => ∃ l : List Int, acc = l.map (fun i => T.dat (.int i)) ∧ rt = [] ∧ l.length = i, ⟨[], rfl, rfl, rfl⟩, ?_, ?_⟩
  · rintro i d acc _ hd ⟨l, rfl, rfl, ll⟩
    have hd : (dints cs)[i]? = some d := hd
    unfold dints at hd
    rw [List.getElem?_map] at hd
    obtain ⟨y, hy, rfl⟩ := Option.map_eq_some_iff.mp hd
    have hi := (List.getElem?_eq_some_iff.mp hy).1
    exact ⟨by rw [List.length_map]; omega, fun _ => ⟨l ++ [y], dL_app l y, rfl, by rw [List.length_append, ll]; rfl⟩, fun z => (nomatch z)⟩
  rintro acc _ ⟨l, rfl, rfl, ll⟩
  have ll : l.length = (dints cs).length := ll
  rw [dlen] at ll
  refine ⟨fun sl rt => ∃ l : List Int, sl = lS cs none none none none none ∧ rt = [dL l] ∧ 6 ≤ l.length, ?_, ?_⟩
  · refine ⟨fun m sl rt => ∃ l : List Int, sl = lS cs none none none none none ∧ rt = [dL l] ∧ 6 - l.length = m ∧ l.length ≤ 63, ⟨_, l, rfl, rfl, rfl, by omega⟩, ?_⟩
    rintro m _ _ ⟨l, rfl, rfl, hm, l63⟩
    refine ⟨fun c => ?_, fun c => ?_⟩
    · have c : decide (((l.map fun i => T.dat (.int i)).length : Int) < 6) = true := c
      rw [List.length_map] at c
      have c := of_decide_eq_true c
      refine ⟨by rw [List.length_map]; omega, .inl ⟨6 - (l.length + 1), by omega, l ++ [((l.map fun i => T.dat (.int i)).length : Int) + 8], rfl, ?_, by simp, by simp; omega⟩⟩
      show [T.lst (List.map _ l ++ [T.dat (.int _)])] = _
      rw [dL_app]
      rfl
    · have c : decide (((l.map fun i => T.dat (.int i)).length : Int) < 6) = false := c
      rw [List.length_map] at c
      have c := of_decide_eq_false c
      exact ⟨l, rfl, rfl, by omega⟩
  rintro _ _ ⟨cells, rfl, rfl, c6⟩
  refine ⟨rfl, spec_lplain cells c6 _ _ fun p hp => ?_⟩
  refine tn (sl' := lS cs (some (.dat (pnD p))) none none none none) (rt' := [dL cells]) (by rw [← pn_toD p]; rfl) rfl ?_
  refine ⟨4, _, dL_ix cells (i := 4) (by decide) (by omega), dL_at cells 4 (by omega), rfl, spec_lnumber _ _ _ _ (by decide) fun x1 x10 => ⟨rfl, spec_lworld p hp x1 x10 _ fun m0 P bA sA A0 a g0 g1 g2 hA => ?_⟩⟩
  refine tn (sl' := lS cs (some (.dat (pnD p))) (some (.dat (wldD a P sA m0))) none none none) (rt' := [dL cells, g0, g1, g2, A0.T a]) rfl rfl ?_
  refine ⟨5, _, dL_ix cells (i := 5) (by decide) (by omega), dL_at cells 5 (by omega), rfl, spec_lnumber _ _ _ _ (by decide) fun x2 x20 => ⟨rfl, spec_lworld p hp x2 x20 _ fun m1 Q bB sB B0 b h0 h1 h2 hB => ?_⟩⟩
  refine tn (sl' := lS cs (some (.dat (pnD p))) (some (.dat (wldD a P sA m0))) (some (.dat (wldD b Q sB m1))) none none) (rt' := [dL cells, g0, g1, g2, A0.T a, h0, h1, h2, B0.T b]) rfl rfl ?_
  have R0 := wld_rl hp hA hB
  have GA0 := hA.good
  have GB0 := hB.good
  have uA0 := hA.mode
  have tA0 := hA.tick
  have l0 : m0.length ≤ 1000 := by rw [← hA.mem]; exact GA0.wf.ml
  have l1 : m1.length ≤ 1000 := by rw [← hB.mem]; exact GB0.wf.ml
  have al0 := hp.al0
  clear hA hB
  have sA0 : (seenT A0 P sA).toD = seenD A0 P sA := rfl
  have PA : PL P A0.mem.length := by rw [R0.mr.oa.len]; exact R0.la.pl
  have PB : PL Q B0.mem.length := by rw [R0.mr.ob.len]; exact R0.lb.pl
  refine ⟨rfl, 4, A0.T a, rfl, rfl, spec_lseen A0 a P sA m0 PA _ _ ⟨rfl, 8, B0.T b, rfl, rfl, spec_lseen B0 b Q sB m1 PB _ _ ⟨seenP A0 P sA, seenP B0 Q sB, seen_py A0 P sA, seen_py B0 Q sB, seen_shaped A0 P sA (str_ok (.inl uA0)), seen_shaped B0 Q sB (str_ok (.inl (by rw [← R0.mode]; exact uA0))), fun z => ?_, fun _ => ?_⟩⟩⟩
  · exfalso
    have z : (!PyData.eqv (seenP A0 P sA) (seenP B0 Q sB)) = true := z
    rw [show seenP B0 Q sB = seenP A0 P sA from R0.seen.symm, seen_eqv] at z
    cases z
  refine tn (sl' := lS cs (some (.dat (pnD p))) (some (.dat (wldD a P sA m0))) (some (.dat (wldD b Q sB m1))) none none) (rt' := [dL cells, g0, g1, g2, A0.T a, h0, h1, h2, B0.T b]) rfl rfl ?_
  obtain ⟨c, hc⟩ : ∃ c : Pm, c = ⟨m0, P, m1, Q, bA, bB, p.pg.map Prod.fst, p.pg.map Prod.snd, sA, sB, p.al, p.I⟩ := ⟨_, rfl⟩
  rw [← hc] at R0
  refine ⟨fun _ _ => False, ?_, fun _ _ z => z.elim⟩
  refine ⟨by decide, by decide, fun i sl rt => ∃ (A B : MS) (y : Option Val), sl = lS cs (some (.dat (pnD p))) (some (.dat (wldD a P sA m0))) (some (.dat (wldD b Q sB m1))) y none ∧ rt = [dL cells, g0, g1, g2, A.T a, h0, h1, h2, B.T b] ∧ Rl c A B ∧ Good A ∧ Good B ∧ A.mode = "user" ∧ A.tick = sA + (i : Nat) ∧ (i : Int) ≤ p.al, ⟨A0, B0, none, rfl, rfl, R0, GA0, GB0, uA0, by rw [tA0]; omega, by omega⟩, ?_, ?_⟩
  · rintro i d _ _ hd ⟨A, B, y, rfl, rfl, R, GA, GB, uA, tA, ia⟩
    obtain ⟨rfl, hi⟩ := range_at hd
    have hi : i < 100 := hi
    refine ⟨_, rfl, 4, _, rfl, rfl, rfl, rfl, spec_step A GA.wf GA.ht a _ _ ?_⟩
    refine tn (sl' := lS cs (some (.dat (pnD p))) (some (.dat (wldD a P sA m0))) (some (.dat (wldD b Q sB m1))) (some (.dat (.int (i : Nat)))) none) (rt' := [dL cells, g0, g1, g2, A.step.T a, h0, h1, h2, B.T b]) rfl rfl ?_
    refine ⟨_, rfl, 8, _, rfl, rfl, rfl, rfl, spec_step B GB.wf GB.ht b _ _ ?_⟩
    refine tn (sl' := lS cs (some (.dat (pnD p))) (some (.dat (wldD a P sA m0))) (some (.dat (wldD b Q sB m1))) (some (.dat (.int (i : Nat)))) none) (rt' := [dL cells, g0, g1, g2, A.step.T a, h0, h1, h2, B.step.T b]) rfl rfl ?_
    obtain ⟨R1, t1, al1, md⟩ := step_rel R GA GB uA
    have GA1 := GA.step.1
    have GB1 := GB.step.1
    have e4 := R.s4a
    rw [hc] at e4
    have e4 : A.sp.getD 4 0 = (sA + p.al) % 65536 := e4
    have late : A.step.mode = "user" → (i : Int) + 1 ≤ p.al := fun hm => by
      by_cases z : (i : Int) = p.al
      · have := al1 (by rw [e4, tA, z])
        rw [this] at hm
        exact absurd hm (by decide +kernel)
      · omega
    generalize A.step = A1 at *
    generalize B.step = B1 at *
    have PA : PL P A1.mem.length := by have := R1.la.pl; rw [← R1.mr.oa.len] at this; rw [hc] at this; exact this
    have PB : PL Q B1.mem.length := by have := R1.lb.pl; rw [← R1.mr.ob.len] at this; rw [hc] at this; exact this
    have oA : Ot m0 P A1.mem := by have := R1.mr.oa; rw [hc] at this; exact this
    have oB : Ot m1 Q B1.mem := by have := R1.mr.ob; rw [hc] at this; exact this
    have P0 : PL P m0.length := by rw [← oA.len]; exact PA
    have Q0 : PL Q m1.length := by rw [← oB.len]; exact PB
    have es : seenP A1 P sA = seenP B1 Q sB := by have := R1.seen; rw [hc] at this; exact this
    have mo : A1.mode = "user" ∨ A1.mode = "kernel" := md.imp id fun h => h.1
    have mo2 : B1.mode = "user" ∨ B1.mode = "kernel" := by rw [← R1.mode]; exact mo
    refine ⟨rfl, 4, A1.T a, rfl, rfl, spec_lseen A1 a P sA m0 PA _ _ ⟨rfl, 8, B1.T b, rfl, rfl, spec_lseen B1 b Q sB m1 PB _ _ ⟨seenP A1 P sA, seenP B1 Q sB, seen_py A1 P sA, seen_py B1 Q sB, seen_shaped A1 P sA (str_ok mo), seen_shaped B1 Q sB (str_ok mo2), false, fun _ => ?_, fun z => ?_, fun _ => ?_⟩⟩⟩
    · exact ⟨rfl, 4, _, rfl, rfl, spec_lout A1 a P sA m0 P0 oA l0 _ _ ⟨false, fun _ => ⟨rfl, 8, _, rfl, rfl, spec_lout B1 b Q sB m1 Q0 oB l1 _ _ ⟨rfl, rfl⟩⟩, rfl, rfl⟩⟩
    · exfalso
      have z : ((!PyData.eqv (seenP A1 P sA) (seenP B1 Q sB)) || false) = true := z
      rw [← es, seen_eqv] at z
      cases z
    refine tn (sl' := lS cs (some (.dat (pnD p))) (some (.dat (wldD a P sA m0))) (some (.dat (wldD b Q sB m1))) (some (.dat (.int (i : Nat)))) none) (rt' := [dL cells, g0, g1, g2, A1.T a, h0, h1, h2, B1.T b]) rfl rfl ?_
    refine ⟨_, rfl, 4, _, rfl, rfl, fun z => ?_, fun z => ?_⟩
    · have z : (!decide (A1.mode = "user")) = true := z
      have z : ¬ A1.mode = "user" := by simpa using z
      rcases md with md | ⟨mk, t3⟩
      · exact absurd md z
      have tk : A1.tick - sA = B1.tick - sB := by have := R1.tk; rw [hc] at this; exact this
      obtain ⟨E, hE⟩ : ∃ E, E = A1.sp.take 3 ++ [A1.tick - sA] := ⟨_, rfl⟩
      have hE2 : E = B1.sp.take 3 ++ [B1.tick - sB] := by rw [hE, t3, tk]
      have el : ∀ (l : List Int) (v : Int), dints l ++ [D.int v] = dints (l ++ [v]) := fun l v => by simp [dints]
      have sA7 := GA1.wf.spl
      have sB7 := GB1.wf.spl
      refine ⟨by show 2 ≤ 1000; decide, fun n acc rt => acc = ((List.replicate n E).map fun l => T.lst ((dints l).map .dat)) ∧ rt = [dL cells, g0, g1, g2, A1.T a, h0, h1, h2, B1.T b], ⟨rfl, rfl⟩, ?_, ?_⟩
      · rintro n d acc _ hd ⟨rfl, rfl⟩
        have hd : [wldD a P sA m0, wldD b Q sB m1][n]? = some d := hd
        have ap : ∀ n : Nat, ((List.replicate n E).map fun l => T.lst ((dints l).map .dat)) ++ [T.lst ((dints E).map .dat)] = (List.replicate (n + 1) E).map fun l => T.lst ((dints l).map .dat) := fun n => by
          rw [List.replicate_succ', List.map_append]
          rfl
        match n, hd with
        | 0, hd =>
          cases Option.some.inj hd
          refine ⟨by show 0 < 40000; decide, fun _ => ⟨.cst (.ref a), rfl, 4, _, rfl, rfl, dints A1.sp, (by show dats (A1.sp.map fun i => T.dat (.int i)) = _; rw [← dats_ints, map_dats]), .cst (.ref a), rfl, 4, _, rfl, rfl, .int sA, rfl, by show 1 ≤ 1000; decide, T.toDs ((cutD (dints A1.sp) none (some 3)).map .dat), _, rfl, rfl, ?_, ?_, rfl⟩, fun z => (nomatch z)⟩
          · rw [cut3 A1.sp sA7, toDs_map, dlen, List.length_take, sA7]
            show 3 + 1 ≤ 40000
            decide
          · rw [cut3 A1.sp sA7, toDs_map]
            show ((List.replicate 0 E).map fun l => T.lst ((dints l).map .dat)) ++ [T.lst ((dints (A1.sp.take 3) ++ [D.int (A1.tick - sA)]).map .dat)] = _
            rw [el, ← hE]
            exact ap 0
        | 1, hd =>
          cases Option.some.inj hd
          refine ⟨by show 1 < 40000; decide, fun _ => ⟨.cst (.ref b), rfl, 8, _, rfl, rfl, dints B1.sp, (by show dats (B1.sp.map fun i => T.dat (.int i)) = _; rw [← dats_ints, map_dats]), .cst (.ref b), rfl, 8, _, rfl, rfl, .int sB, rfl, by show 1 ≤ 1000; decide, T.toDs ((cutD (dints B1.sp) none (some 3)).map .dat), _, rfl, rfl, ?_, ?_, rfl⟩, fun z => (nomatch z)⟩
          · rw [cut3 B1.sp sB7, toDs_map, dlen, List.length_take, sB7]
            show 3 + 1 ≤ 40000
            decide
          · rw [cut3 B1.sp sB7, toDs_map]
            show ((List.replicate 1 E).map fun l => T.lst ((dints l).map .dat)) ++ [T.lst ((dints (B1.sp.take 3) ++ [D.int (B1.tick - sB)]).map .dat)] = _
            rw [el, ← hE2]
            exact ap 1
        | n + 2, hd => exact absurd hd (by simp)
      rintro acc _ ⟨rfl, rfl⟩
      refine tn (sl' := lS cs (some (.dat (pnD p))) (some (.dat (wldD a P sA m0))) (some (.dat (wldD b Q sB m1))) (some (.dat (.int (i : Nat)))) (some (.dat (.lst [.lst (dints E), .lst (dints E)])))) (rt' := [dL cells, g0, g1, g2, A1.T a, h0, h1, h2, B1.T b]) ?_ rfl ?_
      · show lS _ _ _ _ _ (some (.dat (.lst [.lst (T.toDs ((dints E).map .dat)), .lst (T.toDs ((dints E).map .dat))]))) = _
        rw [toDs_map]
      have fin : ∀ q : Bool, q = true → k (.dat (.bool q)) [] := fun q hq => by rw [hq]; exact hk
      refine ⟨.lst (dints E), rfl, .lst (dints E), rfl, .list (E.map PyData.int), .list (E.map PyData.int), py_ints E, py_ints E, shaped_list (lay_int E), shaped_list (lay_int E), true, fun _ => ⟨_, rfl, 4, _, rfl, rfl, true, fun _ => ⟨4, _, kp_al, rfl, ?_, rfl⟩, ?_, rfl⟩, fin _ ?_⟩
      · show Val.dat (.bool (decide ((i : Int) ≤ p.al))) = _
        rw [decide_eq_true ia]
      · show Val.dat (.bool (decide (A1.mode = "kernel") && true)) = _
        rw [mk]
        rfl
      · show (PyData.eqv (.list (E.map PyData.int)) (.list (E.map PyData.int)) && true) = true
        rw [Bool.and_true]
        simpa [PyData.eqv] using eqvA_int E
    · have z : (!decide (A1.mode = "user")) = false := z
      have z : A1.mode = "user" := by simpa using z
      exact .inl ⟨A1, B1, _, rfl, rfl, R1, GA1, GB1, z, by rw [t1, tA]; show sA + (i : Int) + 1 = sA + ((i + 1 : Nat) : Int); omega, by have := late z; show ((i + 1 : Nat) : Int) ≤ p.al; omega⟩
  · rintro _ _ ⟨A, B, y, rfl, rfl, R, GA, GB, uA, tA, ia⟩
    exfalso
    have ia : (100 : Int) ≤ p.al := ia
    omega
end K07
end

section
set_option Elab.async false
set_option linter.all false
set_option maxRecDepth 100000
set_option maxHeartbeats 4000000
namespace K07
open PySem PySem.Spec PyProof.Rows L2 Evl Wv
theorem dr_fn {K : PySem.W.Frag} {C : Cs} {G : Hp} {a : Addr} (j : Nat) (e : C.fn j = a) : DR K C G (.ref a) (.fn j) := e ▸ DR.fn j
def spLaw (K : PySem.W.Frag) : Sp := fun vs H Q _ => ∃ (a : Addr) (ns : List Int), vs = [.ref a] ∧ SqL K H a (ns.map V.int) ∧ ns.length ≤ 63 ∧ ∀ H', Q (.bl true) H'
theorem ok_fin {P : Program} {w : World} {K : PySem.W.Frag} {mg : Str → Option Value} {base : Heap} (T : Tx K w mg) : FnOk P w K mg base CX0 12 T.aLaw T.fdLaw PLaw (spLaw K) :=
  (ok_law T).imp fun vs H Q E h => by
    obtain ⟨a, ns, rfl, hS, hl, q⟩ := h
    refine ⟨H, [], [], [.dat (.ro (dints ns))], [], fun t rt => t = .dat (.bool true) ∧ rt = [], fun _ _ => False, ⟨Ex.refl _, .nil, List.nodup_nil, fun _ z => (nomatch z)⟩, .cons (DR.ro hS (DRs.of_ints ns)) .nil, spec_law ns hl _ _ ⟨rfl, rfl⟩, ?_, fun _ _ _ _ _ _ _ _ _ _ z => z⟩
    rintro t rt' fps' fp G' H' v _ _ o _ ⟨rfl, rfl⟩
    cases o.tr with
    | dat h => cases h; exact q _
theorem all_mk {l : PySem.W.OpenLaw} {w : World} {K : PySem.W.Frag} {h : Heap} {mg : Str → Option Value} {fa : Addr} (X : K.In h) (G : h.Ns mainGlobals mg) (hfa : mg "law" = some (.ref fa))
    {cBTrap fBTrap : Addr} {odBTrap anBTrap : Option Addr} {slBTrap : Array (Option Value)} {ocBTrap kVBTrap dcBTrap pmBTrap cdBTrap ctBTrap : Value}
    {nmBTrap qBTrap : Str} {NBTrap : Addr} {bsBTrap bmBTrap : List Value} {snBTrap : List Str} {subBTrap : List Value} {abBTrap : Bool} {colBTrap : Option Bool} {ddBTrap : Option Addr} {m0BTrap m1BTrap m2BTrap m3BTrap m5BTrap : Option Value}
    {wACTIONS : Addr} {esACTIONS : Array DictEntry} {nnACTIONS : Nat}
    {C0 : Addr}
    {C1 : Addr}
    {C2 : Addr}
    {f0 : Addr} {od0 an0 : Option Addr} {sl0 : Array (Option Value)} {oc0 kV0 dc0 pm0 cd0 ct0 : Value}
    {f1 : Addr} {od1 an1 : Option Addr} {sl1 : Array (Option Value)} {oc1 kV1 dc1 pm1 cd1 ct1 : Value}
    {f2 : Addr} {od2 an2 : Option Addr} {sl2 : Array (Option Value)} {oc2 kV2 dc2 pm2 cd2 ct2 : Value}
    {f3 : Addr} {od3 an3 : Option Addr} {sl3 : Array (Option Value)} {oc3 kV3 dc3 pm3 cd3 ct3 : Value}
    {f4 : Addr} {od4 an4 : Option Addr} {sl4 : Array (Option Value)} {oc4 kV4 dc4 pm4 cd4 ct4 : Value}
    {f5 : Addr} {od5 an5 : Option Addr} {sl5 : Array (Option Value)} {oc5 kV5 dc5 pm5 cd5 ct5 : Value}
    {f6 : Addr} {od6 an6 : Option Addr} {sl6 : Array (Option Value)} {oc6 kV6 dc6 pm6 cd6 ct6 : Value}
    {f7 : Addr} {od7 an7 : Option Addr} {sl7 : Array (Option Value)} {oc7 kV7 dc7 pm7 cd7 ct7 : Value}
    {f8 : Addr} {od8 an8 : Option Addr} {sl8 : Array (Option Value)} {oc8 kV8 dc8 pm8 cd8 ct8 : Value}
    {f9 : Addr} {od9 an9 : Option Addr} {sl9 : Array (Option Value)} {oc9 kV9 dc9 pm9 cd9 ct9 : Value}
    {f10 : Addr} {od10 an10 : Option Addr} {sl10 : Array (Option Value)} {oc10 kV10 dc10 pm10 cd10 ct10 : Value}
    {f11 : Addr} {od11 an11 : Option Addr} {sl11 : Array (Option Value)} {oc11 kV11 dc11 pm11 cd11 ct11 : Value}
    {f12 : Addr} {od12 an12 : Option Addr} {sl12 : Array (Option Value)} {oc12 kV12 dc12 pm12 cd12 ct12 : Value}
    {f13 : Addr} {od13 an13 : Option Addr} {sl13 : Array (Option Value)} {oc13 kV13 dc13 pm13 cd13 ct13 : Value}
    {f14 : Addr} {od14 an14 : Option Addr} {sl14 : Array (Option Value)} {oc14 kV14 dc14 pm14 cd14 ct14 : Value}
    {f15 : Addr} {od15 an15 : Option Addr} {sl15 : Array (Option Value)} {oc15 kV15 dc15 pm15 cd15 ct15 : Value}
    {f16 : Addr} {od16 an16 : Option Addr} {sl16 : Array (Option Value)} {oc16 kV16 dc16 pm16 cd16 ct16 : Value}
    {f17 : Addr} {od17 an17 : Option Addr} {sl17 : Array (Option Value)} {oc17 kV17 dc17 pm17 cd17 ct17 : Value}
    {f18 : Addr} {od18 an18 : Option Addr} {sl18 : Array (Option Value)} {oc18 kV18 dc18 pm18 cd18 ct18 : Value}
    {f19 : Addr} {od19 an19 : Option Addr} {sl19 : Array (Option Value)} {oc19 kV19 dc19 pm19 cd19 ct19 : Value}
    {f20 : Addr} {od20 an20 : Option Addr} {sl20 : Array (Option Value)} {oc20 kV20 dc20 pm20 cd20 ct20 : Value}
    {f21 : Addr} {od21 an21 : Option Addr} {sl21 : Array (Option Value)} {oc21 kV21 dc21 pm21 cd21 ct21 : Value}
    {f22 : Addr} {od22 an22 : Option Addr} {sl22 : Array (Option Value)} {oc22 kV22 dc22 pm22 cd22 ct22 : Value}
    {f23 : Addr} {od23 an23 : Option Addr} {sl23 : Array (Option Value)} {oc23 kV23 dc23 pm23 cd23 ct23 : Value}
    {f24 : Addr} {od24 an24 : Option Addr} {sl24 : Array (Option Value)} {oc24 kV24 dc24 pm24 cd24 ct24 : Value}
    {f25 : Addr} {od25 an25 : Option Addr} {sl25 : Array (Option Value)} {oc25 kV25 dc25 pm25 cd25 ct25 : Value}
    {f26 : Addr} {od26 an26 : Option Addr} {sl26 : Array (Option Value)} {oc26 kV26 dc26 pm26 cd26 ct26 : Value}
    {f27 : Addr} {od27 an27 : Option Addr} {sl27 : Array (Option Value)} {oc27 kV27 dc27 pm27 cd27 ct27 : Value}
    {f28 : Addr} {od28 an28 : Option Addr} {sl28 : Array (Option Value)} {oc28 kV28 dc28 pm28 cd28 ct28 : Value}
    {f29 : Addr} {od29 an29 : Option Addr} {sl29 : Array (Option Value)} {oc29 kV29 dc29 pm29 cd29 ct29 : Value}
    {f30 : Addr} {od30 an30 : Option Addr} {sl30 : Array (Option Value)} {oc30 kV30 dc30 pm30 cd30 ct30 : Value}
    {f31 : Addr} {od31 an31 : Option Addr} {sl31 : Array (Option Value)} {oc31 kV31 dc31 pm31 cd31 ct31 : Value}
    {f32 : Addr} {od32 an32 : Option Addr} {sl32 : Array (Option Value)} {oc32 kV32 dc32 pm32 cd32 ct32 : Value}
    {f33 : Addr} {od33 an33 : Option Addr} {sl33 : Array (Option Value)} {oc33 kV33 dc33 pm33 cd33 ct33 : Value}
    {f34 : Addr} {od34 an34 : Option Addr} {sl34 : Array (Option Value)} {oc34 kV34 dc34 pm34 cd34 ct34 : Value}
    {f35 : Addr} {od35 an35 : Option Addr} {sl35 : Array (Option Value)} {oc35 kV35 dc35 pm35 cd35 ct35 : Value}
    {f36 : Addr} {od36 an36 : Option Addr} {sl36 : Array (Option Value)} {oc36 kV36 dc36 pm36 cd36 ct36 : Value}
    {f37 : Addr} {od37 an37 : Option Addr} {sl37 : Array (Option Value)} {oc37 kV37 dc37 pm37 cd37 ct37 : Value}
    {f38 : Addr} {od38 an38 : Option Addr} {sl38 : Array (Option Value)} {oc38 kV38 dc38 pm38 cd38 ct38 : Value}
    {f39 : Addr} {od39 an39 : Option Addr} {sl39 : Array (Option Value)} {oc39 kV39 dc39 pm39 cd39 ct39 : Value}
    {f40 : Addr} {od40 an40 : Option Addr} {sl40 : Array (Option Value)} {oc40 kV40 dc40 pm40 cd40 ct40 : Value}
    {f41 : Addr} {od41 an41 : Option Addr} {sl41 : Array (Option Value)} {oc41 kV41 dc41 pm41 cd41 ct41 : Value}
    {f42 : Addr} {od42 an42 : Option Addr} {sl42 : Array (Option Value)} {oc42 kV42 dc42 pm42 cd42 ct42 : Value}
    {f43 : Addr} {od43 an43 : Option Addr} {sl43 : Array (Option Value)} {oc43 kV43 dc43 pm43 cd43 ct43 : Value}
    {f44 : Addr} {od44 an44 : Option Addr} {sl44 : Array (Option Value)} {oc44 kV44 dc44 pm44 cd44 ct44 : Value}
    {f45 : Addr} {od45 an45 : Option Addr} {sl45 : Array (Option Value)} {oc45 kV45 dc45 pm45 cd45 ct45 : Value}
    {f46 : Addr} {od46 an46 : Option Addr} {sl46 : Array (Option Value)} {oc46 kV46 dc46 pm46 cd46 ct46 : Value}
    {f47 : Addr} {od47 an47 : Option Addr} {sl47 : Array (Option Value)} {oc47 kV47 dc47 pm47 cd47 ct47 : Value}
    {f48 : Addr} {od48 an48 : Option Addr} {sl48 : Array (Option Value)} {oc48 kV48 dc48 pm48 cd48 ct48 : Value}
    {f49 : Addr} {od49 an49 : Option Addr} {sl49 : Array (Option Value)} {oc49 kV49 dc49 pm49 cd49 ct49 : Value}
    {f50 : Addr} {od50 an50 : Option Addr} {sl50 : Array (Option Value)} {oc50 kV50 dc50 pm50 cd50 ct50 : Value}
    {f51 : Addr} {od51 an51 : Option Addr} {sl51 : Array (Option Value)} {oc51 kV51 dc51 pm51 cd51 ct51 : Value}
    {f52 : Addr} {od52 an52 : Option Addr} {sl52 : Array (Option Value)} {oc52 kV52 dc52 pm52 cd52 ct52 : Value}
    {f53 : Addr} {od53 an53 : Option Addr} {sl53 : Array (Option Value)} {oc53 kV53 dc53 pm53 cd53 ct53 : Value}
    {f54 : Addr} {od54 an54 : Option Addr} {sl54 : Array (Option Value)} {oc54 kV54 dc54 pm54 cd54 ct54 : Value}
    {f55 : Addr} {od55 an55 : Option Addr} {sl55 : Array (Option Value)} {oc55 kV55 dc55 pm55 cd55 ct55 : Value}
    {f56 : Addr} {od56 an56 : Option Addr} {sl56 : Array (Option Value)} {oc56 kV56 dc56 pm56 cd56 ct56 : Value}
    {tgWORDS : PySem.Tok}
    {tgFIRST : PySem.Tok}
    {tgSLOTS : PySem.Tok}
    {tgILLEGAL : PySem.Tok}
    {tgADDRESS : PySem.Tok}
    {tgCALLED : PySem.Tok}
    {tgHALTED : PySem.Tok}
    {tgPAGE : PySem.Tok}
    {tgUSER_WORDS : PySem.Tok}
    {tgREAD : PySem.Tok}
    {tgWRITE : PySem.Tok}
    {tgEXECUTE : PySem.Tok}
    {tgRIGHTS : PySem.Tok}
    {tgEPC : PySem.Tok}
    {tgCAUSE : PySem.Tok}
    {tgVALUE : PySem.Tok}
    {tgMAP : PySem.Tok}
    {tgALARM : PySem.Tok}
    {tgTICKS : PySem.Tok}
    {tgTRAPPED : PySem.Tok}
    {tgALARMED : PySem.Tok}
    {u0 : Addr} {uo0 : Option Addr} {ui0 : Array Value} {un0 : Nat} {us0 : Array (Option Value)}
    {u1 : Addr} {uo1 : Option Addr} {ui1 : Array Value} {un1 : Nat} {us1 : Array (Option Value)}
    {wGREATEST : Addr} {esGREATEST : Array DictEntry} {nnGREATEST : Nat}
    {u2 : Addr} {uo2 : Option Addr} {ui2 : Array Value} {un2 : Nat} {us2 : Array (Option Value)}
    {u3 : Addr} {uo3 : Option Addr} {ui3 : Array Value} {un3 : Nat} {us3 : Array (Option Value)}
    {u4 : Addr} {uo4 : Option Addr} {ui4 : Array Value} {un4 : Nat} {us4 : Array (Option Value)}
    {u5 : Addr} {uo5 : Option Addr} {ui5 : Array Value} {un5 : Nat} {us5 : Array (Option Value)}
    {u6 : Addr} {uo6 : Option Addr} {ui6 : Array Value} {un6 : Nat} {us6 : Array (Option Value)}
    {u7 : Addr} {uo7 : Option Addr} {ui7 : Array Value} {un7 : Nat} {us7 : Array (Option Value)}
    {u8 : Addr} {uo8 : Option Addr} {ui8 : Array Value} {un8 : Nat} {us8 : Array (Option Value)}
    {u9 : Addr} {uo9 : Option Addr} {ui9 : Array Value} {un9 : Nat} {us9 : Array (Option Value)}
    {u10 : Addr} {uo10 : Option Addr} {ui10 : Array Value} {un10 : Nat} {us10 : Array (Option Value)}
    {u11 : Addr} {uo11 : Option Addr} {ui11 : Array Value} {un11 : Nat} {us11 : Array (Option Value)}
    {u12 : Addr} {uo12 : Option Addr} {ui12 : Array Value} {un12 : Nat} {us12 : Array (Option Value)}
    {u13 : Addr} {uo13 : Option Addr} {ui13 : Array Value} {un13 : Nat} {us13 : Array (Option Value)}
    {u14 : Addr} {uo14 : Option Addr} {ui14 : Array Value} {un14 : Nat} {us14 : Array (Option Value)}
    {u15 : Addr} {uo15 : Option Addr} {ui15 : Array Value} {un15 : Nat} {us15 : Array (Option Value)}
    {u16 : Addr} {uo16 : Option Addr} {ui16 : Array Value} {un16 : Nat} {us16 : Array (Option Value)}
    {u17 : Addr} {uo17 : Option Addr} {ui17 : Array Value} {un17 : Nat} {us17 : Array (Option Value)}
    {u18 : Addr} {uo18 : Option Addr} {ui18 : Array Value} {un18 : Nat} {us18 : Array (Option Value)}
    {u19 : Addr} {uo19 : Option Addr} {ui19 : Array Value} {un19 : Nat} {us19 : Array (Option Value)}
    {u20 : Addr} {uo20 : Option Addr} {ui20 : Array Value} {un20 : Nat} {us20 : Array (Option Value)}
    {u21 : Addr} {uo21 : Option Addr} {ui21 : Array Value} {un21 : Nat} {us21 : Array (Option Value)}
    {u22 : Addr} {uo22 : Option Addr} {ui22 : Array Value} {un22 : Nat} {us22 : Array (Option Value)}
    {u23 : Addr} {uo23 : Option Addr} {ui23 : Array Value} {un23 : Nat} {us23 : Array (Option Value)}
    {u24 : Addr} {uo24 : Option Addr} {ui24 : Array Value} {un24 : Nat} {us24 : Array (Option Value)}
    {u25 : Addr} {uo25 : Option Addr} {ui25 : Array Value} {un25 : Nat} {us25 : Array (Option Value)}
    {u26 : Addr} {uo26 : Option Addr} {ui26 : Array Value} {un26 : Nat} {us26 : Array (Option Value)}
    {u27 : Addr} {uo27 : Option Addr} {ui27 : Array Value} {un27 : Nat} {us27 : Array (Option Value)}
    {tgKERNEL : PySem.Tok}
    {tgUSER : PySem.Tok}
    {tgBROKEN : PySem.Tok}
    (ca0 : PySem.W.nsIn K mainGlobals "KernelView" = some (some (.ref C0)))
    (cp0 : PySem.W.plainGet K C0 PySem.Str.empty = true)
    (ch0 : PySem.W.hasDictIn K C0 = true)
    (co0 : PySem.W.plainOver K C0 = true)
    (cs0 : PySem.W.findIn K (.ref C0) "__setattr__" = some (some (.builtin "object.__setattr__")))
    (n0_machine : PySem.W.findIn K (.ref C0) "machine" = some none)
    (cc0 : PySem.W.findIn K (.ref C0) "__class__" = some (some (.builtin "object.__class__")))
    (cm0 : PySem.W.mroIn K C0 (.type "object") = some true)
    (ca1 : PySem.W.nsIn K mainGlobals "UserView" = some (some (.ref C1)))
    (cp1 : PySem.W.plainGet K C1 PySem.Str.empty = true)
    (ch1 : PySem.W.hasDictIn K C1 = true)
    (co1 : PySem.W.plainOver K C1 = true)
    (cs1 : PySem.W.findIn K (.ref C1) "__setattr__" = some (some (.builtin "object.__setattr__")))
    (n1_machine : PySem.W.findIn K (.ref C1) "machine" = some none)
    (cc1 : PySem.W.findIn K (.ref C1) "__class__" = some (some (.builtin "object.__class__")))
    (cm1 : PySem.W.mroIn K C1 (.type "object") = some true)
    (ca2 : PySem.W.nsIn K mainGlobals "Machine" = some (some (.ref C2)))
    (cp2 : PySem.W.plainGet K C2 PySem.Str.empty = true)
    (ch2 : PySem.W.hasDictIn K C2 = true)
    (co2 : PySem.W.plainOver K C2 = true)
    (cs2 : PySem.W.findIn K (.ref C2) "__setattr__" = some (some (.builtin "object.__setattr__")))
    (n2_memory : PySem.W.findIn K (.ref C2) "memory" = some none)
    (n2_rings : PySem.W.findIn K (.ref C2) "rings" = some none)
    (n2_inputs : PySem.W.findIn K (.ref C2) "inputs" = some none)
    (n2_mode : PySem.W.findIn K (.ref C2) "mode" = some none)
    (n2_pc : PySem.W.findIn K (.ref C2) "pc" = some none)
    (n2_user : PySem.W.findIn K (.ref C2) "user" = some none)
    (n2_kernel : PySem.W.findIn K (.ref C2) "kernel" = some none)
    (n2_specials : PySem.W.findIn K (.ref C2) "specials" = some none)
    (n2_tick : PySem.W.findIn K (.ref C2) "tick" = some none)
    (n2_given : PySem.W.findIn K (.ref C2) "given" = some none)
    (n2_kernel_view : PySem.W.findIn K (.ref C2) "kernel_view" = some none)
    (n2_user_view : PySem.W.findIn K (.ref C2) "user_view" = some none)
    (cc2 : PySem.W.findIn K (.ref C2) "__class__" = some (some (.builtin "object.__class__")))
    (cm2 : PySem.W.mroIn K C2 (.type "object") = some true)
    (sp0 : PySem.W.specialIn K (.builtin "object.__class__") "__get__" = some (some (.builtin "getset_descriptor.__get__")))
    (tk0 : PySem.W.takesIn K (.builtin "object.__class__") = some true)
    (a0 : PySem.W.nsIn K mainGlobals "wrap" = some (some (.ref f0)))
    (l0 : K.lookup f0 = some ⟨oc0, od0, .func (PySem.W.fnOf "wrap" "wrap" (defArgs sWrap) (defBody sWrap) (defScope sWrap) .none kV0 dc0 pm0 an0 cd0 ct0), sl0⟩)
    (c0 : PySem.W.codeIn K cd0 "wrap" = true)
    (k0 : PySem.W.keepIn K (.ref f0) = true)
    (a1 : PySem.W.nsIn K mainGlobals "add" = some (some (.ref f1)))
    (l1 : K.lookup f1 = some ⟨oc1, od1, .func (PySem.W.fnOf "add" "add" (defArgs sAdd) (defBody sAdd) (defScope sAdd) .none kV1 dc1 pm1 an1 cd1 ct1), sl1⟩)
    (c1 : PySem.W.codeIn K cd1 "add" = true)
    (k1 : PySem.W.keepIn K (.ref f1) = true)
    (a2 : PySem.W.nsIn K mainGlobals "sub" = some (some (.ref f2)))
    (l2 : K.lookup f2 = some ⟨oc2, od2, .func (PySem.W.fnOf "sub" "sub" (defArgs sSub) (defBody sSub) (defScope sSub) .none kV2 dc2 pm2 an2 cd2 ct2), sl2⟩)
    (c2 : PySem.W.codeIn K cd2 "sub" = true)
    (k2 : PySem.W.keepIn K (.ref f2) = true)
    (a3 : PySem.W.nsIn K mainGlobals "mul" = some (some (.ref f3)))
    (l3 : K.lookup f3 = some ⟨oc3, od3, .func (PySem.W.fnOf "mul" "mul" (defArgs sMul) (defBody sMul) (defScope sMul) .none kV3 dc3 pm3 an3 cd3 ct3), sl3⟩)
    (c3 : PySem.W.codeIn K cd3 "mul" = true)
    (k3 : PySem.W.keepIn K (.ref f3) = true)
    (a4 : PySem.W.nsIn K mainGlobals "bit_and" = some (some (.ref f4)))
    (l4 : K.lookup f4 = some ⟨oc4, od4, .func (PySem.W.fnOf "bit_and" "bit_and" (defArgs sBitAnd) (defBody sBitAnd) (defScope sBitAnd) .none kV4 dc4 pm4 an4 cd4 ct4), sl4⟩)
    (c4 : PySem.W.codeIn K cd4 "bit_and" = true)
    (k4 : PySem.W.keepIn K (.ref f4) = true)
    (a5 : PySem.W.nsIn K mainGlobals "bit_or" = some (some (.ref f5)))
    (l5 : K.lookup f5 = some ⟨oc5, od5, .func (PySem.W.fnOf "bit_or" "bit_or" (defArgs sBitOr) (defBody sBitOr) (defScope sBitOr) .none kV5 dc5 pm5 an5 cd5 ct5), sl5⟩)
    (c5 : PySem.W.codeIn K cd5 "bit_or" = true)
    (k5 : PySem.W.keepIn K (.ref f5) = true)
    (a6 : PySem.W.nsIn K mainGlobals "bit_xor" = some (some (.ref f6)))
    (l6 : K.lookup f6 = some ⟨oc6, od6, .func (PySem.W.fnOf "bit_xor" "bit_xor" (defArgs sBitXor) (defBody sBitXor) (defScope sBitXor) .none kV6 dc6 pm6 an6 cd6 ct6), sl6⟩)
    (c6 : PySem.W.codeIn K cd6 "bit_xor" = true)
    (k6 : PySem.W.keepIn K (.ref f6) = true)
    (a7 : PySem.W.nsIn K mainGlobals "shift_left" = some (some (.ref f7)))
    (l7 : K.lookup f7 = some ⟨oc7, od7, .func (PySem.W.fnOf "shift_left" "shift_left" (defArgs sShiftLeft) (defBody sShiftLeft) (defScope sShiftLeft) .none kV7 dc7 pm7 an7 cd7 ct7), sl7⟩)
    (c7 : PySem.W.codeIn K cd7 "shift_left" = true)
    (k7 : PySem.W.keepIn K (.ref f7) = true)
    (a8 : PySem.W.nsIn K mainGlobals "shift_right" = some (some (.ref f8)))
    (l8 : K.lookup f8 = some ⟨oc8, od8, .func (PySem.W.fnOf "shift_right" "shift_right" (defArgs sShiftRight) (defBody sShiftRight) (defScope sShiftRight) .none kV8 dc8 pm8 an8 cd8 ct8), sl8⟩)
    (c8 : PySem.W.codeIn K cd8 "shift_right" = true)
    (k8 : PySem.W.keepIn K (.ref f8) = true)
    (a9 : PySem.W.nsIn K mainGlobals "fields_fit" = some (some (.ref f9)))
    (l9 : K.lookup f9 = some ⟨oc9, od9, .func (PySem.W.fnOf "fields_fit" "fields_fit" (defArgs sFieldsFit) (defBody sFieldsFit) (defScope sFieldsFit) .none kV9 dc9 pm9 an9 cd9 ct9), sl9⟩)
    (c9 : PySem.W.codeIn K cd9 "fields_fit" = true)
    (k9 : PySem.W.keepIn K (.ref f9) = true)
    (a10 : PySem.W.nsIn K mainGlobals "decode" = some (some (.ref f10)))
    (l10 : K.lookup f10 = some ⟨oc10, od10, .func (PySem.W.fnOf "decode" "decode" (defArgs sDecode) (defBody sDecode) (defScope sDecode) .none kV10 dc10 pm10 an10 cd10 ct10), sl10⟩)
    (c10 : PySem.W.codeIn K cd10 "decode" = true)
    (k10 : PySem.W.keepIn K (.ref f10) = true)
    (a11 : PySem.W.nsIn K mainGlobals "write_input" = some (some (.ref f11)))
    (l11 : K.lookup f11 = some ⟨oc11, od11, .func (PySem.W.fnOf "write_input" "write_input" (defArgs sWriteInput) (defBody sWriteInput) (defScope sWriteInput) .none kV11 dc11 pm11 an11 cd11 ct11), sl11⟩)
    (c11 : PySem.W.codeIn K cd11 "write_input" = true)
    (k11 : PySem.W.keepIn K (.ref f11) = true)
    (a12 : PySem.W.nsIn K mainGlobals "halt" = some (some (.ref f12)))
    (l12 : K.lookup f12 = some ⟨oc12, od12, .func (PySem.W.fnOf "halt" "halt" (defArgs sHalt) (defBody sHalt) (defScope sHalt) .none kV12 dc12 pm12 an12 cd12 ct12), sl12⟩)
    (c12 : PySem.W.codeIn K cd12 "halt" = true)
    (k12 : PySem.W.keepIn K (.ref f12) = true)
    (a13 : PySem.W.nsIn K mainGlobals "call" = some (some (.ref f13)))
    (l13 : K.lookup f13 = some ⟨oc13, od13, .func (PySem.W.fnOf "call" "call" (defArgs sCall) (defBody sCall) (defScope sCall) .none kV13 dc13 pm13 an13 cd13 ct13), sl13⟩)
    (c13 : PySem.W.codeIn K cd13 "call" = true)
    (k13 : PySem.W.keepIn K (.ref f13) = true)
    (a14 : PySem.W.findIn K (.ref C0) "__init__" = some (some (.ref f14)))
    (t14 : PySem.W.isFn K (.ref f14) = true)
    (l14 : K.lookup f14 = some ⟨oc14, od14, .func (PySem.W.fnOf "__init__" "KernelView.__init__" (defArgs sKernelViewInit) (defBody sKernelViewInit) (defScope sKernelViewInit) .none kV14 dc14 pm14 an14 cd14 ct14), sl14⟩)
    (c14 : PySem.W.codeIn K cd14 "KernelView.__init__" = true)
    (k14 : PySem.W.keepIn K (.ref f14) = true)
    (mk0 : PySem.W.makesIn K C0 = true)
    (kc0 : PySem.W.keepIn K (.ref C0) = true)
    (a15 : PySem.W.findIn K (.ref C0) "load" = some (some (.ref f15)))
    (t15 : PySem.W.isFn K (.ref f15) = true)
    (l15 : K.lookup f15 = some ⟨oc15, od15, .func (PySem.W.fnOf "load" "KernelView.load" (defArgs sKernelViewLoad) (defBody sKernelViewLoad) (defScope sKernelViewLoad) .none kV15 dc15 pm15 an15 cd15 ct15), sl15⟩)
    (c15 : PySem.W.codeIn K cd15 "KernelView.load" = true)
    (k15 : PySem.W.keepIn K (.ref f15) = true)
    (a16 : PySem.W.findIn K (.ref C0) "fetch" = some (some (.ref f16)))
    (t16 : PySem.W.isFn K (.ref f16) = true)
    (l16 : K.lookup f16 = some ⟨oc16, od16, .func (PySem.W.fnOf "fetch" "KernelView.fetch" (defArgs sKernelViewFetch) (defBody sKernelViewFetch) (defScope sKernelViewFetch) .none kV16 dc16 pm16 an16 cd16 ct16), sl16⟩)
    (c16 : PySem.W.codeIn K cd16 "KernelView.fetch" = true)
    (k16 : PySem.W.keepIn K (.ref f16) = true)
    (a17 : PySem.W.findIn K (.ref C0) "store" = some (some (.ref f17)))
    (t17 : PySem.W.isFn K (.ref f17) = true)
    (l17 : K.lookup f17 = some ⟨oc17, od17, .func (PySem.W.fnOf "store" "KernelView.store" (defArgs sKernelViewStore) (defBody sKernelViewStore) (defScope sKernelViewStore) .none kV17 dc17 pm17 an17 cd17 ct17), sl17⟩)
    (c17 : PySem.W.codeIn K cd17 "KernelView.store" = true)
    (k17 : PySem.W.keepIn K (.ref f17) = true)
    (a18 : PySem.W.findIn K (.ref C1) "__init__" = some (some (.ref f18)))
    (t18 : PySem.W.isFn K (.ref f18) = true)
    (l18 : K.lookup f18 = some ⟨oc18, od18, .func (PySem.W.fnOf "__init__" "UserView.__init__" (defArgs sUserViewInit) (defBody sUserViewInit) (defScope sUserViewInit) .none kV18 dc18 pm18 an18 cd18 ct18), sl18⟩)
    (c18 : PySem.W.codeIn K cd18 "UserView.__init__" = true)
    (k18 : PySem.W.keepIn K (.ref f18) = true)
    (mk1 : PySem.W.makesIn K C1 = true)
    (kc1 : PySem.W.keepIn K (.ref C1) = true)
    (a19 : PySem.W.findIn K (.ref C1) "index_of" = some (some (.ref f19)))
    (t19 : PySem.W.isFn K (.ref f19) = true)
    (l19 : K.lookup f19 = some ⟨oc19, od19, .func (PySem.W.fnOf "index_of" "UserView.index_of" (defArgs sUserViewIndexOf) (defBody sUserViewIndexOf) (defScope sUserViewIndexOf) .none kV19 dc19 pm19 an19 cd19 ct19), sl19⟩)
    (c19 : PySem.W.codeIn K cd19 "UserView.index_of" = true)
    (k19 : PySem.W.keepIn K (.ref f19) = true)
    (a20 : PySem.W.findIn K (.ref C1) "fetch" = some (some (.ref f20)))
    (t20 : PySem.W.isFn K (.ref f20) = true)
    (l20 : K.lookup f20 = some ⟨oc20, od20, .func (PySem.W.fnOf "fetch" "UserView.fetch" (defArgs sUserViewFetch) (defBody sUserViewFetch) (defScope sUserViewFetch) .none kV20 dc20 pm20 an20 cd20 ct20), sl20⟩)
    (c20 : PySem.W.codeIn K cd20 "UserView.fetch" = true)
    (k20 : PySem.W.keepIn K (.ref f20) = true)
    (a21 : PySem.W.findIn K (.ref C1) "load" = some (some (.ref f21)))
    (t21 : PySem.W.isFn K (.ref f21) = true)
    (l21 : K.lookup f21 = some ⟨oc21, od21, .func (PySem.W.fnOf "load" "UserView.load" (defArgs sUserViewLoad) (defBody sUserViewLoad) (defScope sUserViewLoad) .none kV21 dc21 pm21 an21 cd21 ct21), sl21⟩)
    (c21 : PySem.W.codeIn K cd21 "UserView.load" = true)
    (k21 : PySem.W.keepIn K (.ref f21) = true)
    (a22 : PySem.W.findIn K (.ref C1) "store" = some (some (.ref f22)))
    (t22 : PySem.W.isFn K (.ref f22) = true)
    (l22 : K.lookup f22 = some ⟨oc22, od22, .func (PySem.W.fnOf "store" "UserView.store" (defArgs sUserViewStore) (defBody sUserViewStore) (defScope sUserViewStore) .none kV22 dc22 pm22 an22 cd22 ct22), sl22⟩)
    (c22 : PySem.W.codeIn K cd22 "UserView.store" = true)
    (k22 : PySem.W.keepIn K (.ref f22) = true)
    (a23 : PySem.W.nsIn K mainGlobals "set_word" = some (some (.ref f23)))
    (l23 : K.lookup f23 = some ⟨oc23, od23, .func (PySem.W.fnOf "set_word" "set_word" (defArgs sSetWord) (defBody sSetWord) (defScope sSetWord) .none kV23 dc23 pm23 an23 cd23 ct23), sl23⟩)
    (c23 : PySem.W.codeIn K cd23 "set_word" = true)
    (k23 : PySem.W.keepIn K (.ref f23) = true)
    (a24 : PySem.W.nsIn K mainGlobals "copy_word" = some (some (.ref f24)))
    (l24 : K.lookup f24 = some ⟨oc24, od24, .func (PySem.W.fnOf "copy_word" "copy_word" (defArgs sCopyWord) (defBody sCopyWord) (defScope sCopyWord) .none kV24 dc24 pm24 an24 cd24 ct24), sl24⟩)
    (c24 : PySem.W.codeIn K cd24 "copy_word" = true)
    (k24 : PySem.W.keepIn K (.ref f24) = true)
    (a25 : PySem.W.nsIn K mainGlobals "calculated" = some (some (.ref f25)))
    (l25 : K.lookup f25 = some ⟨oc25, od25, .func (PySem.W.fnOf "calculated" "calculated" (defArgs sCalculated) (defBody sCalculated) (defScope sCalculated) .none kV25 dc25 pm25 an25 cd25 ct25), sl25⟩)
    (c25 : PySem.W.codeIn K cd25 "calculated" = true)
    (k25 : PySem.W.keepIn K (.ref f25) = true)
    (a26 : PySem.W.nsIn K mainGlobals "calculate" = some (some (.ref f26)))
    (l26 : K.lookup f26 = some ⟨oc26, od26, .func (PySem.W.fnOf "calculate" "calculate" (defArgs sCalculate) (defBody sCalculate) (defScope sCalculate) .none kV26 dc26 pm26 an26 cd26 ct26), sl26⟩)
    (c26 : PySem.W.codeIn K cd26 "calculate" = true)
    (k26 : PySem.W.keepIn K (.ref f26) = true)
    (a27 : PySem.W.nsIn K mainGlobals "shift_word_left" = some (some (.ref f27)))
    (l27 : K.lookup f27 = some ⟨oc27, od27, .func (PySem.W.fnOf "shift_word_left" "shift_word_left" (defArgs sShiftWordLeft) (defBody sShiftWordLeft) (defScope sShiftWordLeft) .none kV27 dc27 pm27 an27 cd27 ct27), sl27⟩)
    (c27 : PySem.W.codeIn K cd27 "shift_word_left" = true)
    (k27 : PySem.W.keepIn K (.ref f27) = true)
    (a28 : PySem.W.nsIn K mainGlobals "shift_word_right" = some (some (.ref f28)))
    (l28 : K.lookup f28 = some ⟨oc28, od28, .func (PySem.W.fnOf "shift_word_right" "shift_word_right" (defArgs sShiftWordRight) (defBody sShiftWordRight) (defScope sShiftWordRight) .none kV28 dc28 pm28 an28 cd28 ct28), sl28⟩)
    (c28 : PySem.W.codeIn K cd28 "shift_word_right" = true)
    (k28 : PySem.W.keepIn K (.ref f28) = true)
    (a29 : PySem.W.nsIn K mainGlobals "small" = some (some (.ref f29)))
    (l29 : K.lookup f29 = some ⟨oc29, od29, .func (PySem.W.fnOf "small" "small" (defArgs sSmall) (defBody sSmall) (defScope sSmall) .none kV29 dc29 pm29 an29 cd29 ct29), sl29⟩)
    (c29 : PySem.W.codeIn K cd29 "small" = true)
    (k29 : PySem.W.keepIn K (.ref f29) = true)
    (a30 : PySem.W.nsIn K mainGlobals "add_small" = some (some (.ref f30)))
    (l30 : K.lookup f30 = some ⟨oc30, od30, .func (PySem.W.fnOf "add_small" "add_small" (defArgs sAddSmall) (defBody sAddSmall) (defScope sAddSmall) .none kV30 dc30 pm30 an30 cd30 ct30), sl30⟩)
    (c30 : PySem.W.codeIn K cd30 "add_small" = true)
    (k30 : PySem.W.keepIn K (.ref f30) = true)
    (a31 : PySem.W.nsIn K mainGlobals "load_word" = some (some (.ref f31)))
    (l31 : K.lookup f31 = some ⟨oc31, od31, .func (PySem.W.fnOf "load_word" "load_word" (defArgs sLoadWord) (defBody sLoadWord) (defScope sLoadWord) .none kV31 dc31 pm31 an31 cd31 ct31), sl31⟩)
    (c31 : PySem.W.codeIn K cd31 "load_word" = true)
    (k31 : PySem.W.keepIn K (.ref f31) = true)
    (a32 : PySem.W.nsIn K mainGlobals "store_word" = some (some (.ref f32)))
    (l32 : K.lookup f32 = some ⟨oc32, od32, .func (PySem.W.fnOf "store_word" "store_word" (defArgs sStoreWord) (defBody sStoreWord) (defScope sStoreWord) .none kV32 dc32 pm32 an32 cd32 ct32), sl32⟩)
    (c32 : PySem.W.codeIn K cd32 "store_word" = true)
    (k32 : PySem.W.keepIn K (.ref f32) = true)
    (a33 : PySem.W.nsIn K mainGlobals "jump" = some (some (.ref f33)))
    (l33 : K.lookup f33 = some ⟨oc33, od33, .func (PySem.W.fnOf "jump" "jump" (defArgs sJump) (defBody sJump) (defScope sJump) .none kV33 dc33 pm33 an33 cd33 ct33), sl33⟩)
    (c33 : PySem.W.codeIn K cd33 "jump" = true)
    (k33 : PySem.W.keepIn K (.ref f33) = true)
    (a34 : PySem.W.nsIn K mainGlobals "jump_and_link" = some (some (.ref f34)))
    (l34 : K.lookup f34 = some ⟨oc34, od34, .func (PySem.W.fnOf "jump_and_link" "jump_and_link" (defArgs sJumpAndLink) (defBody sJumpAndLink) (defScope sJumpAndLink) .none kV34 dc34 pm34 an34 cd34 ct34), sl34⟩)
    (c34 : PySem.W.codeIn K cd34 "jump_and_link" = true)
    (k34 : PySem.W.keepIn K (.ref f34) = true)
    (a35 : PySem.W.nsIn K mainGlobals "holds" = some (some (.ref f35)))
    (l35 : K.lookup f35 = some ⟨oc35, od35, .func (PySem.W.fnOf "holds" "holds" (defArgs sHolds) (defBody sHolds) (defScope sHolds) .none kV35 dc35 pm35 an35 cd35 ct35), sl35⟩)
    (c35 : PySem.W.codeIn K cd35 "holds" = true)
    (k35 : PySem.W.keepIn K (.ref f35) = true)
    (a36 : PySem.W.nsIn K mainGlobals "branch" = some (some (.ref f36)))
    (l36 : K.lookup f36 = some ⟨oc36, od36, .func (PySem.W.fnOf "branch" "branch" (defArgs sBranch) (defBody sBranch) (defScope sBranch) .none kV36 dc36 pm36 an36 cd36 ct36), sl36⟩)
    (c36 : PySem.W.codeIn K cd36 "branch" = true)
    (k36 : PySem.W.keepIn K (.ref f36) = true)
    (a37 : PySem.W.nsIn K mainGlobals "carry_out" = some (some (.ref f37)))
    (l37 : K.lookup f37 = some ⟨oc37, od37, .func (PySem.W.fnOf "carry_out" "carry_out" (defArgs sCarryOut) (defBody sCarryOut) (defScope sCarryOut) .none kV37 dc37 pm37 an37 cd37 ct37), sl37⟩)
    (c37 : PySem.W.codeIn K cd37 "carry_out" = true)
    (k37 : PySem.W.keepIn K (.ref f37) = true)
    (a38 : PySem.W.nsIn K mainGlobals "user_step" = some (some (.ref f38)))
    (l38 : K.lookup f38 = some ⟨oc38, od38, .func (PySem.W.fnOf "user_step" "user_step" (defArgs sUserStep) (defBody sUserStep) (defScope sUserStep) .none kV38 dc38 pm38 an38 cd38 ct38), sl38⟩)
    (c38 : PySem.W.codeIn K cd38 "user_step" = true)
    (k38 : PySem.W.keepIn K (.ref f38) = true)
    (a39 : PySem.W.findIn K (.ref C2) "__init__" = some (some (.ref f39)))
    (t39 : PySem.W.isFn K (.ref f39) = true)
    (l39 : K.lookup f39 = some ⟨oc39, od39, .func (PySem.W.fnOf "__init__" "Machine.__init__" (defArgs sMachineInit) (defBody sMachineInit) (defScope sMachineInit) .none kV39 dc39 pm39 an39 cd39 ct39), sl39⟩)
    (c39 : PySem.W.codeIn K cd39 "Machine.__init__" = true)
    (k39 : PySem.W.keepIn K (.ref f39) = true)
    (mk2 : PySem.W.makesIn K C2 = true)
    (kc2 : PySem.W.keepIn K (.ref C2) = true)
    (a40 : PySem.W.findIn K (.ref C2) "take_inputs" = some (some (.ref f40)))
    (t40 : PySem.W.isFn K (.ref f40) = true)
    (l40 : K.lookup f40 = some ⟨oc40, od40, .func (PySem.W.fnOf "take_inputs" "Machine.take_inputs" (defArgs sMachineTakeInputs) (defBody sMachineTakeInputs) (defScope sMachineTakeInputs) .none kV40 dc40 pm40 an40 cd40 ct40), sl40⟩)
    (c40 : PySem.W.codeIn K cd40 "Machine.take_inputs" = true)
    (k40 : PySem.W.keepIn K (.ref f40) = true)
    (a41 : PySem.W.findIn K (.ref C2) "enter_kernel" = some (some (.ref f41)))
    (t41 : PySem.W.isFn K (.ref f41) = true)
    (l41 : K.lookup f41 = some ⟨oc41, od41, .func (PySem.W.fnOf "enter_kernel" "Machine.enter_kernel" (defArgs sMachineEnterKernel) (defBody sMachineEnterKernel) (defScope sMachineEnterKernel) .none kV41 dc41 pm41 an41 cd41 ct41), sl41⟩)
    (c41 : PySem.W.codeIn K cd41 "Machine.enter_kernel" = true)
    (k41 : PySem.W.keepIn K (.ref f41) = true)
    (a42 : PySem.W.findIn K (.ref C2) "user_tick" = some (some (.ref f42)))
    (t42 : PySem.W.isFn K (.ref f42) = true)
    (l42 : K.lookup f42 = some ⟨oc42, od42, .func (PySem.W.fnOf "user_tick" "Machine.user_tick" (defArgs sMachineUserTick) (defBody sMachineUserTick) (defScope sMachineUserTick) .none kV42 dc42 pm42 an42 cd42 ct42), sl42⟩)
    (c42 : PySem.W.codeIn K cd42 "Machine.user_tick" = true)
    (k42 : PySem.W.keepIn K (.ref f42) = true)
    (a43 : PySem.W.findIn K (.ref C2) "special" = some (some (.ref f43)))
    (t43 : PySem.W.isFn K (.ref f43) = true)
    (l43 : K.lookup f43 = some ⟨oc43, od43, .func (PySem.W.fnOf "special" "Machine.special" (defArgs sMachineSpecial) (defBody sMachineSpecial) (defScope sMachineSpecial) .none kV43 dc43 pm43 an43 cd43 ct43), sl43⟩)
    (c43 : PySem.W.codeIn K cd43 "Machine.special" = true)
    (k43 : PySem.W.keepIn K (.ref f43) = true)
    (a44 : PySem.W.findIn K (.ref C2) "kernel_only" = some (some (.ref f44)))
    (t44 : PySem.W.isFn K (.ref f44) = true)
    (l44 : K.lookup f44 = some ⟨oc44, od44, .func (PySem.W.fnOf "kernel_only" "Machine.kernel_only" (defArgs sMachineKernelOnly) (defBody sMachineKernelOnly) (defScope sMachineKernelOnly) .none kV44 dc44 pm44 an44 cd44 ct44), sl44⟩)
    (c44 : PySem.W.codeIn K cd44 "Machine.kernel_only" = true)
    (k44 : PySem.W.keepIn K (.ref f44) = true)
    (a45 : PySem.W.findIn K (.ref C2) "kernel_tick" = some (some (.ref f45)))
    (t45 : PySem.W.isFn K (.ref f45) = true)
    (l45 : K.lookup f45 = some ⟨oc45, od45, .func (PySem.W.fnOf "kernel_tick" "Machine.kernel_tick" (defArgs sMachineKernelTick) (defBody sMachineKernelTick) (defScope sMachineKernelTick) .none kV45 dc45 pm45 an45 cd45 ct45), sl45⟩)
    (c45 : PySem.W.codeIn K cd45 "Machine.kernel_tick" = true)
    (k45 : PySem.W.keepIn K (.ref f45) = true)
    (a46 : PySem.W.findIn K (.ref C2) "step" = some (some (.ref f46)))
    (t46 : PySem.W.isFn K (.ref f46) = true)
    (l46 : K.lookup f46 = some ⟨oc46, od46, .func (PySem.W.fnOf "step" "Machine.step" (defArgs sMachineStep) (defBody sMachineStep) (defScope sMachineStep) .none kV46 dc46 pm46 an46 cd46 ct46), sl46⟩)
    (c46 : PySem.W.codeIn K cd46 "Machine.step" = true)
    (k46 : PySem.W.keepIn K (.ref f46) = true)
    (a47 : PySem.W.findIn K (.ref C2) "state" = some (some (.ref f47)))
    (t47 : PySem.W.isFn K (.ref f47) = true)
    (l47 : K.lookup f47 = some ⟨oc47, od47, .func (PySem.W.fnOf "state" "Machine.state" (defArgs sMachineState) (defBody sMachineState) (defScope sMachineState) .none kV47 dc47 pm47 an47 cd47 ct47), sl47⟩)
    (c47 : PySem.W.codeIn K cd47 "Machine.state" = true)
    (k47 : PySem.W.keepIn K (.ref f47) = true)
    (a48 : PySem.W.nsIn K mainGlobals "resumed" = some (some (.ref f48)))
    (l48 : K.lookup f48 = some ⟨oc48, od48, .func (PySem.W.fnOf "resumed" "resumed" (defArgs sResumed) (defBody sResumed) (defScope sResumed) .none kV48 dc48 pm48 an48 cd48 ct48), sl48⟩)
    (c48 : PySem.W.codeIn K cd48 "resumed" = true)
    (k48 : PySem.W.keepIn K (.ref f48) = true)
    (a49 : PySem.W.nsIn K mainGlobals "_law_number" = some (some (.ref f49)))
    (l49 : K.lookup f49 = some ⟨oc49, od49, .func (PySem.W.fnOf "_law_number" "_law_number" (defArgs sLawNumber) (defBody sLawNumber) (defScope sLawNumber) .none kV49 dc49 pm49 an49 cd49 ct49), sl49⟩)
    (c49 : PySem.W.codeIn K cd49 "_law_number" = true)
    (k49 : PySem.W.keepIn K (.ref f49) = true)
    (a50 : PySem.W.nsIn K mainGlobals "_law_word" = some (some (.ref f50)))
    (l50 : K.lookup f50 = some ⟨oc50, od50, .func (PySem.W.fnOf "_law_word" "_law_word" (defArgs sLawWord) (defBody sLawWord) (defScope sLawWord) .none kV50 dc50 pm50 an50 cd50 ct50), sl50⟩)
    (c50 : PySem.W.codeIn K cd50 "_law_word" = true)
    (k50 : PySem.W.keepIn K (.ref f50) = true)
    (a51 : PySem.W.nsIn K mainGlobals "_law_row" = some (some (.ref f51)))
    (l51 : K.lookup f51 = some ⟨oc51, od51, .func (PySem.W.fnOf "_law_row" "_law_row" (defArgs sLawRow) (defBody sLawRow) (defScope sLawRow) .none kV51 dc51 pm51 an51 cd51 ct51), sl51⟩)
    (c51 : PySem.W.codeIn K cd51 "_law_row" = true)
    (k51 : PySem.W.keepIn K (.ref f51) = true)
    (a52 : PySem.W.nsIn K mainGlobals "_law_plain" = some (some (.ref f52)))
    (l52 : K.lookup f52 = some ⟨oc52, od52, .func (PySem.W.fnOf "_law_plain" "_law_plain" (defArgs sLawPlain) (defBody sLawPlain) (defScope sLawPlain) .none kV52 dc52 pm52 an52 cd52 ct52), sl52⟩)
    (c52 : PySem.W.codeIn K cd52 "_law_plain" = true)
    (k52 : PySem.W.keepIn K (.ref f52) = true)
    (a53 : PySem.W.nsIn K mainGlobals "_law_world" = some (some (.ref f53)))
    (l53 : K.lookup f53 = some ⟨oc53, od53, .func (PySem.W.fnOf "_law_world" "_law_world" (defArgs sLawWorld) (defBody sLawWorld) (defScope sLawWorld) .none kV53 dc53 pm53 an53 cd53 ct53), sl53⟩)
    (c53 : PySem.W.codeIn K cd53 "_law_world" = true)
    (k53 : PySem.W.keepIn K (.ref f53) = true)
    (a54 : PySem.W.nsIn K mainGlobals "_law_seen" = some (some (.ref f54)))
    (l54 : K.lookup f54 = some ⟨oc54, od54, .func (PySem.W.fnOf "_law_seen" "_law_seen" (defArgs sLawSeen) (defBody sLawSeen) (defScope sLawSeen) .none kV54 dc54 pm54 an54 cd54 ct54), sl54⟩)
    (c54 : PySem.W.codeIn K cd54 "_law_seen" = true)
    (k54 : PySem.W.keepIn K (.ref f54) = true)
    (a55 : PySem.W.nsIn K mainGlobals "_law_outside" = some (some (.ref f55)))
    (l55 : K.lookup f55 = some ⟨oc55, od55, .func (PySem.W.fnOf "_law_outside" "_law_outside" (defArgs sLawOutside) (defBody sLawOutside) (defScope sLawOutside) .none kV55 dc55 pm55 an55 cd55 ct55), sl55⟩)
    (c55 : PySem.W.codeIn K cd55 "_law_outside" = true)
    (k55 : PySem.W.keepIn K (.ref f55) = true)
    (a56 : PySem.W.nsIn K mainGlobals "law" = some (some (.ref f56)))
    (l56 : K.lookup f56 = some ⟨oc56, od56, .func (PySem.W.fnOf "law" "law" (defArgs sLaw) (defBody sLaw) (defScope sLaw) .none kV56 dc56 pm56 an56 cd56 ct56), sl56⟩)
    (c56 : PySem.W.codeIn K cd56 "law" = true)
    (k56 : PySem.W.keepIn K (.ref f56) = true)
    (z_len : PySem.W.nsIn K mainGlobals "len" = some none)
    (z_int : PySem.W.nsIn K mainGlobals "int" = some none)
    (z_range : PySem.W.nsIn K mainGlobals "range" = some none)
    (z_tuple : PySem.W.nsIn K mainGlobals "tuple" = some none)
    (z_list : PySem.W.nsIn K mainGlobals "list" = some none)
    (ggWORDS : PySem.W.nsIn K mainGlobals "WORDS" = some (some (.int 65536 tgWORDS)))
    (ggFIRST : PySem.W.nsIn K mainGlobals "FIRST" = some (some (.int 2 tgFIRST)))
    (ggSLOTS : PySem.W.nsIn K mainGlobals "SLOTS" = some (some (.int 14 tgSLOTS)))
    (ggILLEGAL : PySem.W.nsIn K mainGlobals "ILLEGAL" = some (some (.int 1 tgILLEGAL)))
    (ggADDRESS : PySem.W.nsIn K mainGlobals "ADDRESS" = some (some (.int 2 tgADDRESS)))
    (ggCALLED : PySem.W.nsIn K mainGlobals "CALLED" = some (some (.int 3 tgCALLED)))
    (ggHALTED : PySem.W.nsIn K mainGlobals "HALTED" = some (some (.int 5 tgHALTED)))
    (ggPAGE : PySem.W.nsIn K mainGlobals "PAGE" = some (some (.int 16 tgPAGE)))
    (ggUSER_WORDS : PySem.W.nsIn K mainGlobals "USER_WORDS" = some (some (.int 128 tgUSER_WORDS)))
    (ggREAD : PySem.W.nsIn K mainGlobals "READ" = some (some (.int 1 tgREAD)))
    (ggWRITE : PySem.W.nsIn K mainGlobals "WRITE" = some (some (.int 2 tgWRITE)))
    (ggEXECUTE : PySem.W.nsIn K mainGlobals "EXECUTE" = some (some (.int 4 tgEXECUTE)))
    (ggRIGHTS : PySem.W.nsIn K mainGlobals "RIGHTS" = some (some (.int 8 tgRIGHTS)))
    (ggEPC : PySem.W.nsIn K mainGlobals "EPC" = some (some (.int 0 tgEPC)))
    (ggCAUSE : PySem.W.nsIn K mainGlobals "CAUSE" = some (some (.int 1 tgCAUSE)))
    (ggVALUE : PySem.W.nsIn K mainGlobals "VALUE" = some (some (.int 2 tgVALUE)))
    (ggMAP : PySem.W.nsIn K mainGlobals "MAP" = some (some (.int 3 tgMAP)))
    (ggALARM : PySem.W.nsIn K mainGlobals "ALARM" = some (some (.int 4 tgALARM)))
    (ggTICKS : PySem.W.nsIn K mainGlobals "TICKS" = some (some (.int 5 tgTICKS)))
    (ggTRAPPED : PySem.W.nsIn K mainGlobals "TRAPPED" = some (some (.int 6 tgTRAPPED)))
    (ggALARMED : PySem.W.nsIn K mainGlobals "ALARMED" = some (some (.int 6 tgALARMED)))
    (ggOPS : PySem.W.nsIn K mainGlobals "OPS" = some (some (.ref u0)))
    (ul0 : K.lookup u0 = some ⟨.type "tuple", uo0, .seq ui0 un0, us0⟩)
    (uv0 : vchk ui0.toList [(.str "halt"), (.str "set"), (.str "copy"), (.str "add"), (.str "sub"), (.str "mul"), (.str "and"), (.str "or"), (.str "xor"), (.str "shl"), (.str "shr"), (.str "addi"), (.str "load"), (.str "store"), (.str "jump"), (.str "jal"), (.str "beq"), (.str "bne"), (.str "blt"), (.str "call"), (.str "getu"), (.str "putu"), (.str "gets"), (.str "puts"), (.str "until"), (.str "rest")] = true)
    (ggKERNELONLY : PySem.W.nsIn K mainGlobals "KERNEL_ONLY" = some (some (.ref u1)))
    (ul1 : K.lookup u1 = some ⟨.type "tuple", uo1, .seq ui1 un1, us1⟩)
    (uv1 : vchk ui1.toList [(.str "getu"), (.str "putu"), (.str "gets"), (.str "puts"), (.str "until"), (.str "rest")] = true)
    (ggGREATEST : PySem.W.nsIn K mainGlobals "GREATEST" = some (some (.ref wGREATEST)))
    (lkGREATEST : K.lookup wGREATEST = some ⟨.type "dict", none, .dict esGREATEST nnGREATEST, #[]⟩)
    (kyGREATEST : PySem.W.KeysLit w.params esGREATEST.toList)
    (krGREATEST_0 : PySem.W.nsIn K wGREATEST "halt" = some (some (.ref u2)))
    (ul2 : K.lookup u2 = some ⟨.type "tuple", uo2, .seq ui2 un2, us2⟩)
    (uv2 : vchk ui2.toList [(.int 0), (.int 0), (.int 0)] = true)
    (krGREATEST_1 : PySem.W.nsIn K wGREATEST "set" = some (some (.ref u3)))
    (ul3 : K.lookup u3 = some ⟨.type "tuple", uo3, .seq ui3 un3, us3⟩)
    (uv3 : vchk ui3.toList [(.int 7), (.int 0), (.int 0)] = true)
    (krGREATEST_2 : PySem.W.nsIn K wGREATEST "copy" = some (some (.ref u4)))
    (ul4 : K.lookup u4 = some ⟨.type "tuple", uo4, .seq ui4 un4, us4⟩)
    (uv4 : vchk ui4.toList [(.int 7), (.int 7), (.int 0)] = true)
    (krGREATEST_3 : PySem.W.nsIn K wGREATEST "add" = some (some (.ref u5)))
    (ul5 : K.lookup u5 = some ⟨.type "tuple", uo5, .seq ui5 un5, us5⟩)
    (uv5 : vchk ui5.toList [(.int 7), (.int 7), (.int 7)] = true)
    (krGREATEST_4 : PySem.W.nsIn K wGREATEST "sub" = some (some (.ref u6)))
    (ul6 : K.lookup u6 = some ⟨.type "tuple", uo6, .seq ui6 un6, us6⟩)
    (uv6 : vchk ui6.toList [(.int 7), (.int 7), (.int 7)] = true)
    (krGREATEST_5 : PySem.W.nsIn K wGREATEST "mul" = some (some (.ref u7)))
    (ul7 : K.lookup u7 = some ⟨.type "tuple", uo7, .seq ui7 un7, us7⟩)
    (uv7 : vchk ui7.toList [(.int 7), (.int 7), (.int 7)] = true)
    (krGREATEST_6 : PySem.W.nsIn K wGREATEST "and" = some (some (.ref u8)))
    (ul8 : K.lookup u8 = some ⟨.type "tuple", uo8, .seq ui8 un8, us8⟩)
    (uv8 : vchk ui8.toList [(.int 7), (.int 7), (.int 7)] = true)
    (krGREATEST_7 : PySem.W.nsIn K wGREATEST "or" = some (some (.ref u9)))
    (ul9 : K.lookup u9 = some ⟨.type "tuple", uo9, .seq ui9 un9, us9⟩)
    (uv9 : vchk ui9.toList [(.int 7), (.int 7), (.int 7)] = true)
    (krGREATEST_8 : PySem.W.nsIn K wGREATEST "xor" = some (some (.ref u10)))
    (ul10 : K.lookup u10 = some ⟨.type "tuple", uo10, .seq ui10 un10, us10⟩)
    (uv10 : vchk ui10.toList [(.int 7), (.int 7), (.int 7)] = true)
    (krGREATEST_9 : PySem.W.nsIn K wGREATEST "shl" = some (some (.ref u11)))
    (ul11 : K.lookup u11 = some ⟨.type "tuple", uo11, .seq ui11 un11, us11⟩)
    (uv11 : vchk ui11.toList [(.int 7), (.int 7), (.int 15)] = true)
    (krGREATEST_10 : PySem.W.nsIn K wGREATEST "shr" = some (some (.ref u12)))
    (ul12 : K.lookup u12 = some ⟨.type "tuple", uo12, .seq ui12 un12, us12⟩)
    (uv12 : vchk ui12.toList [(.int 7), (.int 7), (.int 15)] = true)
    (krGREATEST_11 : PySem.W.nsIn K wGREATEST "addi" = some (some (.ref u13)))
    (ul13 : K.lookup u13 = some ⟨.type "tuple", uo13, .seq ui13 un13, us13⟩)
    (uv13 : vchk ui13.toList [(.int 7), (.int 7), (.int 15)] = true)
    (krGREATEST_12 : PySem.W.nsIn K wGREATEST "load" = some (some (.ref u14)))
    (ul14 : K.lookup u14 = some ⟨.type "tuple", uo14, .seq ui14 un14, us14⟩)
    (uv14 : vchk ui14.toList [(.int 7), (.int 7), (.int 15)] = true)
    (krGREATEST_13 : PySem.W.nsIn K wGREATEST "store" = some (some (.ref u15)))
    (ul15 : K.lookup u15 = some ⟨.type "tuple", uo15, .seq ui15 un15, us15⟩)
    (uv15 : vchk ui15.toList [(.int 7), (.int 7), (.int 15)] = true)
    (krGREATEST_14 : PySem.W.nsIn K wGREATEST "jump" = some (some (.ref u16)))
    (ul16 : K.lookup u16 = some ⟨.type "tuple", uo16, .seq ui16 un16, us16⟩)
    (uv16 : vchk ui16.toList [(.int 7), (.int 0), (.int 0)] = true)
    (krGREATEST_15 : PySem.W.nsIn K wGREATEST "jal" = some (some (.ref u17)))
    (ul17 : K.lookup u17 = some ⟨.type "tuple", uo17, .seq ui17 un17, us17⟩)
    (uv17 : vchk ui17.toList [(.int 7), (.int 7), (.int 0)] = true)
    (krGREATEST_16 : PySem.W.nsIn K wGREATEST "beq" = some (some (.ref u18)))
    (ul18 : K.lookup u18 = some ⟨.type "tuple", uo18, .seq ui18 un18, us18⟩)
    (uv18 : vchk ui18.toList [(.int 7), (.int 7), (.int 15)] = true)
    (krGREATEST_17 : PySem.W.nsIn K wGREATEST "bne" = some (some (.ref u19)))
    (ul19 : K.lookup u19 = some ⟨.type "tuple", uo19, .seq ui19 un19, us19⟩)
    (uv19 : vchk ui19.toList [(.int 7), (.int 7), (.int 15)] = true)
    (krGREATEST_18 : PySem.W.nsIn K wGREATEST "blt" = some (some (.ref u20)))
    (ul20 : K.lookup u20 = some ⟨.type "tuple", uo20, .seq ui20 un20, us20⟩)
    (uv20 : vchk ui20.toList [(.int 7), (.int 7), (.int 15)] = true)
    (krGREATEST_19 : PySem.W.nsIn K wGREATEST "call" = some (some (.ref u21)))
    (ul21 : K.lookup u21 = some ⟨.type "tuple", uo21, .seq ui21 un21, us21⟩)
    (uv21 : vchk ui21.toList [(.int 0), (.int 0), (.int 15)] = true)
    (krGREATEST_20 : PySem.W.nsIn K wGREATEST "getu" = some (some (.ref u22)))
    (ul22 : K.lookup u22 = some ⟨.type "tuple", uo22, .seq ui22 un22, us22⟩)
    (uv22 : vchk ui22.toList [(.int 7), (.int 7), (.int 0)] = true)
    (krGREATEST_21 : PySem.W.nsIn K wGREATEST "putu" = some (some (.ref u23)))
    (ul23 : K.lookup u23 = some ⟨.type "tuple", uo23, .seq ui23 un23, us23⟩)
    (uv23 : vchk ui23.toList [(.int 7), (.int 7), (.int 0)] = true)
    (krGREATEST_22 : PySem.W.nsIn K wGREATEST "gets" = some (some (.ref u24)))
    (ul24 : K.lookup u24 = some ⟨.type "tuple", uo24, .seq ui24 un24, us24⟩)
    (uv24 : vchk ui24.toList [(.int 7), (.int 0), (.int 6)] = true)
    (krGREATEST_23 : PySem.W.nsIn K wGREATEST "puts" = some (some (.ref u25)))
    (ul25 : K.lookup u25 = some ⟨.type "tuple", uo25, .seq ui25 un25, us25⟩)
    (uv25 : vchk ui25.toList [(.int 7), (.int 0), (.int 4)] = true)
    (krGREATEST_24 : PySem.W.nsIn K wGREATEST "until" = some (some (.ref u26)))
    (ul26 : K.lookup u26 = some ⟨.type "tuple", uo26, .seq ui26 un26, us26⟩)
    (uv26 : vchk ui26.toList [(.int 0), (.int 0), (.int 0)] = true)
    (krGREATEST_25 : PySem.W.nsIn K wGREATEST "rest" = some (some (.ref u27)))
    (ul27 : K.lookup u27 = some ⟨.type "tuple", uo27, .seq ui27 un27, us27⟩)
    (uv27 : vchk ui27.toList [(.int 0), (.int 0), (.int 0)] = true)
    (ggKERNEL : PySem.W.nsIn K mainGlobals "KERNEL" = some (some (.str "kernel" tgKERNEL)))
    (ggUSER : PySem.W.nsIn K mainGlobals "USER" = some (some (.str "user" tgUSER)))
    (ggBROKEN : PySem.W.nsIn K mainGlobals "BROKEN" = some (some (.str "broken" tgBROKEN)))
    (eaBTrap : PySem.W.nsIn K mainGlobals "Trap" = some (some (.ref cBTrap)))
    (exBTrap : K.lookup cBTrap = some (excClassObj nmBTrap qBTrap cBTrap NBTrap bsBTrap bmBTrap true snBTrap subBTrap abBTrap colBTrap ddBTrap m0BTrap m1BTrap m2BTrap m3BTrap m5BTrap "ValueError.__new__"))
    (erBTrap : PySem.HandSPX.refsVE bmBTrap = true)
    (esBTrap : PySem.W.findIn K (.ref cBTrap) "__setattr__" = some (some (.builtin "object.__setattr__")))
    (ebBTrap : PySem.W.subIn K (.ref cBTrap) (.type "BaseException") = some true)
    (etBTrap : PySem.W.typeIn K (.ref cBTrap) = some (.type "type"))
    (ekBTrap : PySem.W.keepIn K (.ref cBTrap) = true)
    (egBTrap : PySem.W.findIn K (.ref cBTrap) "__getattribute__" = some (some (.builtin "BaseException.__getattribute__")))
    (eGBTrap : PySem.W.findIn K (.ref cBTrap) "__getattr__" = some none)
    (ehBTrap : PySem.W.hasDictIn K cBTrap = true)
    (emBTrap : PySem.W.subIn K (.ref cBTrap) (.ref cBTrap) = some true)
    (enB_causeTrap : PySem.W.findIn K (.ref cBTrap) "cause" = some none)
    (enB_valueTrap : PySem.W.findIn K (.ref cBTrap) "value" = some none)
    (eiBTrap : PySem.W.findIn K (.ref cBTrap) "__init__" = some (some (.ref fBTrap)))
    (efBTrap : PySem.W.typeIn K (.ref fBTrap) = some (.type "function"))
    (elBTrap : K.lookup fBTrap = some ⟨ocBTrap, odBTrap, .func (PySem.W.fnOf "__init__" "Trap.__init__" (defArgs sTrapInit) (defBody sTrapInit) (defScope sTrapInit) .none kVBTrap dcBTrap pmBTrap anBTrap cdBTrap ctBTrap), slBTrap⟩)
    (ecBTrap : PySem.W.codeIn K cdBTrap "Trap.__init__" = true)
    (eKBTrap : PySem.W.keepIn K (.ref fBTrap) = true)
    (ggACTIONS : PySem.W.nsIn K mainGlobals "ACTIONS" = some (some (.ref wACTIONS)))
    (lkACTIONS : K.lookup wACTIONS = some ⟨.type "dict", none, .dict esACTIONS nnACTIONS, #[]⟩)
    (kyACTIONS : PySem.W.KeysLit w.params esACTIONS.toList)
    (krACTIONS_0 : PySem.W.nsIn K wACTIONS "halt" = some (some (.ref f12)))
    (krACTIONS_1 : PySem.W.nsIn K wACTIONS "set" = some (some (.ref f23)))
    (krACTIONS_2 : PySem.W.nsIn K wACTIONS "copy" = some (some (.ref f24)))
    (krACTIONS_3 : PySem.W.nsIn K wACTIONS "add" = some (some (.ref f26)))
    (krACTIONS_4 : PySem.W.nsIn K wACTIONS "sub" = some (some (.ref f26)))
    (krACTIONS_5 : PySem.W.nsIn K wACTIONS "mul" = some (some (.ref f26)))
    (krACTIONS_6 : PySem.W.nsIn K wACTIONS "and" = some (some (.ref f26)))
    (krACTIONS_7 : PySem.W.nsIn K wACTIONS "or" = some (some (.ref f26)))
    (krACTIONS_8 : PySem.W.nsIn K wACTIONS "xor" = some (some (.ref f26)))
    (krACTIONS_9 : PySem.W.nsIn K wACTIONS "shl" = some (some (.ref f27)))
    (krACTIONS_10 : PySem.W.nsIn K wACTIONS "shr" = some (some (.ref f28)))
    (krACTIONS_11 : PySem.W.nsIn K wACTIONS "addi" = some (some (.ref f30)))
    (krACTIONS_12 : PySem.W.nsIn K wACTIONS "load" = some (some (.ref f31)))
    (krACTIONS_13 : PySem.W.nsIn K wACTIONS "store" = some (some (.ref f32)))
    (krACTIONS_14 : PySem.W.nsIn K wACTIONS "jump" = some (some (.ref f33)))
    (krACTIONS_15 : PySem.W.nsIn K wACTIONS "jal" = some (some (.ref f34)))
    (krACTIONS_16 : PySem.W.nsIn K wACTIONS "beq" = some (some (.ref f36)))
    (krACTIONS_17 : PySem.W.nsIn K wACTIONS "bne" = some (some (.ref f36)))
    (krACTIONS_18 : PySem.W.nsIn K wACTIONS "blt" = some (some (.ref f36)))
    (krACTIONS_19 : PySem.W.nsIn K wACTIONS "call" = some (some (.ref f13))) :
    ∃ fd : FuncData, (∀ (s : Shared) (v : Value), BindsTo s fd ⟨[v], []⟩ [("script", v)]) ∧ ∀ base : Heap, K.In base → base.Ns mainGlobals mg → FnOk l.prog w K mg base CX0 12 fa fd ["script"] (spLaw K) := by
  have e := hfa.symm.trans (PySem.W.mg_of X G a56)
  cases e
  let T : Tx K w mg :=
    { cKernelView := C0
      gKernelView := PySem.W.mg_of X G ca0
      clKernelView := ⟨cp0, ch0, co0, cs0⟩
      nKernelView_machine := n0_machine
      cUserView := C1
      gUserView := PySem.W.mg_of X G ca1
      clUserView := ⟨cp1, ch1, co1, cs1⟩
      nUserView_machine := n1_machine
      cMachine := C2
      gMachine := PySem.W.mg_of X G ca2
      clMachine := ⟨cp2, ch2, co2, cs2⟩
      nMachine_memory := n2_memory
      nMachine_rings := n2_rings
      nMachine_inputs := n2_inputs
      nMachine_mode := n2_mode
      nMachine_pc := n2_pc
      nMachine_user := n2_user
      nMachine_kernel := n2_kernel
      nMachine_specials := n2_specials
      nMachine_tick := n2_tick
      nMachine_given := n2_given
      nMachine_kernel_view := n2_kernel_view
      nMachine_user_view := n2_user_view
      aWrap := f0
      fdWrap := PySem.W.fnOf "wrap" "wrap" (defArgs sWrap) (defBody sWrap) (defScope sWrap) .none kV0 dc0 pm0 an0 cd0 ct0
      dWrap := ⟨fun_mk (st := sWrap) l0 c0 k0, PySem.W.mg_of X G a0, (fun_mk (st := sWrap) l0 c0 k0).binds (ps := PWrap) fun _ _ _ _ _ _ us hl => match us, hl with | [_], _ => rfl⟩
      aAdd := f1
      fdAdd := PySem.W.fnOf "add" "add" (defArgs sAdd) (defBody sAdd) (defScope sAdd) .none kV1 dc1 pm1 an1 cd1 ct1
      dAdd := ⟨fun_mk (st := sAdd) l1 c1 k1, PySem.W.mg_of X G a1, (fun_mk (st := sAdd) l1 c1 k1).binds (ps := PAdd) fun _ _ _ _ _ _ us hl => match us, hl with | [_, _], _ => rfl⟩
      aSub := f2
      fdSub := PySem.W.fnOf "sub" "sub" (defArgs sSub) (defBody sSub) (defScope sSub) .none kV2 dc2 pm2 an2 cd2 ct2
      dSub := ⟨fun_mk (st := sSub) l2 c2 k2, PySem.W.mg_of X G a2, (fun_mk (st := sSub) l2 c2 k2).binds (ps := PSub) fun _ _ _ _ _ _ us hl => match us, hl with | [_, _], _ => rfl⟩
      aMul := f3
      fdMul := PySem.W.fnOf "mul" "mul" (defArgs sMul) (defBody sMul) (defScope sMul) .none kV3 dc3 pm3 an3 cd3 ct3
      dMul := ⟨fun_mk (st := sMul) l3 c3 k3, PySem.W.mg_of X G a3, (fun_mk (st := sMul) l3 c3 k3).binds (ps := PMul) fun _ _ _ _ _ _ us hl => match us, hl with | [_, _], _ => rfl⟩
      aBitAnd := f4
      fdBitAnd := PySem.W.fnOf "bit_and" "bit_and" (defArgs sBitAnd) (defBody sBitAnd) (defScope sBitAnd) .none kV4 dc4 pm4 an4 cd4 ct4
      dBitAnd := ⟨fun_mk (st := sBitAnd) l4 c4 k4, PySem.W.mg_of X G a4, (fun_mk (st := sBitAnd) l4 c4 k4).binds (ps := PBitAnd) fun _ _ _ _ _ _ us hl => match us, hl with | [_, _], _ => rfl⟩
      aBitOr := f5
      fdBitOr := PySem.W.fnOf "bit_or" "bit_or" (defArgs sBitOr) (defBody sBitOr) (defScope sBitOr) .none kV5 dc5 pm5 an5 cd5 ct5
      dBitOr := ⟨fun_mk (st := sBitOr) l5 c5 k5, PySem.W.mg_of X G a5, (fun_mk (st := sBitOr) l5 c5 k5).binds (ps := PBitOr) fun _ _ _ _ _ _ us hl => match us, hl with | [_, _], _ => rfl⟩
      aBitXor := f6
      fdBitXor := PySem.W.fnOf "bit_xor" "bit_xor" (defArgs sBitXor) (defBody sBitXor) (defScope sBitXor) .none kV6 dc6 pm6 an6 cd6 ct6
      dBitXor := ⟨fun_mk (st := sBitXor) l6 c6 k6, PySem.W.mg_of X G a6, (fun_mk (st := sBitXor) l6 c6 k6).binds (ps := PBitXor) fun _ _ _ _ _ _ us hl => match us, hl with | [_, _], _ => rfl⟩
      aShiftLeft := f7
      fdShiftLeft := PySem.W.fnOf "shift_left" "shift_left" (defArgs sShiftLeft) (defBody sShiftLeft) (defScope sShiftLeft) .none kV7 dc7 pm7 an7 cd7 ct7
      dShiftLeft := ⟨fun_mk (st := sShiftLeft) l7 c7 k7, PySem.W.mg_of X G a7, (fun_mk (st := sShiftLeft) l7 c7 k7).binds (ps := PShiftLeft) fun _ _ _ _ _ _ us hl => match us, hl with | [_, _], _ => rfl⟩
      aShiftRight := f8
      fdShiftRight := PySem.W.fnOf "shift_right" "shift_right" (defArgs sShiftRight) (defBody sShiftRight) (defScope sShiftRight) .none kV8 dc8 pm8 an8 cd8 ct8
      dShiftRight := ⟨fun_mk (st := sShiftRight) l8 c8 k8, PySem.W.mg_of X G a8, (fun_mk (st := sShiftRight) l8 c8 k8).binds (ps := PShiftRight) fun _ _ _ _ _ _ us hl => match us, hl with | [_, _], _ => rfl⟩
      aFieldsFit := f9
      fdFieldsFit := PySem.W.fnOf "fields_fit" "fields_fit" (defArgs sFieldsFit) (defBody sFieldsFit) (defScope sFieldsFit) .none kV9 dc9 pm9 an9 cd9 ct9
      dFieldsFit := ⟨fun_mk (st := sFieldsFit) l9 c9 k9, PySem.W.mg_of X G a9, (fun_mk (st := sFieldsFit) l9 c9 k9).binds (ps := PFieldsFit) fun _ _ _ _ _ _ us hl => match us, hl with | [_, _, _, _], _ => rfl⟩
      aDecode := f10
      fdDecode := PySem.W.fnOf "decode" "decode" (defArgs sDecode) (defBody sDecode) (defScope sDecode) .none kV10 dc10 pm10 an10 cd10 ct10
      dDecode := ⟨fun_mk (st := sDecode) l10 c10 k10, PySem.W.mg_of X G a10, (fun_mk (st := sDecode) l10 c10 k10).binds (ps := PDecode) fun _ _ _ _ _ _ us hl => match us, hl with | [_], _ => rfl⟩
      aWriteInput := f11
      fdWriteInput := PySem.W.fnOf "write_input" "write_input" (defArgs sWriteInput) (defBody sWriteInput) (defScope sWriteInput) .none kV11 dc11 pm11 an11 cd11 ct11
      dWriteInput := ⟨fun_mk (st := sWriteInput) l11 c11 k11, PySem.W.mg_of X G a11, (fun_mk (st := sWriteInput) l11 c11 k11).binds (ps := PWriteInput) fun _ _ _ _ _ _ us hl => match us, hl with | [_, _, _], _ => rfl⟩
      aHalt := f12
      fdHalt := PySem.W.fnOf "halt" "halt" (defArgs sHalt) (defBody sHalt) (defScope sHalt) .none kV12 dc12 pm12 an12 cd12 ct12
      dHalt := ⟨fun_mk (st := sHalt) l12 c12 k12, PySem.W.mg_of X G a12, (fun_mk (st := sHalt) l12 c12 k12).binds (ps := PHalt) fun _ _ _ _ _ _ us hl => match us, hl with | [_, _, _, _], _ => rfl⟩
      aCall := f13
      fdCall := PySem.W.fnOf "call" "call" (defArgs sCall) (defBody sCall) (defScope sCall) .none kV13 dc13 pm13 an13 cd13 ct13
      dCall := ⟨fun_mk (st := sCall) l13 c13 k13, PySem.W.mg_of X G a13, (fun_mk (st := sCall) l13 c13 k13).binds (ps := PCall) fun _ _ _ _ _ _ us hl => match us, hl with | [_, _, _, _], _ => rfl⟩
      aKernelViewInit := f14
      fdKernelViewInit := PySem.W.fnOf "__init__" "KernelView.__init__" (defArgs sKernelViewInit) (defBody sKernelViewInit) (defScope sKernelViewInit) .none kV14 dc14 pm14 an14 cd14 ct14
      mKernelViewInit := ⟨fun_mk (st := sKernelViewInit) l14 c14 k14, (fun_mk (st := sKernelViewInit) l14 c14 k14).binds (ps := PKernelViewInit) fun _ _ _ _ _ _ us hl => match us, hl with | [_, _], _ => rfl⟩
      mkKernelView := ⟨mk0, a14, t14, kc0⟩
      aKernelViewLoad := f15
      fdKernelViewLoad := PySem.W.fnOf "load" "KernelView.load" (defArgs sKernelViewLoad) (defBody sKernelViewLoad) (defScope sKernelViewLoad) .none kV15 dc15 pm15 an15 cd15 ct15
      mKernelViewLoad := ⟨fun_mk (st := sKernelViewLoad) l15 c15 k15, (fun_mk (st := sKernelViewLoad) l15 c15 k15).binds (ps := PKernelViewLoad) fun _ _ _ _ _ _ us hl => match us, hl with | [_, _], _ => rfl⟩
      hKernelViewLoad := ⟨a15, t15, k15⟩
      aKernelViewFetch := f16
      fdKernelViewFetch := PySem.W.fnOf "fetch" "KernelView.fetch" (defArgs sKernelViewFetch) (defBody sKernelViewFetch) (defScope sKernelViewFetch) .none kV16 dc16 pm16 an16 cd16 ct16
      mKernelViewFetch := ⟨fun_mk (st := sKernelViewFetch) l16 c16 k16, (fun_mk (st := sKernelViewFetch) l16 c16 k16).binds (ps := PKernelViewFetch) fun _ _ _ _ _ _ us hl => match us, hl with | [_, _], _ => rfl⟩
      hKernelViewFetch := ⟨a16, t16, k16⟩
      aKernelViewStore := f17
      fdKernelViewStore := PySem.W.fnOf "store" "KernelView.store" (defArgs sKernelViewStore) (defBody sKernelViewStore) (defScope sKernelViewStore) .none kV17 dc17 pm17 an17 cd17 ct17
      mKernelViewStore := ⟨fun_mk (st := sKernelViewStore) l17 c17 k17, (fun_mk (st := sKernelViewStore) l17 c17 k17).binds (ps := PKernelViewStore) fun _ _ _ _ _ _ us hl => match us, hl with | [_, _, _], _ => rfl⟩
      hKernelViewStore := ⟨a17, t17, k17⟩
      aUserViewInit := f18
      fdUserViewInit := PySem.W.fnOf "__init__" "UserView.__init__" (defArgs sUserViewInit) (defBody sUserViewInit) (defScope sUserViewInit) .none kV18 dc18 pm18 an18 cd18 ct18
      mUserViewInit := ⟨fun_mk (st := sUserViewInit) l18 c18 k18, (fun_mk (st := sUserViewInit) l18 c18 k18).binds (ps := PUserViewInit) fun _ _ _ _ _ _ us hl => match us, hl with | [_, _], _ => rfl⟩
      mkUserView := ⟨mk1, a18, t18, kc1⟩
      aUserViewIndexOf := f19
      fdUserViewIndexOf := PySem.W.fnOf "index_of" "UserView.index_of" (defArgs sUserViewIndexOf) (defBody sUserViewIndexOf) (defScope sUserViewIndexOf) .none kV19 dc19 pm19 an19 cd19 ct19
      mUserViewIndexOf := ⟨fun_mk (st := sUserViewIndexOf) l19 c19 k19, (fun_mk (st := sUserViewIndexOf) l19 c19 k19).binds (ps := PUserViewIndexOf) fun _ _ _ _ _ _ us hl => match us, hl with | [_, _, _], _ => rfl⟩
      hUserViewIndexOf := ⟨a19, t19, k19⟩
      aUserViewFetch := f20
      fdUserViewFetch := PySem.W.fnOf "fetch" "UserView.fetch" (defArgs sUserViewFetch) (defBody sUserViewFetch) (defScope sUserViewFetch) .none kV20 dc20 pm20 an20 cd20 ct20
      mUserViewFetch := ⟨fun_mk (st := sUserViewFetch) l20 c20 k20, (fun_mk (st := sUserViewFetch) l20 c20 k20).binds (ps := PUserViewFetch) fun _ _ _ _ _ _ us hl => match us, hl with | [_, _], _ => rfl⟩
      hUserViewFetch := ⟨a20, t20, k20⟩
      aUserViewLoad := f21
      fdUserViewLoad := PySem.W.fnOf "load" "UserView.load" (defArgs sUserViewLoad) (defBody sUserViewLoad) (defScope sUserViewLoad) .none kV21 dc21 pm21 an21 cd21 ct21
      mUserViewLoad := ⟨fun_mk (st := sUserViewLoad) l21 c21 k21, (fun_mk (st := sUserViewLoad) l21 c21 k21).binds (ps := PUserViewLoad) fun _ _ _ _ _ _ us hl => match us, hl with | [_, _], _ => rfl⟩
      hUserViewLoad := ⟨a21, t21, k21⟩
      aUserViewStore := f22
      fdUserViewStore := PySem.W.fnOf "store" "UserView.store" (defArgs sUserViewStore) (defBody sUserViewStore) (defScope sUserViewStore) .none kV22 dc22 pm22 an22 cd22 ct22
      mUserViewStore := ⟨fun_mk (st := sUserViewStore) l22 c22 k22, (fun_mk (st := sUserViewStore) l22 c22 k22).binds (ps := PUserViewStore) fun _ _ _ _ _ _ us hl => match us, hl with | [_, _, _], _ => rfl⟩
      hUserViewStore := ⟨a22, t22, k22⟩
      aSetWord := f23
      fdSetWord := PySem.W.fnOf "set_word" "set_word" (defArgs sSetWord) (defBody sSetWord) (defScope sSetWord) .none kV23 dc23 pm23 an23 cd23 ct23
      dSetWord := ⟨fun_mk (st := sSetWord) l23 c23 k23, PySem.W.mg_of X G a23, (fun_mk (st := sSetWord) l23 c23 k23).binds (ps := PSetWord) fun _ _ _ _ _ _ us hl => match us, hl with | [_, _, _, _], _ => rfl⟩
      aCopyWord := f24
      fdCopyWord := PySem.W.fnOf "copy_word" "copy_word" (defArgs sCopyWord) (defBody sCopyWord) (defScope sCopyWord) .none kV24 dc24 pm24 an24 cd24 ct24
      dCopyWord := ⟨fun_mk (st := sCopyWord) l24 c24 k24, PySem.W.mg_of X G a24, (fun_mk (st := sCopyWord) l24 c24 k24).binds (ps := PCopyWord) fun _ _ _ _ _ _ us hl => match us, hl with | [_, _, _, _], _ => rfl⟩
      aCalculated := f25
      fdCalculated := PySem.W.fnOf "calculated" "calculated" (defArgs sCalculated) (defBody sCalculated) (defScope sCalculated) .none kV25 dc25 pm25 an25 cd25 ct25
      dCalculated := ⟨fun_mk (st := sCalculated) l25 c25 k25, PySem.W.mg_of X G a25, (fun_mk (st := sCalculated) l25 c25 k25).binds (ps := PCalculated) fun _ _ _ _ _ _ us hl => match us, hl with | [_, _, _], _ => rfl⟩
      aCalculate := f26
      fdCalculate := PySem.W.fnOf "calculate" "calculate" (defArgs sCalculate) (defBody sCalculate) (defScope sCalculate) .none kV26 dc26 pm26 an26 cd26 ct26
      dCalculate := ⟨fun_mk (st := sCalculate) l26 c26 k26, PySem.W.mg_of X G a26, (fun_mk (st := sCalculate) l26 c26 k26).binds (ps := PCalculate) fun _ _ _ _ _ _ us hl => match us, hl with | [_, _, _, _], _ => rfl⟩
      aShiftWordLeft := f27
      fdShiftWordLeft := PySem.W.fnOf "shift_word_left" "shift_word_left" (defArgs sShiftWordLeft) (defBody sShiftWordLeft) (defScope sShiftWordLeft) .none kV27 dc27 pm27 an27 cd27 ct27
      dShiftWordLeft := ⟨fun_mk (st := sShiftWordLeft) l27 c27 k27, PySem.W.mg_of X G a27, (fun_mk (st := sShiftWordLeft) l27 c27 k27).binds (ps := PShiftWordLeft) fun _ _ _ _ _ _ us hl => match us, hl with | [_, _, _, _], _ => rfl⟩
      aShiftWordRight := f28
      fdShiftWordRight := PySem.W.fnOf "shift_word_right" "shift_word_right" (defArgs sShiftWordRight) (defBody sShiftWordRight) (defScope sShiftWordRight) .none kV28 dc28 pm28 an28 cd28 ct28
      dShiftWordRight := ⟨fun_mk (st := sShiftWordRight) l28 c28 k28, PySem.W.mg_of X G a28, (fun_mk (st := sShiftWordRight) l28 c28 k28).binds (ps := PShiftWordRight) fun _ _ _ _ _ _ us hl => match us, hl with | [_, _, _, _], _ => rfl⟩
      aSmall := f29
      fdSmall := PySem.W.fnOf "small" "small" (defArgs sSmall) (defBody sSmall) (defScope sSmall) .none kV29 dc29 pm29 an29 cd29 ct29
      dSmall := ⟨fun_mk (st := sSmall) l29 c29 k29, PySem.W.mg_of X G a29, (fun_mk (st := sSmall) l29 c29 k29).binds (ps := PSmall) fun _ _ _ _ _ _ us hl => match us, hl with | [_], _ => rfl⟩
      aAddSmall := f30
      fdAddSmall := PySem.W.fnOf "add_small" "add_small" (defArgs sAddSmall) (defBody sAddSmall) (defScope sAddSmall) .none kV30 dc30 pm30 an30 cd30 ct30
      dAddSmall := ⟨fun_mk (st := sAddSmall) l30 c30 k30, PySem.W.mg_of X G a30, (fun_mk (st := sAddSmall) l30 c30 k30).binds (ps := PAddSmall) fun _ _ _ _ _ _ us hl => match us, hl with | [_, _, _, _], _ => rfl⟩
      aLoadWord := f31
      fdLoadWord := PySem.W.fnOf "load_word" "load_word" (defArgs sLoadWord) (defBody sLoadWord) (defScope sLoadWord) .none kV31 dc31 pm31 an31 cd31 ct31
      dLoadWord := ⟨fun_mk (st := sLoadWord) l31 c31 k31, PySem.W.mg_of X G a31, (fun_mk (st := sLoadWord) l31 c31 k31).binds (ps := PLoadWord) fun _ _ _ _ _ _ us hl => match us, hl with | [_, _, _, _], _ => rfl⟩
      aStoreWord := f32
      fdStoreWord := PySem.W.fnOf "store_word" "store_word" (defArgs sStoreWord) (defBody sStoreWord) (defScope sStoreWord) .none kV32 dc32 pm32 an32 cd32 ct32
      dStoreWord := ⟨fun_mk (st := sStoreWord) l32 c32 k32, PySem.W.mg_of X G a32, (fun_mk (st := sStoreWord) l32 c32 k32).binds (ps := PStoreWord) fun _ _ _ _ _ _ us hl => match us, hl with | [_, _, _, _], _ => rfl⟩
      aJump := f33
      fdJump := PySem.W.fnOf "jump" "jump" (defArgs sJump) (defBody sJump) (defScope sJump) .none kV33 dc33 pm33 an33 cd33 ct33
      dJump := ⟨fun_mk (st := sJump) l33 c33 k33, PySem.W.mg_of X G a33, (fun_mk (st := sJump) l33 c33 k33).binds (ps := PJump) fun _ _ _ _ _ _ us hl => match us, hl with | [_, _, _, _], _ => rfl⟩
      aJumpAndLink := f34
      fdJumpAndLink := PySem.W.fnOf "jump_and_link" "jump_and_link" (defArgs sJumpAndLink) (defBody sJumpAndLink) (defScope sJumpAndLink) .none kV34 dc34 pm34 an34 cd34 ct34
      dJumpAndLink := ⟨fun_mk (st := sJumpAndLink) l34 c34 k34, PySem.W.mg_of X G a34, (fun_mk (st := sJumpAndLink) l34 c34 k34).binds (ps := PJumpAndLink) fun _ _ _ _ _ _ us hl => match us, hl with | [_, _, _, _], _ => rfl⟩
      aHolds := f35
      fdHolds := PySem.W.fnOf "holds" "holds" (defArgs sHolds) (defBody sHolds) (defScope sHolds) .none kV35 dc35 pm35 an35 cd35 ct35
      dHolds := ⟨fun_mk (st := sHolds) l35 c35 k35, PySem.W.mg_of X G a35, (fun_mk (st := sHolds) l35 c35 k35).binds (ps := PHolds) fun _ _ _ _ _ _ us hl => match us, hl with | [_, _, _], _ => rfl⟩
      aBranch := f36
      fdBranch := PySem.W.fnOf "branch" "branch" (defArgs sBranch) (defBody sBranch) (defScope sBranch) .none kV36 dc36 pm36 an36 cd36 ct36
      dBranch := ⟨fun_mk (st := sBranch) l36 c36 k36, PySem.W.mg_of X G a36, (fun_mk (st := sBranch) l36 c36 k36).binds (ps := PBranch) fun _ _ _ _ _ _ us hl => match us, hl with | [_, _, _, _], _ => rfl⟩
      aCarryOut := f37
      fdCarryOut := PySem.W.fnOf "carry_out" "carry_out" (defArgs sCarryOut) (defBody sCarryOut) (defScope sCarryOut) .none kV37 dc37 pm37 an37 cd37 ct37
      dCarryOut := ⟨fun_mk (st := sCarryOut) l37 c37 k37, PySem.W.mg_of X G a37, (fun_mk (st := sCarryOut) l37 c37 k37).binds (ps := PCarryOut) fun _ _ _ _ _ _ us hl => match us, hl with | [_, _, _, _], _ => rfl⟩
      aUserStep := f38
      fdUserStep := PySem.W.fnOf "user_step" "user_step" (defArgs sUserStep) (defBody sUserStep) (defScope sUserStep) .none kV38 dc38 pm38 an38 cd38 ct38
      dUserStep := ⟨fun_mk (st := sUserStep) l38 c38 k38, PySem.W.mg_of X G a38, (fun_mk (st := sUserStep) l38 c38 k38).binds (ps := PUserStep) fun _ _ _ _ _ _ us hl => match us, hl with | [_, _, _], _ => rfl⟩
      aMachineInit := f39
      fdMachineInit := PySem.W.fnOf "__init__" "Machine.__init__" (defArgs sMachineInit) (defBody sMachineInit) (defScope sMachineInit) .none kV39 dc39 pm39 an39 cd39 ct39
      mMachineInit := ⟨fun_mk (st := sMachineInit) l39 c39 k39, (fun_mk (st := sMachineInit) l39 c39 k39).binds (ps := PMachineInit) fun _ _ _ _ _ _ us hl => match us, hl with | [_, _, _, _], _ => rfl⟩
      mkMachine := ⟨mk2, a39, t39, kc2⟩
      aMachineTakeInputs := f40
      fdMachineTakeInputs := PySem.W.fnOf "take_inputs" "Machine.take_inputs" (defArgs sMachineTakeInputs) (defBody sMachineTakeInputs) (defScope sMachineTakeInputs) .none kV40 dc40 pm40 an40 cd40 ct40
      mMachineTakeInputs := ⟨fun_mk (st := sMachineTakeInputs) l40 c40 k40, (fun_mk (st := sMachineTakeInputs) l40 c40 k40).binds (ps := PMachineTakeInputs) fun _ _ _ _ _ _ us hl => match us, hl with | [_], _ => rfl⟩
      hMachineTakeInputs := ⟨a40, t40, k40⟩
      aMachineEnterKernel := f41
      fdMachineEnterKernel := PySem.W.fnOf "enter_kernel" "Machine.enter_kernel" (defArgs sMachineEnterKernel) (defBody sMachineEnterKernel) (defScope sMachineEnterKernel) .none kV41 dc41 pm41 an41 cd41 ct41
      mMachineEnterKernel := ⟨fun_mk (st := sMachineEnterKernel) l41 c41 k41, (fun_mk (st := sMachineEnterKernel) l41 c41 k41).binds (ps := PMachineEnterKernel) fun _ _ _ _ _ _ us hl => match us, hl with | [_, _, _, _], _ => rfl⟩
      hMachineEnterKernel := ⟨a41, t41, k41⟩
      aMachineUserTick := f42
      fdMachineUserTick := PySem.W.fnOf "user_tick" "Machine.user_tick" (defArgs sMachineUserTick) (defBody sMachineUserTick) (defScope sMachineUserTick) .none kV42 dc42 pm42 an42 cd42 ct42
      mMachineUserTick := ⟨fun_mk (st := sMachineUserTick) l42 c42 k42, (fun_mk (st := sMachineUserTick) l42 c42 k42).binds (ps := PMachineUserTick) fun _ _ _ _ _ _ us hl => match us, hl with | [_], _ => rfl⟩
      hMachineUserTick := ⟨a42, t42, k42⟩
      aMachineSpecial := f43
      fdMachineSpecial := PySem.W.fnOf "special" "Machine.special" (defArgs sMachineSpecial) (defBody sMachineSpecial) (defScope sMachineSpecial) .none kV43 dc43 pm43 an43 cd43 ct43
      mMachineSpecial := ⟨fun_mk (st := sMachineSpecial) l43 c43 k43, (fun_mk (st := sMachineSpecial) l43 c43 k43).binds (ps := PMachineSpecial) fun _ _ _ _ _ _ us hl => match us, hl with | [_, _], _ => rfl⟩
      hMachineSpecial := ⟨a43, t43, k43⟩
      aMachineKernelOnly := f44
      fdMachineKernelOnly := PySem.W.fnOf "kernel_only" "Machine.kernel_only" (defArgs sMachineKernelOnly) (defBody sMachineKernelOnly) (defScope sMachineKernelOnly) .none kV44 dc44 pm44 an44 cd44 ct44
      mMachineKernelOnly := ⟨fun_mk (st := sMachineKernelOnly) l44 c44 k44, (fun_mk (st := sMachineKernelOnly) l44 c44 k44).binds (ps := PMachineKernelOnly) fun _ _ _ _ _ _ us hl => match us, hl with | [_, _], _ => rfl⟩
      hMachineKernelOnly := ⟨a44, t44, k44⟩
      aMachineKernelTick := f45
      fdMachineKernelTick := PySem.W.fnOf "kernel_tick" "Machine.kernel_tick" (defArgs sMachineKernelTick) (defBody sMachineKernelTick) (defScope sMachineKernelTick) .none kV45 dc45 pm45 an45 cd45 ct45
      mMachineKernelTick := ⟨fun_mk (st := sMachineKernelTick) l45 c45 k45, (fun_mk (st := sMachineKernelTick) l45 c45 k45).binds (ps := PMachineKernelTick) fun _ _ _ _ _ _ us hl => match us, hl with | [_], _ => rfl⟩
      hMachineKernelTick := ⟨a45, t45, k45⟩
      aMachineStep := f46
      fdMachineStep := PySem.W.fnOf "step" "Machine.step" (defArgs sMachineStep) (defBody sMachineStep) (defScope sMachineStep) .none kV46 dc46 pm46 an46 cd46 ct46
      mMachineStep := ⟨fun_mk (st := sMachineStep) l46 c46 k46, (fun_mk (st := sMachineStep) l46 c46 k46).binds (ps := PMachineStep) fun _ _ _ _ _ _ us hl => match us, hl with | [_], _ => rfl⟩
      hMachineStep := ⟨a46, t46, k46⟩
      aMachineState := f47
      fdMachineState := PySem.W.fnOf "state" "Machine.state" (defArgs sMachineState) (defBody sMachineState) (defScope sMachineState) .none kV47 dc47 pm47 an47 cd47 ct47
      mMachineState := ⟨fun_mk (st := sMachineState) l47 c47 k47, (fun_mk (st := sMachineState) l47 c47 k47).binds (ps := PMachineState) fun _ _ _ _ _ _ us hl => match us, hl with | [_], _ => rfl⟩
      hMachineState := ⟨a47, t47, k47⟩
      aResumed := f48
      fdResumed := PySem.W.fnOf "resumed" "resumed" (defArgs sResumed) (defBody sResumed) (defScope sResumed) .none kV48 dc48 pm48 an48 cd48 ct48
      dResumed := ⟨fun_mk (st := sResumed) l48 c48 k48, PySem.W.mg_of X G a48, (fun_mk (st := sResumed) l48 c48 k48).binds (ps := PResumed) fun _ _ _ _ _ _ us hl => match us, hl with | [_, _, _], _ => rfl⟩
      aLawNumber := f49
      fdLawNumber := PySem.W.fnOf "_law_number" "_law_number" (defArgs sLawNumber) (defBody sLawNumber) (defScope sLawNumber) .none kV49 dc49 pm49 an49 cd49 ct49
      dLawNumber := ⟨fun_mk (st := sLawNumber) l49 c49 k49, PySem.W.mg_of X G a49, (fun_mk (st := sLawNumber) l49 c49 k49).binds (ps := PLawNumber) fun _ _ _ _ _ _ us hl => match us, hl with | [_, _], _ => rfl⟩
      aLawWord := f50
      fdLawWord := PySem.W.fnOf "_law_word" "_law_word" (defArgs sLawWord) (defBody sLawWord) (defScope sLawWord) .none kV50 dc50 pm50 an50 cd50 ct50
      dLawWord := ⟨fun_mk (st := sLawWord) l50 c50 k50, PySem.W.mg_of X G a50, (fun_mk (st := sLawWord) l50 c50 k50).binds (ps := PLawWord) fun _ _ _ _ _ _ us hl => match us, hl with | [_], _ => rfl⟩
      aLawRow := f51
      fdLawRow := PySem.W.fnOf "_law_row" "_law_row" (defArgs sLawRow) (defBody sLawRow) (defScope sLawRow) .none kV51 dc51 pm51 an51 cd51 ct51
      dLawRow := ⟨fun_mk (st := sLawRow) l51 c51 k51, PySem.W.mg_of X G a51, (fun_mk (st := sLawRow) l51 c51 k51).binds (ps := PLawRow) fun _ _ _ _ _ _ us hl => match us, hl with | [_, _, _], _ => rfl⟩
      aLawPlain := f52
      fdLawPlain := PySem.W.fnOf "_law_plain" "_law_plain" (defArgs sLawPlain) (defBody sLawPlain) (defScope sLawPlain) .none kV52 dc52 pm52 an52 cd52 ct52
      dLawPlain := ⟨fun_mk (st := sLawPlain) l52 c52 k52, PySem.W.mg_of X G a52, (fun_mk (st := sLawPlain) l52 c52 k52).binds (ps := PLawPlain) fun _ _ _ _ _ _ us hl => match us, hl with | [_], _ => rfl⟩
      aLawWorld := f53
      fdLawWorld := PySem.W.fnOf "_law_world" "_law_world" (defArgs sLawWorld) (defBody sLawWorld) (defScope sLawWorld) .none kV53 dc53 pm53 an53 cd53 ct53
      dLawWorld := ⟨fun_mk (st := sLawWorld) l53 c53 k53, PySem.W.mg_of X G a53, (fun_mk (st := sLawWorld) l53 c53 k53).binds (ps := PLawWorld) fun _ _ _ _ _ _ us hl => match us, hl with | [_, _], _ => rfl⟩
      aLawSeen := f54
      fdLawSeen := PySem.W.fnOf "_law_seen" "_law_seen" (defArgs sLawSeen) (defBody sLawSeen) (defScope sLawSeen) .none kV54 dc54 pm54 an54 cd54 ct54
      dLawSeen := ⟨fun_mk (st := sLawSeen) l54 c54 k54, PySem.W.mg_of X G a54, (fun_mk (st := sLawSeen) l54 c54 k54).binds (ps := PLawSeen) fun _ _ _ _ _ _ us hl => match us, hl with | [_], _ => rfl⟩
      aLawOutside := f55
      fdLawOutside := PySem.W.fnOf "_law_outside" "_law_outside" (defArgs sLawOutside) (defBody sLawOutside) (defScope sLawOutside) .none kV55 dc55 pm55 an55 cd55 ct55
      dLawOutside := ⟨fun_mk (st := sLawOutside) l55 c55 k55, PySem.W.mg_of X G a55, (fun_mk (st := sLawOutside) l55 c55 k55).binds (ps := PLawOutside) fun _ _ _ _ _ _ us hl => match us, hl with | [_], _ => rfl⟩
      aLaw := fa
      fdLaw := PySem.W.fnOf "law" "law" (defArgs sLaw) (defBody sLaw) (defScope sLaw) .none kV56 dc56 pm56 an56 cd56 ct56
      dLaw := ⟨fun_mk (st := sLaw) l56 c56 k56, PySem.W.mg_of X G a56, (fun_mk (st := sLaw) l56 c56 k56).binds (ps := PLaw) fun _ _ _ _ _ _ us hl => match us, hl with | [_], _ => rfl⟩
      b_len := PySem.W.mg_none_of X G z_len
      b_int := PySem.W.mg_none_of X G z_int
      b_range := PySem.W.mg_none_of X G z_range
      b_tuple := PySem.W.mg_none_of X G z_tuple
      b_list := PySem.W.mg_none_of X G z_list
      gWORDS := ⟨tgWORDS, PySem.W.mg_of X G ggWORDS⟩
      gFIRST := ⟨tgFIRST, PySem.W.mg_of X G ggFIRST⟩
      gSLOTS := ⟨tgSLOTS, PySem.W.mg_of X G ggSLOTS⟩
      gILLEGAL := ⟨tgILLEGAL, PySem.W.mg_of X G ggILLEGAL⟩
      gADDRESS := ⟨tgADDRESS, PySem.W.mg_of X G ggADDRESS⟩
      gCALLED := ⟨tgCALLED, PySem.W.mg_of X G ggCALLED⟩
      gHALTED := ⟨tgHALTED, PySem.W.mg_of X G ggHALTED⟩
      gPAGE := ⟨tgPAGE, PySem.W.mg_of X G ggPAGE⟩
      gUSER_WORDS := ⟨tgUSER_WORDS, PySem.W.mg_of X G ggUSER_WORDS⟩
      gREAD := ⟨tgREAD, PySem.W.mg_of X G ggREAD⟩
      gWRITE := ⟨tgWRITE, PySem.W.mg_of X G ggWRITE⟩
      gEXECUTE := ⟨tgEXECUTE, PySem.W.mg_of X G ggEXECUTE⟩
      gRIGHTS := ⟨tgRIGHTS, PySem.W.mg_of X G ggRIGHTS⟩
      gEPC := ⟨tgEPC, PySem.W.mg_of X G ggEPC⟩
      gCAUSE := ⟨tgCAUSE, PySem.W.mg_of X G ggCAUSE⟩
      gVALUE := ⟨tgVALUE, PySem.W.mg_of X G ggVALUE⟩
      gMAP := ⟨tgMAP, PySem.W.mg_of X G ggMAP⟩
      gALARM := ⟨tgALARM, PySem.W.mg_of X G ggALARM⟩
      gTICKS := ⟨tgTICKS, PySem.W.mg_of X G ggTICKS⟩
      gTRAPPED := ⟨tgTRAPPED, PySem.W.mg_of X G ggTRAPPED⟩
      gALARMED := ⟨tgALARMED, PySem.W.mg_of X G ggALARMED⟩
      aOPS := u0
      gOPS := PySem.W.mg_of X G ggOPS
      dOPS := fun C G => dr_tup ul0 uv0 (by decide) (fun C G => (.cons (.str _) (.cons (.str _) (.cons (.str _) (.cons (.str _) (.cons (.str _) (.cons (.str _) (.cons (.str _) (.cons (.str _) (.cons (.str _) (.cons (.str _) (.cons (.str _) (.cons (.str _) (.cons (.str _) (.cons (.str _) (.cons (.str _) (.cons (.str _) (.cons (.str _) (.cons (.str _) (.cons (.str _) (.cons (.str _) (.cons (.str _) (.cons (.str _) (.cons (.str _) (.cons (.str _) (.cons (.str _) (.cons (.str _) (.nil)))))))))))))))))))))))))))) C G
      aKERNELONLY := u1
      gKERNELONLY := PySem.W.mg_of X G ggKERNELONLY
      dKERNELONLY := fun C G => dr_tup ul1 uv1 (by decide) (fun C G => (.cons (.str _) (.cons (.str _) (.cons (.str _) (.cons (.str _) (.cons (.str _) (.cons (.str _) (.nil)))))))) C G
      aGREATEST := wGREATEST
      gGREATEST := PySem.W.mg_of X G ggGREATEST
      kGREATEST := fun C => ktab (krow_cons (v := (.ref u2)) lkGREATEST kyGREATEST krGREATEST_0 rfl (fun _ => dr_tup ul2 uv2 (by decide) (fun _ _ => (.cons (.int _) (.cons (.int _) (.cons (.int _) (.nil))))) _ _) (krow_cons (v := (.ref u3)) lkGREATEST kyGREATEST krGREATEST_1 rfl (fun _ => dr_tup ul3 uv3 (by decide) (fun _ _ => (.cons (.int _) (.cons (.int _) (.cons (.int _) (.nil))))) _ _) (krow_cons (v := (.ref u4)) lkGREATEST kyGREATEST krGREATEST_2 rfl (fun _ => dr_tup ul4 uv4 (by decide) (fun _ _ => (.cons (.int _) (.cons (.int _) (.cons (.int _) (.nil))))) _ _) (krow_cons (v := (.ref u5)) lkGREATEST kyGREATEST krGREATEST_3 rfl (fun _ => dr_tup ul5 uv5 (by decide) (fun _ _ => (.cons (.int _) (.cons (.int _) (.cons (.int _) (.nil))))) _ _) (krow_cons (v := (.ref u6)) lkGREATEST kyGREATEST krGREATEST_4 rfl (fun _ => dr_tup ul6 uv6 (by decide) (fun _ _ => (.cons (.int _) (.cons (.int _) (.cons (.int _) (.nil))))) _ _) (krow_cons (v := (.ref u7)) lkGREATEST kyGREATEST krGREATEST_5 rfl (fun _ => dr_tup ul7 uv7 (by decide) (fun _ _ => (.cons (.int _) (.cons (.int _) (.cons (.int _) (.nil))))) _ _) (krow_cons (v := (.ref u8)) lkGREATEST kyGREATEST krGREATEST_6 rfl (fun _ => dr_tup ul8 uv8 (by decide) (fun _ _ => (.cons (.int _) (.cons (.int _) (.cons (.int _) (.nil))))) _ _) (krow_cons (v := (.ref u9)) lkGREATEST kyGREATEST krGREATEST_7 rfl (fun _ => dr_tup ul9 uv9 (by decide) (fun _ _ => (.cons (.int _) (.cons (.int _) (.cons (.int _) (.nil))))) _ _) (krow_cons (v := (.ref u10)) lkGREATEST kyGREATEST krGREATEST_8 rfl (fun _ => dr_tup ul10 uv10 (by decide) (fun _ _ => (.cons (.int _) (.cons (.int _) (.cons (.int _) (.nil))))) _ _) (krow_cons (v := (.ref u11)) lkGREATEST kyGREATEST krGREATEST_9 rfl (fun _ => dr_tup ul11 uv11 (by decide) (fun _ _ => (.cons (.int _) (.cons (.int _) (.cons (.int _) (.nil))))) _ _) (krow_cons (v := (.ref u12)) lkGREATEST kyGREATEST krGREATEST_10 rfl (fun _ => dr_tup ul12 uv12 (by decide) (fun _ _ => (.cons (.int _) (.cons (.int _) (.cons (.int _) (.nil))))) _ _) (krow_cons (v := (.ref u13)) lkGREATEST kyGREATEST krGREATEST_11 rfl (fun _ => dr_tup ul13 uv13 (by decide) (fun _ _ => (.cons (.int _) (.cons (.int _) (.cons (.int _) (.nil))))) _ _) (krow_cons (v := (.ref u14)) lkGREATEST kyGREATEST krGREATEST_12 rfl (fun _ => dr_tup ul14 uv14 (by decide) (fun _ _ => (.cons (.int _) (.cons (.int _) (.cons (.int _) (.nil))))) _ _) (krow_cons (v := (.ref u15)) lkGREATEST kyGREATEST krGREATEST_13 rfl (fun _ => dr_tup ul15 uv15 (by decide) (fun _ _ => (.cons (.int _) (.cons (.int _) (.cons (.int _) (.nil))))) _ _) (krow_cons (v := (.ref u16)) lkGREATEST kyGREATEST krGREATEST_14 rfl (fun _ => dr_tup ul16 uv16 (by decide) (fun _ _ => (.cons (.int _) (.cons (.int _) (.cons (.int _) (.nil))))) _ _) (krow_cons (v := (.ref u17)) lkGREATEST kyGREATEST krGREATEST_15 rfl (fun _ => dr_tup ul17 uv17 (by decide) (fun _ _ => (.cons (.int _) (.cons (.int _) (.cons (.int _) (.nil))))) _ _) (krow_cons (v := (.ref u18)) lkGREATEST kyGREATEST krGREATEST_16 rfl (fun _ => dr_tup ul18 uv18 (by decide) (fun _ _ => (.cons (.int _) (.cons (.int _) (.cons (.int _) (.nil))))) _ _) (krow_cons (v := (.ref u19)) lkGREATEST kyGREATEST krGREATEST_17 rfl (fun _ => dr_tup ul19 uv19 (by decide) (fun _ _ => (.cons (.int _) (.cons (.int _) (.cons (.int _) (.nil))))) _ _) (krow_cons (v := (.ref u20)) lkGREATEST kyGREATEST krGREATEST_18 rfl (fun _ => dr_tup ul20 uv20 (by decide) (fun _ _ => (.cons (.int _) (.cons (.int _) (.cons (.int _) (.nil))))) _ _) (krow_cons (v := (.ref u21)) lkGREATEST kyGREATEST krGREATEST_19 rfl (fun _ => dr_tup ul21 uv21 (by decide) (fun _ _ => (.cons (.int _) (.cons (.int _) (.cons (.int _) (.nil))))) _ _) (krow_cons (v := (.ref u22)) lkGREATEST kyGREATEST krGREATEST_20 rfl (fun _ => dr_tup ul22 uv22 (by decide) (fun _ _ => (.cons (.int _) (.cons (.int _) (.cons (.int _) (.nil))))) _ _) (krow_cons (v := (.ref u23)) lkGREATEST kyGREATEST krGREATEST_21 rfl (fun _ => dr_tup ul23 uv23 (by decide) (fun _ _ => (.cons (.int _) (.cons (.int _) (.cons (.int _) (.nil))))) _ _) (krow_cons (v := (.ref u24)) lkGREATEST kyGREATEST krGREATEST_22 rfl (fun _ => dr_tup ul24 uv24 (by decide) (fun _ _ => (.cons (.int _) (.cons (.int _) (.cons (.int _) (.nil))))) _ _) (krow_cons (v := (.ref u25)) lkGREATEST kyGREATEST krGREATEST_23 rfl (fun _ => dr_tup ul25 uv25 (by decide) (fun _ _ => (.cons (.int _) (.cons (.int _) (.cons (.int _) (.nil))))) _ _) (krow_cons (v := (.ref u26)) lkGREATEST kyGREATEST krGREATEST_24 rfl (fun _ => dr_tup ul26 uv26 (by decide) (fun _ _ => (.cons (.int _) (.cons (.int _) (.cons (.int _) (.nil))))) _ _) (krow_cons (v := (.ref u27)) lkGREATEST kyGREATEST krGREATEST_25 rfl (fun _ => dr_tup ul27 uv27 (by decide) (fun _ _ => (.cons (.int _) (.cons (.int _) (.cons (.int _) (.nil))))) _ _) ( krow_nil)))))))))))))))))))))))))))
      gKERNEL := ⟨tgKERNEL, PySem.W.mg_of X G ggKERNEL⟩
      gUSER := ⟨tgUSER, PySem.W.mg_of X G ggUSER⟩
      gBROKEN := ⟨tgBROKEN, PySem.W.mg_of X G ggBROKEN⟩
      nTrap_cause := enB_causeTrap
      nTrap_value := enB_valueTrap
      cTrap := cBTrap
      gTrap := PySem.W.mg_of X G eaBTrap
      oeTrap := ⟨⟨nmBTrap, qBTrap, NBTrap, bsBTrap, bmBTrap, snBTrap, subBTrap, abBTrap, colBTrap, ddBTrap, m0BTrap, m1BTrap, m2BTrap, m3BTrap, m5BTrap, exBTrap, erBTrap⟩, esBTrap, ebBTrap, etBTrap, ekBTrap⟩
      aTrapInit := fBTrap
      fdTrapInit := PySem.W.fnOf "__init__" "Trap.__init__" (defArgs sTrapInit) (defBody sTrapInit) (defScope sTrapInit) .none kVBTrap dcBTrap pmBTrap anBTrap cdBTrap ctBTrap
      FTrapInit := fun_mk (st := sTrapInit) elBTrap ecBTrap eKBTrap
      bTrapInit := (fun_mk (st := sTrapInit) elBTrap ecBTrap eKBTrap).binds (ps := PTrapInit) fun _ _ _ _ _ _ us hl => match us, hl with | [_, _, _], _ => rfl
      iTrap := eiBTrap
      tiTrap := efBTrap
      xfTrap := ⟨egBTrap, eGBTrap, ebBTrap, ehBTrap⟩
      exTrap := PySem.W.exm_ref ebBTrap ehBTrap etBTrap emBTrap
      aACTIONS := wACTIONS
      gACTIONS := PySem.W.mg_of X G ggACTIONS
      kACTIONS := fun C hC => ktab (krow_cons (v := .ref f12) lkACTIONS kyACTIONS krACTIONS_0 rfl (fun _ => dr_fn 0 (congrFun hC 0)) (krow_cons (v := .ref f23) lkACTIONS kyACTIONS krACTIONS_1 rfl (fun _ => dr_fn 1 (congrFun hC 1)) (krow_cons (v := .ref f24) lkACTIONS kyACTIONS krACTIONS_2 rfl (fun _ => dr_fn 2 (congrFun hC 2)) (krow_cons (v := .ref f26) lkACTIONS kyACTIONS krACTIONS_3 rfl (fun _ => dr_fn 3 (congrFun hC 3)) (krow_cons (v := .ref f26) lkACTIONS kyACTIONS krACTIONS_4 rfl (fun _ => dr_fn 3 (congrFun hC 3)) (krow_cons (v := .ref f26) lkACTIONS kyACTIONS krACTIONS_5 rfl (fun _ => dr_fn 3 (congrFun hC 3)) (krow_cons (v := .ref f26) lkACTIONS kyACTIONS krACTIONS_6 rfl (fun _ => dr_fn 3 (congrFun hC 3)) (krow_cons (v := .ref f26) lkACTIONS kyACTIONS krACTIONS_7 rfl (fun _ => dr_fn 3 (congrFun hC 3)) (krow_cons (v := .ref f26) lkACTIONS kyACTIONS krACTIONS_8 rfl (fun _ => dr_fn 3 (congrFun hC 3)) (krow_cons (v := .ref f27) lkACTIONS kyACTIONS krACTIONS_9 rfl (fun _ => dr_fn 4 (congrFun hC 4)) (krow_cons (v := .ref f28) lkACTIONS kyACTIONS krACTIONS_10 rfl (fun _ => dr_fn 5 (congrFun hC 5)) (krow_cons (v := .ref f30) lkACTIONS kyACTIONS krACTIONS_11 rfl (fun _ => dr_fn 6 (congrFun hC 6)) (krow_cons (v := .ref f31) lkACTIONS kyACTIONS krACTIONS_12 rfl (fun _ => dr_fn 7 (congrFun hC 7)) (krow_cons (v := .ref f32) lkACTIONS kyACTIONS krACTIONS_13 rfl (fun _ => dr_fn 8 (congrFun hC 8)) (krow_cons (v := .ref f33) lkACTIONS kyACTIONS krACTIONS_14 rfl (fun _ => dr_fn 9 (congrFun hC 9)) (krow_cons (v := .ref f34) lkACTIONS kyACTIONS krACTIONS_15 rfl (fun _ => dr_fn 10 (congrFun hC 10)) (krow_cons (v := .ref f36) lkACTIONS kyACTIONS krACTIONS_16 rfl (fun _ => dr_fn 11 (congrFun hC 11)) (krow_cons (v := .ref f36) lkACTIONS kyACTIONS krACTIONS_17 rfl (fun _ => dr_fn 11 (congrFun hC 11)) (krow_cons (v := .ref f36) lkACTIONS kyACTIONS krACTIONS_18 rfl (fun _ => dr_fn 11 (congrFun hC 11)) (krow_cons (v := .ref f13) lkACTIONS kyACTIONS krACTIONS_19 rfl (fun _ => dr_fn 12 (congrFun hC 12)) ( krow_nil))))))))))))))))))))) }
  exact ⟨T.fdLaw, fun s v => .of_eq rfl, fun base _ _ => ok_fin T⟩
theorem walk {l : PySem.W.OpenLaw} {q : Program} {loose : List Str} {XP : (Str → Option Value) → Heap → Prop} {YP : World → Heap → Prop} {d : DefRec} {K : Params → PySem.W.Frag} (hn : l.most = some 63) (hdf : d.params.defaults = [])
    (hY : ∀ (w : World) (h : Heap), YP w h → (K w.params).In h)
    (F : ∀ (w : World) (mg : Str → Option Value) (fa : Addr) (h : Heap), (K w.params).In h → h.Ns mainGlobals mg → mg d.name = some (.ref fa) →
      ∃ fd : FuncData, (∀ (s : Shared) (u : Value), BindsTo s fd ⟨[u], []⟩ [("script", u)]) ∧ ∀ base : Heap, (K w.params).In base → base.Ns mainGlobals mg → FnOk l.prog w (K w.params) mg base CX0 12 fa fd ["script"] (spLaw (K w.params))) :
    PySem.W.WalkO q loose XP YP l.row.toRowW d [] (fun f vs => PySem.call f vs) :=
  L2.walk_of (n := 63) (k := 12) (x := "script") (CX := fun _ => CX0) (sp := fun w => spLaw (K w.params)) hn (by decide) hdf ⟨rfl, by decide, by decide⟩ hY F (fun _ _ a ns hl _ hS => ⟨a, ns, rfl, hS, hl, fun _ => rfl⟩) fun _ _ _ _ _ z => z
end K07
open PySem PySem.W PyProof.Rows
set_option maxRecDepth 100000 in
set_option maxHeartbeats 0 in
theorem PySem.Challenge.cw_merestone_k07_whole_user_mode_sees_its_p_holds : PySem.Challenge.rw_merestone_k07_whole_user_mode_sees_its_p.Holds := by
  w_on; o_law; k_head; (case hw => w_witness2)
  k_fill
  refine K07.walk (l := PySem.Challenge.rw_merestone_k07_whole_user_mode_sees_its_p) rfl rfl (fun w h Y => PySem.W.kIn_of Y) ?F
  case F =>
    intro w mg fa h KX G hmg
    refine' K07.all_mk KX G hmg ?ca0 ?cp0 ?ch0 ?co0 ?cs0 ?n0_machine ?cc0 ?cm0 ?ca1 ?cp1 ?ch1 ?co1 ?cs1 ?n1_machine ?cc1 ?cm1 ?ca2 ?cp2 ?ch2 ?co2 ?cs2 ?n2_memory ?n2_rings ?n2_inputs ?n2_mode ?n2_pc ?n2_user ?n2_kernel ?n2_specials ?n2_tick ?n2_given ?n2_kernel_view ?n2_user_view ?cc2 ?cm2 ?sp0 ?tk0 ?a0 ?l0 ?c0 ?k0 ?a1 ?l1 ?c1 ?k1 ?a2 ?l2 ?c2 ?k2 ?a3 ?l3 ?c3 ?k3 ?a4 ?l4 ?c4 ?k4 ?a5 ?l5 ?c5 ?k5 ?a6 ?l6 ?c6 ?k6 ?a7 ?l7 ?c7 ?k7 ?a8 ?l8 ?c8 ?k8 ?a9 ?l9 ?c9 ?k9 ?a10 ?l10 ?c10 ?k10 ?a11 ?l11 ?c11 ?k11 ?a12 ?l12 ?c12 ?k12 ?a13 ?l13 ?c13 ?k13 ?a14 ?t14 ?l14 ?c14 ?k14 ?mk0 ?kc0 ?a15 ?t15 ?l15 ?c15 ?k15 ?a16 ?t16 ?l16 ?c16 ?k16 ?a17 ?t17 ?l17 ?c17 ?k17 ?a18 ?t18 ?l18 ?c18 ?k18 ?mk1 ?kc1 ?a19 ?t19 ?l19 ?c19 ?k19 ?a20 ?t20 ?l20 ?c20 ?k20 ?a21 ?t21 ?l21 ?c21 ?k21 ?a22 ?t22 ?l22 ?c22 ?k22 ?a23 ?l23 ?c23 ?k23 ?a24 ?l24 ?c24 ?k24 ?a25 ?l25 ?c25 ?k25 ?a26 ?l26 ?c26 ?k26 ?a27 ?l27 ?c27 ?k27 ?a28 ?l28 ?c28 ?k28 ?a29 ?l29 ?c29 ?k29 ?a30 ?l30 ?c30 ?k30 ?a31 ?l31 ?c31 ?k31 ?a32 ?l32 ?c32 ?k32 ?a33 ?l33 ?c33 ?k33 ?a34 ?l34 ?c34 ?k34 ?a35 ?l35 ?c35 ?k35 ?a36 ?l36 ?c36 ?k36 ?a37 ?l37 ?c37 ?k37 ?a38 ?l38 ?c38 ?k38 ?a39 ?t39 ?l39 ?c39 ?k39 ?mk2 ?kc2 ?a40 ?t40 ?l40 ?c40 ?k40 ?a41 ?t41 ?l41 ?c41 ?k41 ?a42 ?t42 ?l42 ?c42 ?k42 ?a43 ?t43 ?l43 ?c43 ?k43 ?a44 ?t44 ?l44 ?c44 ?k44 ?a45 ?t45 ?l45 ?c45 ?k45 ?a46 ?t46 ?l46 ?c46 ?k46 ?a47 ?t47 ?l47 ?c47 ?k47 ?a48 ?l48 ?c48 ?k48 ?a49 ?l49 ?c49 ?k49 ?a50 ?l50 ?c50 ?k50 ?a51 ?l51 ?c51 ?k51 ?a52 ?l52 ?c52 ?k52 ?a53 ?l53 ?c53 ?k53 ?a54 ?l54 ?c54 ?k54 ?a55 ?l55 ?c55 ?k55 ?a56 ?l56 ?c56 ?k56 ?z_len ?z_int ?z_range ?z_tuple ?z_list ?ggWORDS ?ggFIRST ?ggSLOTS ?ggILLEGAL ?ggADDRESS ?ggCALLED ?ggHALTED ?ggPAGE ?ggUSER_WORDS ?ggREAD ?ggWRITE ?ggEXECUTE ?ggRIGHTS ?ggEPC ?ggCAUSE ?ggVALUE ?ggMAP ?ggALARM ?ggTICKS ?ggTRAPPED ?ggALARMED ?ggOPS ?ul0 ?uv0 ?ggKERNELONLY ?ul1 ?uv1 ?ggGREATEST ?lkGREATEST ?kyGREATEST ?krGREATEST_0 ?ul2 ?uv2 ?krGREATEST_1 ?ul3 ?uv3 ?krGREATEST_2 ?ul4 ?uv4 ?krGREATEST_3 ?ul5 ?uv5 ?krGREATEST_4 ?ul6 ?uv6 ?krGREATEST_5 ?ul7 ?uv7 ?krGREATEST_6 ?ul8 ?uv8 ?krGREATEST_7 ?ul9 ?uv9 ?krGREATEST_8 ?ul10 ?uv10 ?krGREATEST_9 ?ul11 ?uv11 ?krGREATEST_10 ?ul12 ?uv12 ?krGREATEST_11 ?ul13 ?uv13 ?krGREATEST_12 ?ul14 ?uv14 ?krGREATEST_13 ?ul15 ?uv15 ?krGREATEST_14 ?ul16 ?uv16 ?krGREATEST_15 ?ul17 ?uv17 ?krGREATEST_16 ?ul18 ?uv18 ?krGREATEST_17 ?ul19 ?uv19 ?krGREATEST_18 ?ul20 ?uv20 ?krGREATEST_19 ?ul21 ?uv21 ?krGREATEST_20 ?ul22 ?uv22 ?krGREATEST_21 ?ul23 ?uv23 ?krGREATEST_22 ?ul24 ?uv24 ?krGREATEST_23 ?ul25 ?uv25 ?krGREATEST_24 ?ul26 ?uv26 ?krGREATEST_25 ?ul27 ?uv27 ?ggKERNEL ?ggUSER ?ggBROKEN ?eaBTrap ?exBTrap ?erBTrap ?esBTrap ?ebBTrap ?etBTrap ?ekBTrap ?egBTrap ?eGBTrap ?ehBTrap ?emBTrap ?enB_causeTrap ?enB_valueTrap ?eiBTrap ?efBTrap ?elBTrap ?ecBTrap ?eKBTrap ?ggACTIONS ?lkACTIONS ?kyACTIONS ?krACTIONS_0 ?krACTIONS_1 ?krACTIONS_2 ?krACTIONS_3 ?krACTIONS_4 ?krACTIONS_5 ?krACTIONS_6 ?krACTIONS_7 ?krACTIONS_8 ?krACTIONS_9 ?krACTIONS_10 ?krACTIONS_11 ?krACTIONS_12 ?krACTIONS_13 ?krACTIONS_14 ?krACTIONS_15 ?krACTIONS_16 ?krACTIONS_17 ?krACTIONS_18 ?krACTIONS_19
    (case ca0 => k_is)
    (case cp0 => k_is)
    (case ch0 => k_is)
    (case co0 => k_is)
    (case cs0 => k_is)
    (case n0_machine => k_is)
    (case cc0 => k_is)
    (case cm0 => k_is)
    (case ca1 => k_is)
    (case cp1 => k_is)
    (case ch1 => k_is)
    (case co1 => k_is)
    (case cs1 => k_is)
    (case n1_machine => k_is)
    (case cc1 => k_is)
    (case cm1 => k_is)
    (case ca2 => k_is)
    (case cp2 => k_is)
    (case ch2 => k_is)
    (case co2 => k_is)
    (case cs2 => k_is)
    (case n2_memory => k_is)
    (case n2_rings => k_is)
    (case n2_inputs => k_is)
    (case n2_mode => k_is)
    (case n2_pc => k_is)
    (case n2_user => k_is)
    (case n2_kernel => k_is)
    (case n2_specials => k_is)
    (case n2_tick => k_is)
    (case n2_given => k_is)
    (case n2_kernel_view => k_is)
    (case n2_user_view => k_is)
    (case cc2 => k_is)
    (case cm2 => k_is)
    (case sp0 => k_is)
    (case tk0 => k_is)
    (case a0 => k_is)
    (case l0 => k_is)
    (case c0 => k_is)
    (case k0 => k_is)
    (case a1 => k_is)
    (case l1 => k_is)
    (case c1 => k_is)
    (case k1 => k_is)
    (case a2 => k_is)
    (case l2 => k_is)
    (case c2 => k_is)
    (case k2 => k_is)
    (case a3 => k_is)
    (case l3 => k_is)
    (case c3 => k_is)
    (case k3 => k_is)
    (case a4 => k_is)
    (case l4 => k_is)
    (case c4 => k_is)
    (case k4 => k_is)
    (case a5 => k_is)
    (case l5 => k_is)
    (case c5 => k_is)
    (case k5 => k_is)
    (case a6 => k_is)
    (case l6 => k_is)
    (case c6 => k_is)
    (case k6 => k_is)
    (case a7 => k_is)
    (case l7 => k_is)
    (case c7 => k_is)
    (case k7 => k_is)
    (case a8 => k_is)
    (case l8 => k_is)
    (case c8 => k_is)
    (case k8 => k_is)
    (case a9 => k_is)
    (case l9 => k_is)
    (case c9 => k_is)
    (case k9 => k_is)
    (case a10 => k_is)
    (case l10 => k_is)
    (case c10 => k_is)
    (case k10 => k_is)
    (case a11 => k_is)
    (case l11 => k_is)
    (case c11 => k_is)
    (case k11 => k_is)
    (case a12 => k_is)
    (case l12 => k_is)
    (case c12 => k_is)
    (case k12 => k_is)
    (case a13 => k_is)
    (case l13 => k_is)
    (case c13 => k_is)
    (case k13 => k_is)
    (case a14 => k_is)
    (case t14 => k_is)
    (case l14 => k_is)
    (case c14 => k_is)
    (case k14 => k_is)
    (case mk0 => k_is)
    (case kc0 => k_is)
    (case a15 => k_is)
    (case t15 => k_is)
    (case l15 => k_is)
    (case c15 => k_is)
    (case k15 => k_is)
    (case a16 => k_is)
    (case t16 => k_is)
    (case l16 => k_is)
    (case c16 => k_is)
    (case k16 => k_is)
    (case a17 => k_is)
    (case t17 => k_is)
    (case l17 => k_is)
    (case c17 => k_is)
    (case k17 => k_is)
    (case a18 => k_is)
    (case t18 => k_is)
    (case l18 => k_is)
    (case c18 => k_is)
    (case k18 => k_is)
    (case mk1 => k_is)
    (case kc1 => k_is)
    (case a19 => k_is)
    (case t19 => k_is)
    (case l19 => k_is)
    (case c19 => k_is)
    (case k19 => k_is)
    (case a20 => k_is)
    (case t20 => k_is)
    (case l20 => k_is)
    (case c20 => k_is)
    (case k20 => k_is)
    (case a21 => k_is)
    (case t21 => k_is)
    (case l21 => k_is)
    (case c21 => k_is)
    (case k21 => k_is)
    (case a22 => k_is)
    (case t22 => k_is)
    (case l22 => k_is)
    (case c22 => k_is)
    (case k22 => k_is)
    (case a23 => k_is)
    (case l23 => k_is)
    (case c23 => k_is)
    (case k23 => k_is)
    (case a24 => k_is)
    (case l24 => k_is)
    (case c24 => k_is)
    (case k24 => k_is)
    (case a25 => k_is)
    (case l25 => k_is)
    (case c25 => k_is)
    (case k25 => k_is)
    (case a26 => k_is)
    (case l26 => k_is)
    (case c26 => k_is)
    (case k26 => k_is)
    (case a27 => k_is)
    (case l27 => k_is)
    (case c27 => k_is)
    (case k27 => k_is)
    (case a28 => k_is)
    (case l28 => k_is)
    (case c28 => k_is)
    (case k28 => k_is)
    (case a29 => k_is)
    (case l29 => k_is)
    (case c29 => k_is)
    (case k29 => k_is)
    (case a30 => k_is)
    (case l30 => k_is)
    (case c30 => k_is)
    (case k30 => k_is)
    (case a31 => k_is)
    (case l31 => k_is)
    (case c31 => k_is)
    (case k31 => k_is)
    (case a32 => k_is)
    (case l32 => k_is)
    (case c32 => k_is)
    (case k32 => k_is)
    (case a33 => k_is)
    (case l33 => k_is)
    (case c33 => k_is)
    (case k33 => k_is)
    (case a34 => k_is)
    (case l34 => k_is)
    (case c34 => k_is)
    (case k34 => k_is)
    (case a35 => k_is)
    (case l35 => k_is)
    (case c35 => k_is)
    (case k35 => k_is)
    (case a36 => k_is)
    (case l36 => k_is)
    (case c36 => k_is)
    (case k36 => k_is)
    (case a37 => k_is)
    (case l37 => k_is)
    (case c37 => k_is)
    (case k37 => k_is)
    (case a38 => k_is)
    (case l38 => k_is)
    (case c38 => k_is)
    (case k38 => k_is)
    (case a39 => k_is)
    (case t39 => k_is)
    (case l39 => k_is)
    (case c39 => k_is)
    (case k39 => k_is)
    (case mk2 => k_is)
    (case kc2 => k_is)
    (case a40 => k_is)
    (case t40 => k_is)
    (case l40 => k_is)
    (case c40 => k_is)
    (case k40 => k_is)
    (case a41 => k_is)
    (case t41 => k_is)
    (case l41 => k_is)
    (case c41 => k_is)
    (case k41 => k_is)
    (case a42 => k_is)
    (case t42 => k_is)
    (case l42 => k_is)
    (case c42 => k_is)
    (case k42 => k_is)
    (case a43 => k_is)
    (case t43 => k_is)
    (case l43 => k_is)
    (case c43 => k_is)
    (case k43 => k_is)
    (case a44 => k_is)
    (case t44 => k_is)
    (case l44 => k_is)
    (case c44 => k_is)
    (case k44 => k_is)
    (case a45 => k_is)
    (case t45 => k_is)
    (case l45 => k_is)
    (case c45 => k_is)
    (case k45 => k_is)
    (case a46 => k_is)
    (case t46 => k_is)
    (case l46 => k_is)
    (case c46 => k_is)
    (case k46 => k_is)
    (case a47 => k_is)
    (case t47 => k_is)
    (case l47 => k_is)
    (case c47 => k_is)
    (case k47 => k_is)
    (case a48 => k_is)
    (case l48 => k_is)
    (case c48 => k_is)
    (case k48 => k_is)
    (case a49 => k_is)
    (case l49 => k_is)
    (case c49 => k_is)
    (case k49 => k_is)
    (case a50 => k_is)
    (case l50 => k_is)
    (case c50 => k_is)
    (case k50 => k_is)
    (case a51 => k_is)
    (case l51 => k_is)
    (case c51 => k_is)
    (case k51 => k_is)
    (case a52 => k_is)
    (case l52 => k_is)
    (case c52 => k_is)
    (case k52 => k_is)
    (case a53 => k_is)
    (case l53 => k_is)
    (case c53 => k_is)
    (case k53 => k_is)
    (case a54 => k_is)
    (case l54 => k_is)
    (case c54 => k_is)
    (case k54 => k_is)
    (case a55 => k_is)
    (case l55 => k_is)
    (case c55 => k_is)
    (case k55 => k_is)
    (case a56 => k_is)
    (case l56 => k_is)
    (case c56 => k_is)
    (case k56 => k_is)
    (case z_len => k_is)
    (case z_int => k_is)
    (case z_range => k_is)
    (case z_tuple => k_is)
    (case z_list => k_is)
    (case ggWORDS => k_is)
    (case ggFIRST => k_is)
    (case ggSLOTS => k_is)
    (case ggILLEGAL => k_is)
    (case ggADDRESS => k_is)
    (case ggCALLED => k_is)
    (case ggHALTED => k_is)
    (case ggPAGE => k_is)
    (case ggUSER_WORDS => k_is)
    (case ggREAD => k_is)
    (case ggWRITE => k_is)
    (case ggEXECUTE => k_is)
    (case ggRIGHTS => k_is)
    (case ggEPC => k_is)
    (case ggCAUSE => k_is)
    (case ggVALUE => k_is)
    (case ggMAP => k_is)
    (case ggALARM => k_is)
    (case ggTICKS => k_is)
    (case ggTRAPPED => k_is)
    (case ggALARMED => k_is)
    (case ggOPS => k_is)
    (case ul0 => k_is)
    (case uv0 => rfl)
    (case ggKERNELONLY => k_is)
    (case ul1 => k_is)
    (case uv1 => rfl)
    (case ggGREATEST => k_is)
    (case lkGREATEST => k_is)
    (case kyGREATEST => k_keys)
    (case krGREATEST_0 => k_is)
    (case ul2 => k_is)
    (case uv2 => rfl)
    (case krGREATEST_1 => k_is)
    (case ul3 => k_is)
    (case uv3 => rfl)
    (case krGREATEST_2 => k_is)
    (case ul4 => k_is)
    (case uv4 => rfl)
    (case krGREATEST_3 => k_is)
    (case ul5 => k_is)
    (case uv5 => rfl)
    (case krGREATEST_4 => k_is)
    (case ul6 => k_is)
    (case uv6 => rfl)
    (case krGREATEST_5 => k_is)
    (case ul7 => k_is)
    (case uv7 => rfl)
    (case krGREATEST_6 => k_is)
    (case ul8 => k_is)
    (case uv8 => rfl)
    (case krGREATEST_7 => k_is)
    (case ul9 => k_is)
    (case uv9 => rfl)
    (case krGREATEST_8 => k_is)
    (case ul10 => k_is)
    (case uv10 => rfl)
    (case krGREATEST_9 => k_is)
    (case ul11 => k_is)
    (case uv11 => rfl)
    (case krGREATEST_10 => k_is)
    (case ul12 => k_is)
    (case uv12 => rfl)
    (case krGREATEST_11 => k_is)
    (case ul13 => k_is)
    (case uv13 => rfl)
    (case krGREATEST_12 => k_is)
    (case ul14 => k_is)
    (case uv14 => rfl)
    (case krGREATEST_13 => k_is)
    (case ul15 => k_is)
    (case uv15 => rfl)
    (case krGREATEST_14 => k_is)
    (case ul16 => k_is)
    (case uv16 => rfl)
    (case krGREATEST_15 => k_is)
    (case ul17 => k_is)
    (case uv17 => rfl)
    (case krGREATEST_16 => k_is)
    (case ul18 => k_is)
    (case uv18 => rfl)
    (case krGREATEST_17 => k_is)
    (case ul19 => k_is)
    (case uv19 => rfl)
    (case krGREATEST_18 => k_is)
    (case ul20 => k_is)
    (case uv20 => rfl)
    (case krGREATEST_19 => k_is)
    (case ul21 => k_is)
    (case uv21 => rfl)
    (case krGREATEST_20 => k_is)
    (case ul22 => k_is)
    (case uv22 => rfl)
    (case krGREATEST_21 => k_is)
    (case ul23 => k_is)
    (case uv23 => rfl)
    (case krGREATEST_22 => k_is)
    (case ul24 => k_is)
    (case uv24 => rfl)
    (case krGREATEST_23 => k_is)
    (case ul25 => k_is)
    (case uv25 => rfl)
    (case krGREATEST_24 => k_is)
    (case ul26 => k_is)
    (case uv26 => rfl)
    (case krGREATEST_25 => k_is)
    (case ul27 => k_is)
    (case uv27 => rfl)
    (case ggKERNEL => k_is)
    (case ggUSER => k_is)
    (case ggBROKEN => k_is)
    (case eaBTrap => k_is)
    (case exBTrap => k_is)
    (case erBTrap => decide +kernel)
    (case esBTrap => k_is)
    (case ebBTrap => k_is)
    (case etBTrap => k_is)
    (case ekBTrap => k_is)
    (case egBTrap => k_is)
    (case eGBTrap => k_is)
    (case ehBTrap => k_is)
    (case emBTrap => first | rfl | k_is)
    (case enB_causeTrap => k_is)
    (case enB_valueTrap => k_is)
    (case eiBTrap => k_is)
    (case efBTrap => k_is)
    (case elBTrap => k_is)
    (case ecBTrap => k_is)
    (case eKBTrap => k_is)
    (case ggACTIONS => k_is)
    (case lkACTIONS => k_is)
    (case kyACTIONS => k_keys)
    (case krACTIONS_0 => k_is)
    (case krACTIONS_1 => k_is)
    (case krACTIONS_2 => k_is)
    (case krACTIONS_3 => k_is)
    (case krACTIONS_4 => k_is)
    (case krACTIONS_5 => k_is)
    (case krACTIONS_6 => k_is)
    (case krACTIONS_7 => k_is)
    (case krACTIONS_8 => k_is)
    (case krACTIONS_9 => k_is)
    (case krACTIONS_10 => k_is)
    (case krACTIONS_11 => k_is)
    (case krACTIONS_12 => k_is)
    (case krACTIONS_13 => k_is)
    (case krACTIONS_14 => k_is)
    (case krACTIONS_15 => k_is)
    (case krACTIONS_16 => k_is)
    (case krACTIONS_17 => k_is)
    (case krACTIONS_18 => k_is)
    (case krACTIONS_19 => k_is)
#print axioms PySem.Challenge.cw_merestone_k07_whole_user_mode_sees_its_p_holds
end
