import PyProof.Rows.All
import Wide.All
import OpenK.AllK
import Wide.FinOn
import HandS.ForMost
import HandS.Evl
import HandS.IsInst
import HandS.TupLe
import HandS.More
import HandS.Strs
import HandS.Walk
import HandS.Deep
import HandS.TupAny
import HandS.Conv
import HandS.ExcCtx
import HandS.CallSlots
import HandS.ExcInit
import HandS.ExcOwn
import HandS.WordsExc
import HandS.OwnEq
import KE.GoesMore
import HandS.TupMul
import HandS.Style
import HandS.ExcInitHot
import HandS.ExcField
import HandS.HotCalls
import HandS.TryMany
import HandS.CallLocal
import HandS.Rev
import KE.GoesZip
import KE.KItemsList
import HandS.Zip
import HandS.Text
import HandS.FStr
import HandS.ExcIs
import PySem.Challenge.RW_merestone_k41_printed_programs
set_option Elab.async false
section
set_option Elab.async false
set_option linter.all false
set_option maxRecDepth 100000
set_option maxHeartbeats 4000000
namespace Wv
open PySem PySem.Spec PyProof.Rows L2 Evl

/-! ### data, trees of what is owned -/
inductive D where
  | non | bool (b : Bool) | int (i : Int) | str (s : Str)
  | lst (ds : List D) | ro (ds : List D) | tup (ds : List D) | tpx (ds : List D) | fzl (ds : List D) | obj (c : Nat) (ds : List D) | dct (ks : List Key) (ds : List D) | fn (j : Nat) | exn (a dd : Addr) (c : Nat) (ds : List D) | cst (v : V) | any
/-- nm: a node whose address is told -/
inductive T where
  | dat (d : D) | lst (ts : List T) | obj (c : Nat) (ts : List T) | dct (ks : List Key) (ts : List T) | nm (a : Addr) (t : T)
structure Cs where
  at_ : Nat → Addr
  ly : Nat → List Str
  fn : Nat → Addr := fun _ => 0
mutual
inductive DR (K : PySem.W.Frag) (C : Cs) (G : Hp) : V → D → Prop
  | non : DR K C G .non .non
  | bool (b : Bool) : DR K C G (.bl b) (.bool b)
  | int (i : Int) : DR K C G (.int i) (.int i)
  | str (s : Str) : DR K C G (.str s) (.str s)
  | lst {a : Addr} {xs : List V} {ds : List D} (h : G a = some (.lst xs)) (r : DRs K C G xs ds) : DR K C G (.ref a) (.lst ds)
  | ro {a : Addr} {xs : List V} {ds : List D} (h : SqL K G a xs) (r : DRs K C G xs ds) : DR K C G (.ref a) (.ro ds)
  | tup {a : Addr} {xs : List V} {ds : List D} (h : SqT K G a xs) (r : DRs K C G xs ds) : DR K C G (.ref a) (.tup ds)
  | tpx {a : Addr} {o : Obj} {xs : List V} {ds : List D} (h : G a = some (.frz o (.tup xs))) (n : o.dict = none) (r : DRs K C G xs ds) : DR K C G (.ref a) (.tpx ds)
  | fzl {a : Addr} {o : Obj} {xs : List V} {ds : List D} (h : G a = some (.frz o (.lst xs))) (r : DRs K C G xs ds) : DR K C G (.ref a) (.fzl ds)
  | obj {a dx : Addr} {fs : List (Str × V)} {c : Nat} {ds : List D} (h : G a = some (.ins (C.at_ c) dx fs)) (n : fs.map Prod.fst = (C.ly c).take fs.length) (r : DRs K C G (fs.map Prod.snd) ds) : DR K C G (.ref a) (.obj c ds)
  | dct {a : Addr} {kvs : List (Key × V)} {ks : List Key} {ds : List D} (h : G a = some (.dK kvs)) (n : kvs.map Prod.fst = ks) (r : DRs K C G (kvs.map Prod.snd) ds) : DR K C G (.ref a) (.dct ks ds)
  | fn (j : Nat) : DR K C G (.ref (C.fn j)) (.fn j)
  | exn {a dd : Addr} {fs : List (Str × V)} {c : Nat} {ds : List D} (h : G dd = some (.xd fs)) (n : fs.map Prod.fst = (C.ly c).take fs.length) (r : DRs K C G (fs.map Prod.snd) ds) : DR K C G (.ref a) (.exn a dd c ds)
  | cst (v : V) : DR K C G v (.cst v)
  | any (v : V) : DR K C G v .any
inductive DRs (K : PySem.W.Frag) (C : Cs) (G : Hp) : List V → List D → Prop
  | nil : DRs K C G [] []
  | cons {v : V} {d : D} {vs : List V} {ds : List D} (h : DR K C G v d) (r : DRs K C G vs ds) : DRs K C G (v :: vs) (d :: ds)
end
mutual
inductive TR (K : PySem.W.Frag) (C : Cs) (G H : Hp) : V → T → List Addr → Prop
  | dat {v : V} {d : D} (h : DR K C G v d) : TR K C G H v (.dat d) []
  | lst {a : Addr} {xs : List V} {ts : List T} {fp : List Addr} (h : H a = some (.lst xs)) (r : TRs K C G H xs ts fp) : TR K C G H (.ref a) (.lst ts) (a :: fp)
  | obj {a dx : Addr} {fs : List (Str × V)} {c : Nat} {ts : List T} {fp : List Addr} (h : H a = some (.ins (C.at_ c) dx fs)) (n : fs.map Prod.fst = (C.ly c).take fs.length) (r : TRs K C G H (fs.map Prod.snd) ts fp) : TR K C G H (.ref a) (.obj c ts) (a :: fp)
  | dct {a : Addr} {kvs : List (Key × V)} {ks : List Key} {ts : List T} {fp : List Addr} (h : H a = some (.dK kvs)) (n : kvs.map Prod.fst = ks) (r : TRs K C G H (kvs.map Prod.snd) ts fp) : TR K C G H (.ref a) (.dct ks ts) (a :: fp)
  | nm {a : Addr} {t : T} {fp : List Addr} (h : TR K C G H (.ref a) t fp) : TR K C G H (.ref a) (.nm a t) fp
inductive TRs (K : PySem.W.Frag) (C : Cs) (G H : Hp) : List V → List T → List Addr → Prop
  | nil : TRs K C G H [] [] []
  | cons {v : V} {t : T} {vs : List V} {ts : List T} {fp fq : List Addr} (h : TR K C G H v t fp) (r : TRs K C G H vs ts fq) : TRs K C G H (v :: vs) (t :: ts) (fp ++ fq)
end
section
variable {K : PySem.W.Frag} {C : Cs} {G H G' H' : Hp}
mutual
theorem DR.up (e : Ex G G') : ∀ (d : D) (v : V), DR K C G v d → DR K C G' v d
  | .non, _, h => by cases h; exact .non
  | .bool b, _, h => by cases h; exact .bool b
  | .int i, _, h => by cases h; exact .int i
  | .str x, _, h => by cases h; exact .str x
  | .lst ds, _, h => by
    cases h with
    | lst hs ha => exact .lst (e _ _ hs) (DRs.up e ds _ ha)
  | .ro ds, _, h => by
    cases h with
    | ro hs ha => exact .ro (ex_l e hs) (DRs.up e ds _ ha)
  | .tup ds, _, h => by
    cases h with
    | tup hs ha => exact .tup (ex_t e hs) (DRs.up e ds _ ha)
  | .tpx ds, _, h => by
    cases h with
    | tpx hs n ha => exact .tpx (e _ _ hs) n (DRs.up e ds _ ha)
  | .fzl ds, _, h => by
    cases h with
    | fzl hs ha => exact .fzl (e _ _ hs) (DRs.up e ds _ ha)
  | .obj c ds, _, h => by
    cases h with
    | obj hs n ha => exact .obj (e _ _ hs) n (DRs.up e ds _ ha)
  | .dct ks ds, _, h => by
    cases h with
    | dct hs n ha => exact .dct (e _ _ hs) n (DRs.up e ds _ ha)
  | .fn j, _, h => by cases h; exact .fn j
  | .exn a dd c ds, _, h => by
    cases h with
    | exn hs n ha => exact .exn (e _ _ hs) n (DRs.up e ds _ ha)
  | .cst v, _, h => by cases h; exact .cst v
  | .any, v, h => .any v
theorem DRs.up (e : Ex G G') : ∀ (ds : List D) (vs : List V), DRs K C G vs ds → DRs K C G' vs ds
  | [], _, h => by cases h; exact .nil
  | d :: ds, _, h => by
    cases h with
    | cons h1 h2 => exact .cons (DR.up e d _ h1) (DRs.up e ds _ h2)
end
theorem DRs.len : ∀ {ds : List D} {vs : List V}, DRs K C G vs ds → vs.length = ds.length
  | [], _, .nil => rfl
  | _ :: _, _, .cons _ h => by rw [List.length_cons, List.length_cons, DRs.len h]
theorem DRs.get : ∀ {ds : List D} {vs : List V} {i : Nat} {d : D}, DRs K C G vs ds → ds[i]? = some d → ∃ v, vs[i]? = some v ∧ DR K C G v d
  | _, _, i, _, .nil, e => by simp at e
  | _, _, 0, _, .cons h _, e => by
    cases (Option.some.inj e)
    exact ⟨_, rfl, h⟩
  | _, _, i + 1, _, .cons _ h, e => DRs.get (i := i) h e
theorem DRs.app : ∀ {ds es : List D} {vs us : List V}, DRs K C G vs ds → DRs K C G us es → DRs K C G (vs ++ us) (ds ++ es)
  | _, _, _, _, .nil, h => h
  | _, _, _, _, .cons h1 h2, h => .cons h1 (DRs.app h2 h)
theorem DRs.ints : ∀ {ns : List Int} {vs : List V}, DRs K C G vs (ns.map .int) → vs = ns.map V.int
  | [], _, .nil => rfl
  | _ :: _, _, .cons h1 h2 => by
    cases h1
    rw [DRs.ints h2]
    rfl
theorem DRs.strs : ∀ {ns : List Str} {vs : List V}, DRs K C G vs (ns.map .str) → vs = ns.map V.str
  | [], _, .nil => rfl
  | _ :: _, _, .cons h1 h2 => by
    cases h1
    rw [DRs.strs h2]
    rfl
theorem DRs.bools : ∀ {ns : List Bool} {vs : List V}, DRs K C G vs (ns.map .bool) → vs = ns.map V.bl
  | [], _, .nil => rfl
  | _ :: _, _, .cons h1 h2 => by
    cases h1
    rw [DRs.bools h2]
    rfl
theorem DRs.of_ints : ∀ (ns : List Int), DRs K C G (ns.map V.int) (ns.map .int)
  | [] => .nil
  | s :: ss => .cons (.int s) (DRs.of_ints ss)
theorem DRs.of_strs : ∀ (ns : List Str), DRs K C G (ns.map V.str) (ns.map .str)
  | [] => .nil
  | s :: ss => .cons (.str s) (DRs.of_strs ss)
theorem TRs.len : ∀ {ts : List T} {vs : List V} {fp : List Addr}, TRs K C G H vs ts fp → vs.length = ts.length
  | [], _, _, .nil => rfl
  | _ :: _, _, _, .cons _ h => by rw [List.length_cons, List.length_cons, TRs.len h]
/-! a tree stays where its own objects stay -/
mutual
theorem TR.stay (e : Ex G G') : ∀ (t : T) (v : V) (fp : List Addr), TR K C G H v t fp → (∀ a ∈ fp, H' a = H a) → TR K C G' H' v t fp
  | .dat d, _, _, h, _ => by
    cases h with
    | dat h => exact .dat (DR.up e d _ h)
  | .lst ts, _, _, h, s => by
    cases h with
    | lst h r => exact .lst ((s _ List.mem_cons_self).trans h) (TRs.stay e ts _ _ r fun a ha => s a (List.mem_cons_of_mem _ ha))
  | .obj c ts, _, _, h, s => by
    cases h with
    | obj h n r => exact .obj ((s _ List.mem_cons_self).trans h) n (TRs.stay e ts _ _ r fun a ha => s a (List.mem_cons_of_mem _ ha))
  | .dct ks ts, _, _, h, s => by
    cases h with
    | dct h n r => exact .dct ((s _ List.mem_cons_self).trans h) n (TRs.stay e ts _ _ r fun a ha => s a (List.mem_cons_of_mem _ ha))
  | .nm a t, _, _, h, s => by
    cases h with
    | nm h => exact .nm (TR.stay e t _ _ h s)
theorem TRs.stay (e : Ex G G') : ∀ (ts : List T) (vs : List V) (fp : List Addr), TRs K C G H vs ts fp → (∀ a ∈ fp, H' a = H a) → TRs K C G' H' vs ts fp
  | [], _, _, h, _ => by cases h; exact .nil
  | t :: ts, _, _, h, s => by
    cases h with
    | cons h r => exact .cons (TR.stay e t _ _ h fun a ha => s a (List.mem_append_left _ ha)) (TRs.stay e ts _ _ r fun a ha => s a (List.mem_append_right _ ha))
end
/-! a tree becomes data -/
mutual
def T.toD : T → D
  | .dat d => d
  | .lst ts => .lst (T.toDs ts)
  | .obj c ts => .obj c (T.toDs ts)
  | .dct ks ts => .dct ks (T.toDs ts)
  | .nm _ t => t.toD
def T.toDs : List T → List D
  | [] => []
  | t :: ts => t.toD :: T.toDs ts
end
theorem toDs_map : ∀ ds : List D, T.toDs (ds.map .dat) = ds
  | [] => rfl
  | d :: ds => by
    show d :: T.toDs (ds.map .dat) = _
    rw [toDs_map ds]
mutual
theorem TR.frz (e : Ex G G') : ∀ (t : T) (v : V) (fp : List Addr), TR K C G H v t fp → (∀ a ∈ fp, G' a = H a) → DR K C G' v t.toD
  | .dat d, _, _, h, _ => by
    cases h with
    | dat h => exact DR.up e d _ h
  | .lst ts, _, _, h, s => by
    cases h with
    | lst h r => exact .lst ((s _ List.mem_cons_self).trans h) (TRs.frz e ts _ _ r fun a ha => s a (List.mem_cons_of_mem _ ha))
  | .obj c ts, _, _, h, s => by
    cases h with
    | obj h n r => exact .obj ((s _ List.mem_cons_self).trans h) n (TRs.frz e ts _ _ r fun a ha => s a (List.mem_cons_of_mem _ ha))
  | .dct ks ts, _, _, h, s => by
    cases h with
    | dct h n r => exact .dct ((s _ List.mem_cons_self).trans h) n (TRs.frz e ts _ _ r fun a ha => s a (List.mem_cons_of_mem _ ha))
  | .nm a t, _, _, h, s => by
    cases h with
    | nm h => exact TR.frz e t _ _ h s
theorem TRs.frz (e : Ex G G') : ∀ (ts : List T) (vs : List V) (fp : List Addr), TRs K C G H vs ts fp → (∀ a ∈ fp, G' a = H a) → DRs K C G' vs (T.toDs ts)
  | [], _, _, h, _ => by cases h; exact .nil
  | t :: ts, _, _, h, s => by
    cases h with
    | cons h r => exact .cons (TR.frz e t _ _ h fun a ha => s a (List.mem_append_left _ ha)) (TRs.frz e ts _ _ r fun a ha => s a (List.mem_append_right _ ha))
end
/-- the heap of data with the objects at fp -/
def mix (G H : Hp) (fp : List Addr) : Hp := fun a => if a ∈ fp then H a else G a
theorem mix_in {fp : List Addr} {a : Addr} (h : a ∈ fp) : mix G H fp a = H a := if_pos h
theorem mix_out {fp : List Addr} {a : Addr} (h : a ∉ fp) : mix G H fp a = G a := if_neg h
theorem mix_ex {fp : List Addr} (h : ∀ a ∈ fp, G a = none) : Ex G (mix G H fp) := fun a o e => by
  rw [mix_out fun z => by rw [h a z] at e; cases e]
  exact e
theorem mix_sub {fp : List Addr} (s : Ex G H) : Ex (mix G H fp) H := fun a o e => by
  by_cases z : a ∈ fp
  · rw [mix_in z] at e
    exact e
  · rw [mix_out z] at e
    exact s a o e

/-! ### places -/
def fol (H : Hp) : List Nat → V → Option V
  | [], v => some v
  | i :: p, .ref a => match H a with
    | some (.lst xs) => (xs[i]?).bind (fol H p)
    | some (.ins _ _ fs) => ((fs.map Prod.snd)[i]?).bind (fol H p)
    | some (.dK kvs) => ((kvs.map Prod.snd)[i]?).bind (fol H p)
    | _ => none
  | _ :: _, _ => none
def T.kids : T → List T
  | .dat _ => []
  | .lst ts => ts
  | .obj _ ts => ts
  | .dct _ ts => ts
  | .nm _ t => t.kids
/-- the node itself -/
def T.strip : T → T
  | .dat d => .dat d
  | .lst ts => .lst ts
  | .obj c ts => .obj c ts
  | .dct ks ts => .dct ks ts
  | .nm _ t => t.strip
def T.isD : T → Bool
  | .dat _ => true
  | .lst _ => false
  | .obj _ _ => false
  | .dct _ _ => false
  | .nm _ t => t.isD
/-- the node becomes another, its name stays -/
def T.over (f : T → T) : T → T
  | .dat d => f (.dat d)
  | .lst ts => f (.lst ts)
  | .obj c ts => f (.obj c ts)
  | .dct ks ts => f (.dct ks ts)
  | .nm a t => .nm a (T.over f t)
def T.at : List Nat → T → Option T
  | [], t => some t
  | i :: p, t => (t.kids[i]?).bind (T.at p)
def T.withKids : T → List T → T
  | .dat d, _ => .dat d
  | .lst _, ts => .lst ts
  | .obj c _, ts => .obj c ts
  | .dct ks _, ts => .dct ks ts
  | .nm a t, ts => .nm a (T.withKids t ts)
def T.put (u : T) : List Nat → T → T
  | [] => T.over fun _ => u.strip
  | i :: p => T.over fun t => match t.kids[i]? with
    | some x => t.withKids (t.kids.set i (T.put u p x))
    | none => t
theorem TR.strip {K : PySem.W.Frag} {C : Cs} {G H : Hp} : ∀ {t : T} {v : V} {fp : List Addr}, TR K C G H v t fp → TR K C G H v t.strip fp
  | .dat _, _, _, h => h
  | .lst _, _, _, h => h
  | .obj _ _, _, _, h => h
  | .dct _ _, _, _, h => h
  | .nm _ t, _, _, h => by
    cases h with
    | nm h => exact TR.strip (t := t) h
theorem T.strip_nm {a : Addr} {u : T} : ∀ t : T, t.strip ≠ .nm a u
  | .dat _, h => nomatch h
  | .lst _, h => nomatch h
  | .obj _ _, h => nomatch h
  | .dct _ _, h => nomatch h
  | .nm _ t, h => T.strip_nm t h
theorem T.strip_strip : ∀ t : T, t.strip.strip = t.strip
  | .dat _ => rfl
  | .lst _ => rfl
  | .obj _ _ => rfl
  | .dct _ _ => rfl
  | .nm _ t => T.strip_strip t
theorem TR.over {K : PySem.W.Frag} {C : Cs} {G H G' H' : Hp} {f : T → T} {fq : List Addr} : ∀ {t : T} {v : V} {fp : List Addr}, TR K C G H v t fp → TR K C G' H' v (f t.strip) fq → TR K C G' H' v (T.over f t) fq
  | .dat _, _, _, _, h => h
  | .lst _, _, _, _, h => h
  | .obj _ _, _, _, _, h => h
  | .dct _ _, _, _, _, h => h
  | .nm _ t, _, _, h, h' => by
    cases h with
    | nm h => exact .nm (TR.over (t := t) h h')
def NodeV (H : Hp) (w : V) : Prop := ∃ a, w = .ref a ∧ ((∃ xs, H a = some (.lst xs)) ∨ (∃ c dx fs, H a = some (.ins c dx fs)) ∨ ∃ kvs, H a = some (.dK kvs))
theorem TRs.split : ∀ {ts : List T} {vs : List V} {fp : List Addr} {i : Nat} {t : T}, TRs K C G H vs ts fp → ts[i]? = some t → ∃ v L fu R, vs[i]? = some v ∧ TR K C G H v t fu ∧ fp = L ++ (fu ++ R) ∧
    ∀ (G' H' : Hp) (t' : T) (fu' : List Addr), Ex G G' → (∀ a ∈ L ++ R, H' a = H a) → TR K C G' H' v t' fu' → TRs K C G' H' vs (ts.set i t') (L ++ (fu' ++ R))
  | _, _, _, _, _, .nil, e => by simp at e
  | _, _, _, 0, _, .cons (fp := fp) (fq := fq) h r, e => by
    cases Option.some.inj e
    exact ⟨_, [], fp, fq, rfl, h, rfl, fun G' H' t' fu' eg s h' => TRs.cons (fp := fu') (fq := fq) h' (TRs.stay eg _ _ _ r fun a ha => s a ha)⟩
  | _, _, _, i + 1, _, .cons (fp := fp) (fq := fq) h r, e => by
    obtain ⟨v, L, fu, R, h1, h2, h3, h4⟩ := TRs.split (i := i) r e
    refine ⟨v, fp ++ L, fu, R, h1, h2, by rw [h3, List.append_assoc], fun G' H' t' fu' eg s h' => ?_⟩
    rw [List.append_assoc]
    refine .cons (TR.stay eg _ _ _ h fun a ha => s a (by simp [ha])) (h4 G' H' t' fu' eg (fun a ha => s a ?_) h')
    rcases List.mem_append.mp ha with z | z <;> simp [z]
/-- the node at a place, and what may stand there -/
theorem TR.node : ∀ {p : List Nat} {t u : T} {v : V} {fp : List Addr}, TR K C G H v t fp → T.at p t = some u → ∃ w L fu R, fol H p v = some w ∧ TR K C G H w u fu ∧ fp = L ++ (fu ++ R) ∧
    ∀ (G' H' : Hp) (u' : T) (fu' : List Addr), Ex G G' → (∀ a ∈ L ++ R, H' a = H a) → TR K C G' H' w u' fu' → TR K C G' H' v (T.put u' p t) (L ++ (fu' ++ R))
  | [], t, u, v, fp, h, e => by
    cases Option.some.inj e
    exact ⟨v, [], fp, [], rfl, h, by simp, fun G' H' u' fu' eg s h' => by
      show TR K C G' H' v (T.over (fun _ => u'.strip) t) ([] ++ (fu' ++ []))
      have := TR.over (f := fun _ => u'.strip) h h'.strip
      simpa using this⟩
  | i :: p, t, u, v, fp, h, e => by
    cases h with
    | @nm a t _ h =>
      obtain ⟨w, L, fu, R, h1, h2, h3, h4⟩ := TR.node (p := i :: p) (t := t) h (show T.at (i :: p) t = some u from e)
      exact ⟨w, L, fu, R, h1, h2, h3, fun G' H' u' fu' eg s h' => .nm (h4 G' H' u' fu' eg s h')⟩
    | dat h => simp [T.at, T.kids] at e
    | @lst a xs ts fq h r =>
      cases q : ts[i]? with
      | none => simp [T.at, T.kids, q] at e
      | some x =>
        have e : T.at p x = some u := by simpa [T.at, T.kids, q] using e
        obtain ⟨w, L, fu, R, h1, h2, h3, h4⟩ := TRs.split r q
        obtain ⟨w2, L2, fu2, R2, k1, k2, k3, k4⟩ := TR.node (p := p) h2 e
        refine ⟨w2, a :: (L ++ L2), fu2, R2 ++ R, ?_, k2, by rw [h3, k3]; simp, fun G' H' u' fu' eg s h' => ?_⟩
        · show (match H a with | some (.lst xs) => (xs[i]?).bind (fol H p) | some (.ins _ _ fs) => ((fs.map Prod.snd)[i]?).bind (fol H p) | some (.dK kvs) => ((kvs.map Prod.snd)[i]?).bind (fol H p) | _ => none) = _
          rw [h]
          show (xs[i]?).bind (fol H p) = _
          rw [h1]
          exact k1
        · have z := h4 G' H' (T.put u' p x) (L2 ++ (fu' ++ R2)) eg (fun b hb => s b (by rcases List.mem_append.mp hb with y | y <;> simp [y])) (k4 G' H' u' fu' eg (fun b hb => s b (by rcases List.mem_append.mp hb with y | y <;> simp [y])) h')
          have y : T.put u' (i :: p) (.lst ts) = .lst (ts.set i (T.put u' p x)) := by simp [T.put, T.over, T.kids, q, T.withKids]
          rw [y]
          have := TR.lst (C := C) ((s a (by simp)).trans h) z
          simpa using this
    | @obj a dx fs c ts fq h n r =>
      cases q : ts[i]? with
      | none => simp [T.at, T.kids, q] at e
      | some x =>
        have e : T.at p x = some u := by simpa [T.at, T.kids, q] using e
        obtain ⟨w, L, fu, R, h1, h2, h3, h4⟩ := TRs.split r q
        obtain ⟨w2, L2, fu2, R2, k1, k2, k3, k4⟩ := TR.node (p := p) h2 e
        refine ⟨w2, a :: (L ++ L2), fu2, R2 ++ R, ?_, k2, by rw [h3, k3]; simp, fun G' H' u' fu' eg s h' => ?_⟩
        · show (match H a with | some (.lst xs) => (xs[i]?).bind (fol H p) | some (.ins _ _ fs) => ((fs.map Prod.snd)[i]?).bind (fol H p) | some (.dK kvs) => ((kvs.map Prod.snd)[i]?).bind (fol H p) | _ => none) = _
          rw [h]
          show ((fs.map Prod.snd)[i]?).bind (fol H p) = _
          rw [h1]
          exact k1
        · have z := h4 G' H' (T.put u' p x) (L2 ++ (fu' ++ R2)) eg (fun b hb => s b (by rcases List.mem_append.mp hb with y | y <;> simp [y])) (k4 G' H' u' fu' eg (fun b hb => s b (by rcases List.mem_append.mp hb with y | y <;> simp [y])) h')
          have y : T.put u' (i :: p) (.obj c ts) = .obj c (ts.set i (T.put u' p x)) := by simp [T.put, T.over, T.kids, q, T.withKids]
          rw [y]
          have := TR.obj (C := C) ((s a (by simp)).trans h) n z
          simpa using this
    | @dct a kvs ks ts fq h n r =>
      cases q : ts[i]? with
      | none => simp [T.at, T.kids, q] at e
      | some x =>
        have e : T.at p x = some u := by simpa [T.at, T.kids, q] using e
        obtain ⟨w, L, fu, R, h1, h2, h3, h4⟩ := TRs.split r q
        obtain ⟨w2, L2, fu2, R2, k1, k2, k3, k4⟩ := TR.node (p := p) h2 e
        refine ⟨w2, a :: (L ++ L2), fu2, R2 ++ R, ?_, k2, by rw [h3, k3]; simp, fun G' H' u' fu' eg s h' => ?_⟩
        · show (match H a with | some (.lst xs) => (xs[i]?).bind (fol H p) | some (.ins _ _ fs) => ((fs.map Prod.snd)[i]?).bind (fol H p) | some (.dK kvs) => ((kvs.map Prod.snd)[i]?).bind (fol H p) | _ => none) = _
          rw [h]
          show ((kvs.map Prod.snd)[i]?).bind (fol H p) = _
          rw [h1]
          exact k1
        · have z := h4 G' H' (T.put u' p x) (L2 ++ (fu' ++ R2)) eg (fun b hb => s b (by rcases List.mem_append.mp hb with y | y <;> simp [y])) (k4 G' H' u' fu' eg (fun b hb => s b (by rcases List.mem_append.mp hb with y | y <;> simp [y])) h')
          have y : T.put u' (i :: p) (.dct ks ts) = .dct ks (ts.set i (T.put u' p x)) := by simp [T.put, T.over, T.kids, q, T.withKids]
          rw [y]
          have := TR.dct (C := C) ((s a (by simp)).trans h) n z
          simpa using this
/-- no place to a node is lost -/
def Idn (H H' : Hp) : Prop := ∀ w : V, NodeV H w → NodeV H' w
theorem Idn.refl (H : Hp) : Idn H H := fun _ n => n
theorem Idn.trans {H1 H2 : Hp} (a : Idn H H1) (b : Idn H1 H2) : Idn H H2 := fun w h => b w (a w h)
/-- an object is laid, or a node gets other contents, its nodes in their places -/
theorem Idn.of (n : ∀ w, NodeV H w → NodeV H' w) : Idn H H' := n
end
end Wv
end

section
set_option Elab.async false
set_option linter.all false
set_option maxRecDepth 100000
set_option maxHeartbeats 4000000
namespace Wv
open PySem PySem.Spec PyProof.Rows L2 Evl

inductive Val where | dat (d : D) | ref (r : Nat) (p : List Nat)
abbrev Slots := List (Option Val)
/-- an error of the program's own: its class, its fields -/
structure Exn where
  c : Nat
  ds : List D
abbrev Roots := List T
def VR (K : PySem.W.Frag) (C : Cs) (G H : Hp) (ρ : List Addr) : Val → V → Prop
  | .dat d, v => DR K C G v d
  | .ref r p, v => ∃ a, ρ[r]? = some a ∧ fol H p (.ref a) = some v ∧ NodeV H v ∧ p = []
inductive VRs (K : PySem.W.Frag) (C : Cs) (G H : Hp) (ρ : List Addr) : List Val → List V → Prop
  | nil : VRs K C G H ρ [] []
  | cons {x : Val} {v : V} {xs : List Val} {vs : List V} (h : VR K C G H ρ x v) (r : VRs K C G H ρ xs vs) : VRs K C G H ρ (x :: xs) (v :: vs)
inductive Rts (K : PySem.W.Frag) (C : Cs) (G H : Hp) : List T → List Addr → List (List Addr) → Prop
  | nil : Rts K C G H [] [] []
  | cons {t : T} {a : Addr} {fp : List Addr} {ts : List T} {as : List Addr} {fps : List (List Addr)} (h : TR K C G H (.ref a) t fp) (r : Rts K C G H ts as fps) : Rts K C G H (t :: ts) (a :: as) (fp :: fps)
structure RSt (K : PySem.W.Frag) (C : Cs) (rt : Roots) (ρ : List Addr) (fps : List (List Addr)) (G H : Hp) : Prop where
  sub : Ex G H
  root : Rts K C G H rt ρ fps
  nd : fps.flatten.Nodup
  fr : ∀ a ∈ fps.flatten, G a = none
structure St (K : PySem.W.Frag) (C : Cs) (sl : Slots) (rt : Roots) (σ : L2.St) (ρ : List Addr) (fps : List (List Addr)) (G H : Hp) : Prop extends RSt K C rt ρ fps G H where
  len : σ.length = sl.length
  slot : ∀ (i : Nat) x, sl[i]? = some (some x) → ∃ v, σ[i]? = some (some v) ∧ VR K C G H ρ x v
structure Nx (fp : List Addr) (G H G' H' : Hp) (fp' : List Addr) : Prop where
  g : Ex G G'
  keep : ∀ l o, H l = some o → l ∉ fp → H' l = some o ∧ (G l = none → G' l = none)
  dom : ∀ l, H' l = none → H l = none
  new : ∀ l ∈ fp', l ∈ fp ∨ H l = none
  idn : Idn H H'
section
variable {K : PySem.W.Frag} {C : Cs} {G H G' H' G1 H1 G2 H2 : Hp} {sl : Slots} {rt rt' : Roots} {σ : L2.St} {ρ ρ' : List Addr} {fps fps' : List (List Addr)} {fp fp1 fp2 : List Addr}
theorem Nx.refl (fp : List Addr) (G H : Hp) : Nx fp G H G H fp := ⟨Ex.refl G, fun _ _ h _ => ⟨h, fun g => g⟩, fun _ h => h, fun _ h => .inl h, Idn.refl H⟩
theorem Nx.trans (a : Nx fp G H G1 H1 fp1) (b : Nx fp1 G1 H1 G2 H2 fp2) : Nx fp G H G2 H2 fp2 where
  g := a.g.trans b.g
  keep := fun l o h n => by
    obtain ⟨h1, g1⟩ := a.keep l o h n
    have n1 : l ∉ fp1 := fun z => by
      rcases a.new l z with q | q
      · exact n q
      · rw [q] at h; cases h
    obtain ⟨h2, g2⟩ := b.keep l o h1 n1
    exact ⟨h2, fun g => g2 (g1 g)⟩
  dom := fun l h => a.dom l (b.dom l h)
  new := fun l h => by
    rcases b.new l h with q | q
    · exact a.new l q
    · exact .inr (a.dom l q)
  idn := a.idn.trans b.idn
theorem Nx.less (a : Nx fp G H G' H' fp1) (h : ∀ l ∈ fp2, l ∈ fp1) : Nx fp G H G' H' fp2 := ⟨a.g, a.keep, a.dom, fun l z => a.new l (h l z), a.idn⟩
theorem VR.up (n : Nx fp G H G' H' fp1) (q : ∀ (i : Nat) (a : Addr), ρ[i]? = some a → ρ'[i]? = some a) : ∀ {x : Val} {v : V}, VR K C G H ρ x v → VR K C G' H' ρ' x v
  | .dat d, _, h => DR.up n.g d _ h
  | .ref r p, v, ⟨a, h1, h2, h3, h4⟩ => by
    subst h4
    exact ⟨a, q r a h1, h2, n.idn v h3, rfl⟩
theorem VRs.up (n : Nx fp G H G' H' fp1) (q : ∀ (i : Nat) (a : Addr), ρ[i]? = some a → ρ'[i]? = some a) : ∀ {x : List Val} {v : List V}, VRs K C G H ρ x v → VRs K C G' H' ρ' x v
  | _, _, .nil => .nil
  | _, _, .cons h r => .cons (h.up n q) (VRs.up n q r)
theorem VRs.len : ∀ {x : List Val} {v : List V}, VRs K C G H ρ x v → v.length = x.length
  | _, _, .nil => rfl
  | _, _, .cons h r => by rw [List.length_cons, List.length_cons, VRs.len r]
theorem VRs.get : ∀ {xs : List Val} {vs : List V} {i : Nat} {x : Val}, VRs K C G H ρ xs vs → xs[i]? = some x → ∃ v, vs[i]? = some v ∧ VR K C G H ρ x v
  | _, _, i, _, .nil, e => by simp at e
  | _, _, 0, _, .cons h _, e => by
    cases (Option.some.inj e)
    exact ⟨_, rfl, h⟩
  | _, _, i + 1, _, .cons _ h, e => VRs.get (i := i) h e
theorem St.step (s : St K C sl rt σ ρ fps G H) (r : RSt K C rt' ρ' fps' G' H') (n : Nx fp G H G' H' fp1) (q : ∀ (i : Nat) (a : Addr), ρ[i]? = some a → ρ'[i]? = some a) : St K C sl rt' σ ρ' fps' G' H' :=
  { toRSt := r
    len := s.len
    slot := fun i x e => by
      obtain ⟨v, h1, h2⟩ := s.slot i x e
      exact ⟨v, h1, h2.up n q⟩ }
theorem Rts.lens : ∀ {rt : Roots} {ρ : List Addr} {fps : List (List Addr)}, Rts K C G H rt ρ fps → ρ.length = rt.length ∧ fps.length = rt.length
  | _, _, _, .nil => ⟨rfl, rfl⟩
  | _, _, _, .cons _ r => by
    obtain ⟨h1, h2⟩ := Rts.lens r
    simp [h1, h2]
theorem Rts.stay (e : Ex G G') : ∀ {rt : Roots} {ρ : List Addr} {fps : List (List Addr)}, Rts K C G H rt ρ fps → (∀ a ∈ fps.flatten, H' a = H a) → Rts K C G' H' rt ρ fps
  | _, _, _, .nil, _ => .nil
  | _, _, _, .cons h r, s => .cons (TR.stay e _ _ _ h fun a ha => s a (by simp [ha])) (Rts.stay e r fun a ha => s a (by simp only [List.flatten_cons, List.mem_append]; exact .inr ha))
theorem Rts.split : ∀ {rt : Roots} {ρ : List Addr} {fps : List (List Addr)} {i : Nat} {t : T}, Rts K C G H rt ρ fps → rt[i]? = some t → ∃ a L fu R, ρ[i]? = some a ∧ TR K C G H (.ref a) t fu ∧ fps.flatten = L ++ (fu ++ R) ∧
    ∀ (G' H' : Hp) (t' : T) (fu' : List Addr), Ex G G' → (∀ a ∈ L ++ R, H' a = H a) → TR K C G' H' (.ref a) t' fu' → ∃ fps', Rts K C G' H' (rt.set i t') ρ fps' ∧ fps'.flatten = L ++ (fu' ++ R)
  | _, _, _, _, _, .nil, e => by simp at e
  | _, _, _, 0, _, .cons (fp := fp) (fps := fps) h r, e => by
    cases Option.some.inj e
    exact ⟨_, [], fp, fps.flatten, rfl, h, rfl, fun G' H' t' fu' eg s h' => ⟨fu' :: fps, Rts.cons h' (Rts.stay eg r fun a ha => s a ha), rfl⟩⟩
  | _, _, _, i + 1, _, .cons (fp := fp) (fps := fps) h r, e => by
    obtain ⟨a, L, fu, R, h1, h2, h3, h4⟩ := Rts.split (i := i) r e
    refine ⟨a, fp ++ L, fu, R, h1, h2, by simp [h3], fun G' H' t' fu' eg s h' => ?_⟩
    obtain ⟨fps', k1, k2⟩ := h4 G' H' t' fu' eg (fun a ha => s a (by rcases List.mem_append.mp ha with z | z <;> simp [z])) h'
    exact ⟨fp :: fps', .cons (TR.stay eg _ _ _ h fun a ha => s a (by simp [ha])) k1, by simp [k2]⟩
theorem Rts.app {t : T} {a : Addr} {fq : List Addr} (h2 : TR K C G H (.ref a) t fq) : ∀ {rt : Roots} {ρ : List Addr} {fps : List (List Addr)}, Rts K C G H rt ρ fps → Rts K C G H (rt ++ [t]) (ρ ++ [a]) (fps ++ [fq])
  | _, _, _, .nil => .cons h2 .nil
  | _, _, _, .cons h r => .cons h (Rts.app h2 r)
/-- the tree at a place, with its name -/
def tatN (rt : Roots) (r : Nat) (p : List Nat) : Option T := (rt[r]?).bind (T.at p)
/-- the tree at a place -/
def tat (rt : Roots) (r : Nat) (p : List Nat) : Option T := (tatN rt r p).map T.strip
def Val.of (r : Nat) (p : List Nat) : T → Val
  | .dat d => .dat d
  | .lst _ => .ref r p
  | .obj _ _ => .ref r p
  | .dct _ _ => .ref r p
  | .nm _ t => Val.of r p t
/-- a place that is told: what stands there, the rest around it -/
theorem RSt.atN (s : RSt K C rt ρ fps G H) {r : Nat} {p : List Nat} {t : T} {a : Addr} (h : tatN rt r p = some t) (ha : ρ[r]? = some a) : ∃ w L fu R, fol H p (.ref a) = some w ∧ TR K C G H w t fu ∧ fps.flatten = L ++ (fu ++ R) ∧
    ∀ (G' H' : Hp) (t' : T) (fu' : List Addr), Ex G G' → (∀ a ∈ L ++ R, H' a = H a) → TR K C G' H' w t' fu' → ∃ fps', Rts K C G' H' (rt.modify r (T.put t' p)) ρ fps' ∧ fps'.flatten = L ++ (fu' ++ R) := by
  unfold tatN at h
  cases q : rt[r]? with
  | none => rw [q] at h; cases h
  | some u =>
    rw [q] at h
    obtain ⟨b, L, fu, R, h1, h2, h3, h4⟩ := s.root.split q
    rw [ha] at h1
    cases h1
    obtain ⟨w, L2, fu2, R2, k1, k2, k3, k4⟩ := h2.node h
    refine ⟨w, L ++ L2, fu2, R2 ++ R, k1, k2, by rw [h3, k3]; simp, fun G' H' t' fu' eg st h' => ?_⟩
    have e : rt.modify r (T.put t' p) = rt.set r (T.put t' p u) := by
      refine List.ext_getElem? fun i => ?_
      rw [List.getElem?_modify, List.getElem?_set]
      by_cases z : r = i
      · subst z
        have := (List.getElem?_eq_some_iff.mp q).1
        have e2 : rt[r] = u := by rw [List.getElem?_eq_getElem this] at q; exact Option.some.inj q
        simp [this, e2]
      · simp [z]
    rw [e]
    obtain ⟨fps', y1, y2⟩ := h4 G' H' (T.put t' p u) (L2 ++ (fu' ++ R2)) eg (fun b hb => st b (by rcases List.mem_append.mp hb with y | y <;> simp [y])) (k4 G' H' t' fu' eg (fun b hb => st b (by rcases List.mem_append.mp hb with y | y <;> simp [y])) h')
    exact ⟨fps', y1, by rw [y2]; simp⟩
theorem RSt.at (s : RSt K C rt ρ fps G H) {r : Nat} {p : List Nat} {t : T} {a : Addr} (h : tat rt r p = some t) (ha : ρ[r]? = some a) : ∃ w L fu R, fol H p (.ref a) = some w ∧ TR K C G H w t fu ∧ fps.flatten = L ++ (fu ++ R) ∧
    ∀ (G' H' : Hp) (t' : T) (fu' : List Addr), Ex G G' → (∀ a ∈ L ++ R, H' a = H a) → TR K C G' H' w t' fu' → ∃ fps', Rts K C G' H' (rt.modify r (T.put t' p)) ρ fps' ∧ fps'.flatten = L ++ (fu' ++ R) := by
  unfold tat at h
  obtain ⟨t0, h0, rfl⟩ := Option.map_eq_some_iff.mp h
  obtain ⟨w, L, fu, R, h1, h2, h3, h4⟩ := s.atN h0 ha
  exact ⟨w, L, fu, R, h1, h2.strip, h3, h4⟩
theorem VR.ofN {r : Nat} {p : List Nat} {v : V} {a : Addr} (h1 : ρ[r]? = some a) (h2 : fol H p (.ref a) = some v) (hp : p = []) : ∀ {t : T} {fu : List Addr}, TR K C G H v t fu → VR K C G H ρ (Val.of r p t) v
  | .dat d, _, h => by
    cases h with
    | dat q => exact q
  | .lst ts, _, h => by
    cases h with
    | lst h _ => exact ⟨a, h1, h2, ⟨_, rfl, .inl ⟨_, h⟩⟩, hp⟩
  | .obj c ts, _, h => by
    cases h with
    | obj h _ _ => exact ⟨a, h1, h2, ⟨_, rfl, .inr (.inl ⟨_, _, _, h⟩)⟩, hp⟩
  | .dct c ts, _, h => by
    cases h with
    | dct h _ _ => exact ⟨a, h1, h2, ⟨_, rfl, .inr (.inr ⟨_, h⟩)⟩, hp⟩
  | .nm _ t, _, h => by
    cases h with
    | nm h => exact VR.ofN h1 h2 hp (t := t) h
/-- a value that is a place -/
theorem RSt.val (s : RSt K C rt ρ fps G H) {r : Nat} {p : List Nat} {t : T} {v : V} (h : tat rt r p = some t) (hv : VR K C G H ρ (.ref r p) v) : VR K C G H ρ (Val.of r p t) v ∧ ∃ fu, TR K C G H v t fu ∧ ∀ a ∈ fu, a ∈ fps.flatten := by
  obtain ⟨a, h1, h2, h3⟩ := hv
  obtain ⟨w, L, fu, R, k1, k2, k3, _⟩ := s.at h h1
  rw [h2] at k1
  cases k1
  exact ⟨VR.ofN h1 h2 h3.2 k2, fu, k2, fun b hb => by rw [k3]; simp [hb]⟩

/-! ### readings -/
def Pre (ρ ρ' : List Addr) : Prop := ∀ (i : Nat) (a : Addr), ρ[i]? = some a → ρ'[i]? = some a
theorem Pre.refl (ρ : List Addr) : Pre ρ ρ := fun _ _ h => h
theorem Pre.trans {ρ ρ1 ρ2 : List Addr} (a : Pre ρ ρ1) (b : Pre ρ1 ρ2) : Pre ρ ρ2 := fun i x h => b i x (a i x h)
theorem Pre.app (ρ more : List Addr) : Pre ρ (ρ ++ more) := fun i a h => by
  rw [List.getElem?_append_left (List.getElem?_eq_some_iff.mp h).1]
  exact h
/-- what is wanted of an error, by its class, its dict, the slots and the heap -/
abbrev UX := Value → Option Addr → L2.St → Hp → Prop
/-- an error as it leaves -/
def XR (K : PySem.W.Frag) (C : Cs) (H0 G H : Hp) (x : Exn) (cls : Value) (d : Option Addr) : Prop := cls = .ref (C.at_ x.c) ∧ ∃ dd fs, d = some dd ∧ H0 dd = none ∧ H dd = some (.xd fs) ∧ fs.map Prod.fst = (C.ly x.c).take fs.length ∧ DRs K C G (fs.map Prod.snd) x.ds
/-- what is wanted of an error -/
def Xf (K : PySem.W.Frag) (C : Cs) (U : UX) (ρ : List Addr) (fps : List (List Addr)) (G H : Hp) (ex : Exn → Slots → Roots → Prop) : Prop := ∀ x sl' rt' σ' ρ' fps' G' H' cls d, St K C sl' rt' σ' ρ' fps' G' H' → Nx fps.flatten G H G' H' fps'.flatten → Pre ρ ρ' → XR K C H G' H' x cls d → ex x sl' rt' → U cls d σ' H'
theorem XR.early {H0 : Hp} {x : Exn} {cls : Value} {d : Option Addr} (n : ∀ l, H1 l = none → H0 l = none) (h : XR K C H1 G' H' x cls d) : XR K C H0 G' H' x cls d := by
  obtain ⟨h1, dd, fs, h2, h3, h4⟩ := h
  exact ⟨h1, dd, fs, h2, n _ h3, h4⟩
theorem Xf.later {U : UX} {ex : Exn → Slots → Roots → Prop} {ρ1 : List Addr} {fps1 : List (List Addr)} (f : Xf K C U ρ fps G H ex) (n : Nx fps.flatten G H G1 H1 fps1.flatten) (p : Pre ρ ρ1) : Xf K C U ρ1 fps1 G1 H1 ex :=
  fun x sl' rt' σ' ρ' fps' G' H' cls d s n' p' xr => f x sl' rt' σ' ρ' fps' G' H' cls d s (n.trans n') (p.trans p') (xr.early n.dom)
theorem Xf.no {U : UX} : Xf K C U ρ fps G H fun _ _ _ => False := fun _ _ _ _ _ _ _ _ _ _ _ _ _ _ h => h.elim
/-- the slots, and what is wanted of an error -/
structure Cxt where
  sl : Slots
  ex : Exn → Slots → Roots → Prop
abbrev WE := Cxt → Roots → (Val → Roots → Prop) → Prop
abbrev WT := Cxt → Roots → (Bool → Roots → Prop) → Prop
abbrev WA := Cxt → Roots → (List Val → Roots → Prop) → Prop
abbrev WO := Cxt → Roots → (T → Roots → Prop) → Prop
variable (K C)
variable (U : UX)
def tE (w : WE) : TE := fun σ H Q => ∃ sl rt ρ fps G k, St K C sl.sl rt σ ρ fps G H ∧ Xf K C U ρ fps G H sl.ex ∧ w sl rt k ∧ ∀ x rt' fps' G' H' v, RSt K C rt' ρ fps' G' H' → Nx fps.flatten G H G' H' fps'.flatten → VR K C G' H' ρ x v → k x rt' → Q v H'
def tT (w : WT) : TT := fun σ H Q => ∃ sl rt ρ fps G k, St K C sl.sl rt σ ρ fps G H ∧ Xf K C U ρ fps G H sl.ex ∧ w sl rt k ∧ ∀ b rt' fps' G' H', RSt K C rt' ρ fps' G' H' → Nx fps.flatten G H G' H' fps'.flatten → k b rt' → Q b H'
def tA (w : WA) : TA := fun σ H Q => ∃ sl rt ρ fps G k, St K C sl.sl rt σ ρ fps G H ∧ Xf K C U ρ fps G H sl.ex ∧ w sl rt k ∧ ∀ xs rt' fps' G' H' vs, RSt K C rt' ρ fps' G' H' → Nx fps.flatten G H G' H' fps'.flatten → VRs K C G' H' ρ xs vs → k xs rt' → Q vs H'
/-- a new tree, owned by nobody yet -/
structure Own (fps : List (List Addr)) (G H : Hp) (t : T) (v : V) (fp : List Addr) : Prop where
  tr : TR K C G H v t fp
  nd : fp.Nodup
  ap : ∀ a ∈ fp, a ∉ fps.flatten
  fr : ∀ a ∈ fp, G a = none
def tO (w : WO) : TE := fun σ H Q => ∃ sl rt ρ fps G k, St K C sl.sl rt σ ρ fps G H ∧ Xf K C U ρ fps G H sl.ex ∧ w sl rt k ∧ ∀ t rt' fps' fp G' H' v, RSt K C rt' ρ fps' G' H' → Nx fps.flatten G H G' H' fps'.flatten → Own K C fps' G' H' t v fp → (∀ a ∈ fp, a ∈ fps.flatten ∨ H a = none) → k t rt' → Q v H'
variable {K C}
variable {U}

theorem pe_imp {X : Cx} {e : Expr} {t t' : TE} (h : PE X e t) (i : ∀ σ H Q, t' σ H Q → t σ H Q) : PE X e t' := ⟨fun pins s σ H Q I q => h.run pins s σ H Q I (i σ H Q q)⟩
theorem pt_imp {X : Cx} {e : Expr} {t t' : TT} (h : PT X e t) (i : ∀ σ H Q, t' σ H Q → t σ H Q) : PT X e t' := ⟨fun pins s σ H Q I q => h.run pins s σ H Q I (i σ H Q q)⟩
theorem pw_imp {X : Cx} {e : Expr} {t t' : TT} (h : PW X e t) (i : ∀ σ H Q, t' σ H Q → t σ H Q) : PW X e t' := ⟨fun wh pins s σ H Q I q => h.run wh pins s σ H Q I (i σ H Q q)⟩
theorem pa_imp {X : Cx} {e : List Expr} {t t' : TA} (h : PA X e t) (i : ∀ σ H Q, t' σ H Q → t σ H Q) : PA X e t' := ⟨fun pos pins s σ H Q I q => h.run pos pins s σ H Q I (i σ H Q q)⟩

/-! names and constants -/
def wVar (i : Nat) : WE := fun sl rt k => match sl.sl[i]? with
  | some (some (.dat d)) => k (.dat d) rt
  | some (some (.ref r p)) => match tat rt r p with
    | some t => k (Val.of r p t) rt
    | none => False
  | _ => False
theorem e_var {i : Nat} : ∀ σ H Q, tE K C U (wVar i) σ H Q → tVar i σ H Q := fun σ H Q ⟨sl, rt, ρ, fps, G, k, s, xf, w, q⟩ => by
  unfold wVar at w
  split at w
  · rename_i d e
    obtain ⟨v, h1, h2⟩ := s.slot i _ e
    exact ⟨v, h1, q _ rt fps G H v s.toRSt (Nx.refl _ G H) h2 w⟩
  · rename_i r p e
    obtain ⟨v, h1, h2⟩ := s.slot i _ e
    split at w
    · rename_i t ht
      exact ⟨v, h1, q _ rt fps G H v s.toRSt (Nx.refl _ G H) (s.toRSt.val ht h2).1 w⟩
    · exact w.elim
  · exact w.elim
def wC (d : D) : WE := fun _ rt k => k (.dat d) rt
theorem e_c {v : V} {d : D} (h : ∀ G, DR K C G v d) : ∀ σ H Q, tE K C U (wC d) σ H Q → tC v σ H Q := fun σ H Q ⟨sl, rt, ρ, fps, G, k, s, xf, w, q⟩ => q (.dat d) rt fps G H v s.toRSt (Nx.refl _ G H) (h G) w
theorem we_int {X : Cx} {i : Int} {j pos} : PE X (.Constant (.int i) j pos) (tE K C U (wC (.int i))) := pe_imp pe_int (e_c fun _ => .int i)
theorem we_bl {X : Cx} {i : Bool} {j pos} : PE X (.Constant (.bool i) j pos) (tE K C U (wC (.bool i))) := pe_imp pe_bl (e_c fun _ => .bool i)
theorem we_str {X : Cx} {i : Str} {j pos} : PE X (.Constant (.str i) j pos) (tE K C U (wC (.str i))) := pe_imp pe_str (e_c fun _ => .str i)
theorem we_non {X : Cx} {j pos} : PE X (.Constant .none j pos) (tE K C U (wC .non)) := pe_imp pe_non (e_c fun _ => .non)
theorem we_var {X : Cx} {e : Expr} {i : Nat} (h : PE X e (tVar i)) : PE X e (tE K C U (wVar i)) := pe_imp h e_var
theorem we_c {X : Cx} {e : Expr} {v : V} {d : D} (h : PE X e (tC v)) (hd : ∀ G, DR K C G v d) : PE X e (tE K C U (wC d)) := pe_imp h (e_c hd)

/-! operations on values that make nothing -/
abbrev Sem2 := Val → Val → Roots → (D → Prop) → Prop
def wBin (f : Sem2) (wa wb : WE) : WE := fun sl rt k => wa sl rt fun x rt1 => wb sl rt1 fun y rt2 => f x y rt2 fun d => k (.dat d) rt2
def S2 (K : PySem.W.Frag) (C : Cs) (f : Sem2) (r : R2) : Prop := ∀ rt ρ fps G H x y v u, RSt K C rt ρ fps G H → VR K C G H ρ x v → VR K C G H ρ y u → ∀ (k : D → Prop) (Q : VK), f x y rt k → (∀ d w, k d → DR K C G w d → Q w H) → r v u H Q
theorem e_bin {f : Sem2} {r : R2} {wa wb : WE} (h : S2 K C f r) : ∀ σ H Q, tE K C U (wBin f wa wb) σ H Q → tOp r (tE K C U wa) (tE K C U wb) σ H Q := fun σ H Q ⟨sl, rt, ρ, fps, G, k, s, xf, w, q⟩ =>
  ⟨sl, rt, ρ, fps, G, _, s, xf, w, fun x rt1 fps1 G1 H1 v r1 n1 v1 w1 => ⟨sl, rt1, ρ, fps1, G1, _, s.step r1 n1 fun _ _ e => e, xf.later n1 (Pre.refl _), w1, fun y rt2 fps2 G2 H2 u r2 n2 v2 w2 =>
    h rt2 ρ fps2 G2 H2 x y v u r2 (v1.up n2 fun _ _ e => e) v2 _ Q w2 fun d w' kd dr => q (.dat d) rt2 fps2 G2 H2 w' r2 (n1.trans n2) dr kd⟩⟩
theorem OpR.or' {X : Cx} {f : Value → Value → Sem Value} {r r' : R2} (h : OpR X f r) (h' : OpR X f r') : OpR X f (fun x y H Q => r x y H Q ∨ r' x y H Q) := fun pins s σ H x y v u Q I rx ry q => q.elim (h pins s σ H x y v u Q I rx ry) (h' pins s σ H x y v u Q I rx ry)
theorem S2.l {f : Sem2} {r r' : R2} (h : S2 K C f r) : S2 K C f (fun x y H Q => r x y H Q ∨ r' x y H Q) := fun rt ρ fps G H x y v u s a b k Q w q => .inl (h rt ρ fps G H x y v u s a b k Q w q)
def sInt (c : Int → Int → Prop) (g : Int → Int → D) : Sem2 := fun x y _ k => match x, y with
  | .dat (.int i), .dat (.int j) => c i j ∧ k (g i j)
  | _, _ => False
def sInt0 (g : Int → Int → D) : Sem2 := fun x y _ k => match x, y with
  | .dat (.int i), .dat (.int j) => k (g i j)
  | _, _ => False
theorem s_int {c : Int → Int → Prop} {g : Int → Int → V} {gd : Int → Int → D} (h : ∀ G i j, DR K C G (g i j) (gd i j)) : S2 K C (sInt c gd) (rI c g) := fun rt ρ fps G H x y v u s a b k Q w q => by
  unfold sInt at w
  split at w
  · cases a
    cases b
    exact ⟨_, _, rfl, rfl, w.1, q _ _ w.2 (h G _ _)⟩
  · exact w.elim
theorem s_int0 {g : Int → Int → V} {gd : Int → Int → D} (h : ∀ G i j, DR K C G (g i j) (gd i j)) : S2 K C (sInt0 gd) (rI0 g) := fun rt ρ fps G H x y v u s a b k Q w q => by
  unfold sInt0 at w
  split at w
  · cases a
    cases b
    exact ⟨_, _, rfl, rfl, q _ _ w (h G _ _)⟩
  · exact w.elim
def sAdd : Sem2 := fun x y _ k => match x, y with
  | .dat (.int i), .dat (.int j) => k (.int (i + j))
  | .dat (.str i), .dat (.str j) => i.length + j.length ≤ sizeLine ∧ k (.str (i ++ j))
  | _, _ => False
def rAdd2 : R2 := fun x y H Q => rI0 (fun i j => .int (i + j)) x y H Q ∨ ∃ i j, x = .str i ∧ y = .str j ∧ i.length + j.length ≤ sizeLine ∧ Q (.str (i ++ j)) H
theorem s_add : S2 K C sAdd rAdd2 := fun rt ρ fps G H x y v u s a b k Q w q => by
  unfold sAdd at w
  split at w
  · cases a
    cases b
    exact .inl ⟨_, _, rfl, rfl, q _ _ w (.int _)⟩
  · cases a
    cases b
    exact .inr ⟨_, _, rfl, rfl, w.1, q _ _ w.2 (.str _)⟩
  · exact w.elim
section
variable {X : Cx} {a b : Expr} {wa wb : WE} {pos : Pos}
abbrev wAdd := wBin sAdd
abbrev wSub := wBin (sInt0 fun i j => .int (i - j))
abbrev wMul := wBin (sInt CMul fun i j => .int (i * j))
abbrev wDiv := wBin (sInt CDiv fun i j => .int (i / j))
abbrev wMod := wBin (sInt (fun _ j => 0 < j) fun i j => .int (i % j))
abbrev wPow := wBin (sInt CPow fun i j => .int (i ^ j.toNat))
abbrev wShl := wBin (sInt CPow fun i j => .int (i * 2 ^ j.toNat))
abbrev wShr := wBin (sInt (fun _ j => 0 ≤ j) fun i j => .int (i / 2 ^ j.toNat))
abbrev wAnd := wBin (sInt0 fun i j => .int (Builtin.bitAnd i j))
abbrev wOr := wBin (sInt0 fun i j => .int (Builtin.bitOr i j))
abbrev wXor := wBin (sInt0 fun i j => .int (Builtin.bitXor i j))
theorem we_add (ha : PE X a (tE K C U wa)) (hb : PE X b (tE K C U wb)) : PE X (.BinOp a .Add b pos) (tE K C U (wAdd wa wb)) := pe_imp (pe_op (OpR.or' op_add op_add_str) ha hb) (e_bin s_add)
theorem we_sub (ha : PE X a (tE K C U wa)) (hb : PE X b (tE K C U wb)) : PE X (.BinOp a .Sub b pos) (tE K C U (wSub wa wb)) := pe_imp (pe_op op_sub ha hb) (e_bin (s_int0 fun _ _ _ => .int _))
theorem we_mul (ha : PE X a (tE K C U wa)) (hb : PE X b (tE K C U wb)) : PE X (.BinOp a .Mult b pos) (tE K C U (wMul wa wb)) := pe_imp (pe_op op_mul ha hb) (e_bin (s_int fun _ _ _ => .int _))
theorem we_fdiv (ha : PE X a (tE K C U wa)) (hb : PE X b (tE K C U wb)) : PE X (.BinOp a .FloorDiv b pos) (tE K C U (wDiv wa wb)) := pe_imp (pe_op op_fdiv ha hb) (e_bin (s_int fun _ _ _ => .int _))
theorem we_mod (ha : PE X a (tE K C U wa)) (hb : PE X b (tE K C U wb)) : PE X (.BinOp a .Mod b pos) (tE K C U (wMod wa wb)) := pe_imp (pe_op op_mod ha hb) (e_bin (s_int fun _ _ _ => .int _))
theorem we_pow (ha : PE X a (tE K C U wa)) (hb : PE X b (tE K C U wb)) : PE X (.BinOp a .Pow b pos) (tE K C U (wPow wa wb)) := pe_imp (pe_op op_pow ha hb) (e_bin (s_int fun _ _ _ => .int _))
theorem we_shl (ha : PE X a (tE K C U wa)) (hb : PE X b (tE K C U wb)) : PE X (.BinOp a .LShift b pos) (tE K C U (wShl wa wb)) := pe_imp (pe_op op_shl ha hb) (e_bin (s_int fun _ _ _ => .int _))
theorem we_shr (ha : PE X a (tE K C U wa)) (hb : PE X b (tE K C U wb)) : PE X (.BinOp a .RShift b pos) (tE K C U (wShr wa wb)) := pe_imp (pe_op op_shr ha hb) (e_bin (s_int fun _ _ _ => .int _))
theorem we_and (ha : PE X a (tE K C U wa)) (hb : PE X b (tE K C U wb)) : PE X (.BinOp a .BitAnd b pos) (tE K C U (wAnd wa wb)) := pe_imp (pe_op op_and ha hb) (e_bin (s_int0 fun _ _ _ => .int _))
theorem we_or (ha : PE X a (tE K C U wa)) (hb : PE X b (tE K C U wb)) : PE X (.BinOp a .BitOr b pos) (tE K C U (wOr wa wb)) := pe_imp (pe_op op_or ha hb) (e_bin (s_int0 fun _ _ _ => .int _))
theorem we_xor (ha : PE X a (tE K C U wa)) (hb : PE X b (tE K C U wb)) : PE X (.BinOp a .BitXor b pos) (tE K C U (wXor wa wb)) := pe_imp (pe_op op_xor ha hb) (e_bin (s_int0 fun _ _ _ => .int _))
end
end
end Wv
end

section
set_option Elab.async false
set_option linter.all false
set_option maxRecDepth 100000
set_option maxHeartbeats 4000000
namespace Wv
open PySem PySem.Spec PyProof.Rows L2 Evl
section
variable {K : PySem.W.Frag} {C : Cs} {U : UX} {G H G' H' G1 H1 G2 H2 : Hp} {sl : Slots} {rt rt' : Roots} {σ : L2.St} {ρ ρ' : List Addr} {fps fps' : List (List Addr)}
theorem fol_snoc (p : List Nat) (j : Nat) : ∀ v, fol H (p ++ [j]) v = (fol H p v).bind (fol H [j]) := by
  induction p with
  | nil => exact fun v => rfl
  | cons i p ih =>
    intro v
    cases v with
    | ref a =>
      show (match H a with | some (.lst xs) => (xs[i]?).bind (fol H (p ++ [j])) | some (.ins _ _ fs) => ((fs.map Prod.snd)[i]?).bind (fol H (p ++ [j])) | some (.dK kvs) => ((kvs.map Prod.snd)[i]?).bind (fol H (p ++ [j])) | _ => none) = (match H a with | some (.lst xs) => (xs[i]?).bind (fol H p) | some (.ins _ _ fs) => ((fs.map Prod.snd)[i]?).bind (fol H p) | some (.dK kvs) => ((kvs.map Prod.snd)[i]?).bind (fol H p) | _ => none).bind (fol H [j])
      split
      · rename_i xs _
        cases xs[i]? with
        | none => rfl
        | some w => exact ih w
      · rename_i fs _
        cases (fs.map Prod.snd)[i]? with
        | none => rfl
        | some w => exact ih w
      · rename_i fs _
        cases (fs.map Prod.snd)[i]? with
        | none => rfl
        | some w => exact ih w
      · rfl
    | _ => rfl
theorem TRs.get {ts : List T} {vs : List V} {fp : List Addr} {i : Nat} {t : T} (h : TRs K C G H vs ts fp) (e : ts[i]? = some t) : ∃ v fu, vs[i]? = some v ∧ TR K C G H v t fu ∧ ∀ a ∈ fu, a ∈ fp := by
  obtain ⟨v, L, fu, R, h1, h2, h3, _⟩ := h.split e
  exact ⟨v, fu, h1, h2, fun a ha => by rw [h3]; simp [ha]⟩
theorem TR.nodeB {v : V} : ∀ {t : T} {fu : List Addr}, TR K C G H v t fu → t.isD = false → NodeV H v
  | .dat d, _, _, n => by cases n
  | .lst ts, _, h, _ => by
    cases h with
    | lst h _ => exact ⟨_, rfl, .inl ⟨_, h⟩⟩
  | .obj c ts, _, h, _ => by
    cases h with
    | obj h _ _ => exact ⟨_, rfl, .inr (.inl ⟨_, _, _, h⟩)⟩
  | .dct c ts, _, h, _ => by
    cases h with
    | dct h _ _ => exact ⟨_, rfl, .inr (.inr ⟨_, h⟩)⟩
  | .nm _ t, _, h, n => by
    cases h with
    | nm h => exact TR.nodeB (t := t) h n
theorem T.isD_of : ∀ {t : T}, (∀ d, t.strip ≠ .dat d) → t.isD = false
  | .dat d, n => absurd rfl (n d)
  | .lst _, _ => rfl
  | .obj _ _, _ => rfl
  | .dct _ _, _ => rfl
  | .nm _ t, n => T.isD_of (t := t) n
theorem TR.nodeV {v : V} {t : T} {fu : List Addr} (h : TR K C G H v t fu) (n : ∀ d, t.strip ≠ .dat d) : NodeV H v := h.nodeB (T.isD_of n)
theorem VR.of {r : Nat} {p : List Nat} {t : T} {v : V} {a : Addr} {fu : List Addr} (h1 : ρ[r]? = some a) (h2 : fol H p (.ref a) = some v) (h : TR K C G H v t fu) (hp : p = []) : VR K C G H ρ (Val.of r p t) v := VR.ofN h1 h2 hp h
theorem VR.ofD {d : D} {v : V} {fu : List Addr} (h : TR K C G H v (.dat d) fu) : VR K C G H ρ (.dat d) v := by
  cases h with
  | dat q => exact q
/-- what a place is really -/
theorem RSt.get (s : RSt K C rt ρ fps G H) {r : Nat} {p : List Nat} {t : T} {v : V} (h : tat rt r p = some t) (hv : VR K C G H ρ (.ref r p) v) : ∃ a fu, ρ[r]? = some a ∧ fol H p (.ref a) = some v ∧ TR K C G H v t fu ∧ ∀ b ∈ fu, b ∈ fps.flatten := by
  obtain ⟨a, h1, h2, h3⟩ := hv
  obtain ⟨w, L, fu, R, k1, k2, k3, _⟩ := s.at h h1
  rw [h2] at k1
  cases k1
  exact ⟨a, fu, h1, h2, k2, fun b hb => by rw [k3]; simp [hb]⟩
theorem ints_dat {ns : List Int} {vs : List V} (h : DRs K C G vs (ns.map .int)) : vs = ns.map V.int := DRs.ints h
theorem TRs.dats : ∀ {ds : List D} {vs : List V} {fp : List Addr}, TRs K C G H vs (ds.map .dat) fp → DRs K C G vs ds ∧ fp = []
  | [], _, _, .nil => ⟨.nil, rfl⟩
  | d :: ds, _, _, .cons h r => by
    obtain ⟨h1, h2⟩ := TRs.dats (ds := ds) r
    cases h with
    | dat h => exact ⟨.cons h h1, by rw [h2]; rfl⟩
theorem DRs.trs : ∀ {ds : List D} {vs : List V}, DRs K C G vs ds → TRs K C G H vs (ds.map .dat) []
  | [], _, .nil => .nil
  | d :: ds, _, .cons h r => TRs.cons (fp := []) (fq := []) (.dat h) (DRs.trs r)
def dats : List T → Option (List D)
  | [] => some []
  | .dat d :: ts => (dats ts).map (d :: ·)
  | _ :: _ => none
theorem dats_map : ∀ {ts : List T} {ds : List D}, dats ts = some ds → ts = ds.map .dat
  | [], _, h => by cases h; rfl
  | .dat d :: ts, ds, h => by
    cases q : dats ts with
    | none => simp [dats, q] at h
    | some es =>
      simp [dats, q] at h
      subst h
      rw [dats_map q]
      rfl
  | .lst _ :: _, _, h => by cases h
  | .obj _ _ :: _, _, h => by cases h
  | .dct _ _ :: _, _, h => by cases h
theorem map_dats : ∀ ds : List D, dats (ds.map .dat) = some ds
  | [] => rfl
  | d :: ds => by
    show (dats (ds.map .dat)).map (d :: ·) = _
    rw [map_dats ds]
    rfl

/-! ### one place -/
def wUn (f : D → (D → Prop) → Prop) (wa : WE) : WE := fun sl rt k => wa sl rt fun x rt1 => match x with
  | .dat d => f d fun e => k (.dat e) rt1
  | _ => False
def S1 (K : PySem.W.Frag) (C : Cs) (f : D → (D → Prop) → Prop) (r : V → Hp → VK → Prop) : Prop := ∀ G H d v, Ex G H → DR K C G v d → ∀ (k : D → Prop) (Q : VK), f d k → (∀ e w, k e → DR K C G w e → Q w H) → r v H Q
theorem e_un {f : D → (D → Prop) → Prop} {r : V → Hp → VK → Prop} {wa : WE} (h : S1 K C f r) : ∀ σ H Q, tE K C U (wUn f wa) σ H Q → tUn r (tE K C U wa) σ H Q := fun σ H Q ⟨sl, rt, ρ, fps, G, k, s, xf, w, q⟩ =>
  ⟨sl, rt, ρ, fps, G, _, s, xf, w, fun x rt1 fps1 G1 H1 v r1 n1 v1 w1 => by
    cases x with
    | dat d => exact h G1 H1 d v r1.sub v1 _ Q w1 fun e w2 ke dr => q (.dat e) rt1 fps1 G1 H1 w2 r1 n1 dr ke
    | ref r p => exact w1.elim⟩
def fNeg : D → (D → Prop) → Prop := fun d k => match d with
  | .int i => k (.int (-i))
  | _ => False
def fNot : D → (D → Prop) → Prop := fun d k => match d with
  | .bool b => k (.bool (!b))
  | _ => False
abbrev wNeg := wUn fNeg
abbrev wNot := wUn fNot
section
variable {X : Cx} {a b c e : Expr} {es rest : List Expr} {wa wb wc : WE} {pos p : Pos}
theorem we_neg (ha : PE X a (tE K C U wa)) : PE X (.UnaryOp .USub a pos) (tE K C U (wNeg wa)) := pe_imp (pe_un un_neg ha) (e_un fun G H d v _ dr k Q w q => by
  unfold fNeg at w
  split at w
  · cases dr
    exact ⟨_, rfl, q _ _ w (.int _)⟩
  · exact w.elim)
theorem we_not (ha : PE X a (tE K C U wa)) : PE X (.UnaryOp .Not a pos) (tE K C U (wNot wa)) := pe_imp (pe_not ha) (e_un fun G H d v _ dr k Q w q => by
  unfold fNot at w
  split at w
  · cases dr
    exact ⟨_, rfl, q _ _ w (.bool _)⟩
  · exact w.elim)

/-! ### comparisons -/
def D.sc : D → D → Option Bool
  | .int i, .int j => some (decide (i = j))
  | .str i, .str j => some (decide (i = j))
  | .bool i, .bool j => some (decide (i = j))
  | .non, .non => some true
  | .non, .int _ => some false
  | .int _, .non => some false
  | .non, .bool _ => some false
  | .bool _, .non => some false
  | .non, .str _ => some false
  | .str _, .non => some false
  | .int _, .str _ => some false
  | .str _, .int _ => some false
  | .bool _, .str _ => some false
  | .str _, .bool _ => some false
  | _, _ => none
theorem sc_ok {x y : D} {v u : V} {b : Bool} (h : D.sc x y = some b) (hx : DR K C G v x) (hy : DR K C G u y) : scal v u = true ∧ decide (v = u) = b := by
  unfold D.sc at h
  split at h
  · cases hx; cases hy; cases h
    exact ⟨rfl, decide_eq_decide.mpr ⟨fun z => V.int.inj z, fun z => by rw [z]⟩⟩
  · cases hx; cases hy; cases h
    exact ⟨rfl, decide_eq_decide.mpr ⟨fun z => V.str.inj z, fun z => by rw [z]⟩⟩
  · cases hx; cases hy; cases h
    exact ⟨rfl, decide_eq_decide.mpr ⟨fun z => V.bl.inj z, fun z => by rw [z]⟩⟩
  all_goals first
    | (cases hx; cases hy; cases h; exact ⟨rfl, rfl⟩)
    | cases h
mutual
def D.py : D → Option PyData
  | .non => some .none
  | .bool b => some (.bool b)
  | .int i => some (.int i)
  | .str s => some (.str s)
  | .lst ds => (D.pys ds).map .list
  | .ro ds => (D.pys ds).map .list
  | .fzl _ => none
  | .tup ds => (D.pys ds).map .tuple
  | .tpx ds => (D.pys ds).map .tuple
  | .obj _ _ => none
  | .dct _ _ => none
  | .fn _ => none
  | .exn _ _ _ _ => none
  | .cst _ => none
  | .any => none
def D.pys : List D → Option (List PyData)
  | [] => some []
  | d :: ds => match d.py, D.pys ds with
    | some x, some xs => some (x :: xs)
    | _, _ => none
end
mutual
theorem DR.py (e : Ex G H) : ∀ (d : D) (v : V) (x : PyData), DR K C G v d → d.py = some x → Dp K H v x
  | .non, _, _, h, q => by cases h; cases q; exact .non
  | .bool b, _, _, h, q => by cases h; cases q; exact .bl b
  | .int b, _, _, h, q => by cases h; cases q; exact .int b
  | .str b, _, _, h, q => by cases h; cases q; exact .str b
  | .lst ds, _, x, h, q => by
    cases h with
    | lst hs r =>
      cases z : D.pys ds with
      | none => simp [D.py, z] at q
      | some xs =>
        simp [D.py, z] at q
        subst q
        exact .lst (sq_of (e _ _ hs)) (DRs.py e ds _ _ r z)
  | .fzl ds, _, x, h, q => by cases q
  | .ro ds, _, x, h, q => by
    cases h with
    | ro hs r =>
      cases z : D.pys ds with
      | none => simp [D.py, z] at q
      | some xs =>
        simp [D.py, z] at q
        subst q
        exact .lst (ex_l e hs) (DRs.py e ds _ _ r z)
  | .tup ds, _, x, h, q => by
    cases h with
    | tup hs r =>
      cases z : D.pys ds with
      | none => simp [D.py, z] at q
      | some xs =>
        simp [D.py, z] at q
        subst q
        exact .tup (ex_t e hs) (DRs.py e ds _ _ r z)
  | .tpx ds, _, x, h, q => by
    cases h with
    | tpx hs _ r =>
      cases z : D.pys ds with
      | none => simp [D.py, z] at q
      | some xs =>
        simp [D.py, z] at q
        subst q
        exact .tup (.inl (.inr ⟨_, e _ _ hs⟩)) (DRs.py e ds _ _ r z)
  | .obj _ _, _, _, _, q => by cases q
  | .dct _ _, _, _, _, q => by cases q
  | .fn _, _, _, _, q => by cases q
  | .exn _ _ _ _, _, _, _, q => by cases q
  | .cst _, _, _, _, q => by cases q
  | .any, _, _, _, q => by cases q
theorem DRs.py (e : Ex G H) : ∀ (ds : List D) (vs : List V) (xs : List PyData), DRs K C G vs ds → D.pys ds = some xs → DpAll K H vs xs
  | [], _, _, h, q => by cases h; cases q; exact .nil
  | d :: ds, _, xs, h, q => by
    cases h with
    | cons h r =>
      cases z1 : d.py with
      | none => simp [D.pys, z1] at q
      | some x =>
        cases z2 : D.pys ds with
        | none => simp [D.pys, z1, z2] at q
        | some ys =>
          simp [D.pys, z1, z2] at q
          subst q
          exact .cons (DR.py e d _ _ h z1) (DRs.py e ds _ _ r z2)
end
/-- ==, of scalars, of data -/
def sEq (neg : Bool) : Sem2 := fun x y _ k => match x, y with
  | .dat dx, .dat dy => match D.sc dx dy with
    | some b => k (.bool (if neg then !b else b))
    | none => ∃ px py, dx.py = some px ∧ dy.py = some py ∧ SeqAt.shaped px = true ∧ SeqAt.shaped py = true ∧ k (.bool (if neg then !PyData.eqv px py else PyData.eqv px py))
  | _, _ => False
theorem s_eq : S2 K C (sEq false) (fun x y H Q => rEq x y H Q ∨ rEqD K x y H Q) := fun rt ρ fps G H x y v u s a b k Q w q => by
  unfold sEq at w
  split at w
  · rename_i dx dy
    split at w
    · rename_i b' e
      obtain ⟨h1, h2⟩ := sc_ok e a b
      exact .inl ⟨h1, by rw [h2]; exact q _ _ w (.bool _)⟩
    · obtain ⟨px, py, h1, h2, h3, h4, w⟩ := w
      exact .inr ⟨px, py, DR.py s.sub _ _ _ a h1, DR.py s.sub _ _ _ b h2, h3, h4, q _ _ w (.bool _)⟩
  · exact w.elim
theorem s_ne : S2 K C (sEq true) (fun x y H Q => rNe x y H Q ∨ rNeD K x y H Q) := fun rt ρ fps G H x y v u s a b k Q w q => by
  unfold sEq at w
  split at w
  · rename_i dx dy
    split at w
    · rename_i b' e
      obtain ⟨h1, h2⟩ := sc_ok e a b
      exact .inl ⟨h1, by rw [h2]; exact q _ _ w (.bool _)⟩
    · obtain ⟨px, py, h1, h2, h3, h4, w⟩ := w
      exact .inr ⟨px, py, DR.py s.sub _ _ _ a h1, DR.py s.sub _ _ _ b h2, h3, h4, q _ _ w (.bool _)⟩
  · exact w.elim
abbrev sLt : Sem2 := sInt0 fun i j => .bool (decide (i < j))
abbrev sLe : Sem2 := sInt0 fun i j => .bool (decide (i ≤ j))
abbrev sGt : Sem2 := sInt0 fun i j => .bool (decide (j < i))
abbrev sGe : Sem2 := sInt0 fun i j => .bool (decide (j ≤ i))
def D.isNon : D → Bool
  | .non => true
  | _ => false
def sIs (neg : Bool) : Sem2 := fun x y _ k => match x, y with
  | .dat (.cst _), _ => False
  | .dat .any, _ => False
  | .dat d, .dat .non => k (.bool (if neg then !d.isNon else d.isNon))
  | .ref _ _, .dat .non => k (.bool neg)
  | _, _ => False
theorem dec_non {v : V} {d : D} (h : DR K C G v d) (n : ∀ c, d ≠ .cst c) (n2 : d ≠ .any) : decide (v = .non) = d.isNon := by
  cases h <;> first | rfl | exact absurd rfl (n _) | exact absurd rfl n2
theorem s_is : S2 K C (sIs false) (fun x y H Q => y = .non ∧ Q (.bl (decide (x = .non))) H) := fun rt ρ fps G H x y v u s a b k Q w q => by
  unfold sIs at w
  split at w
  · exact w.elim
  · exact w.elim
  · cases b
    exact ⟨rfl, by rw [dec_non a (by intro c z; subst z; simp_all) (by intro z; subst z; simp_all)]; exact q _ _ w (.bool _)⟩
  · cases b
    obtain ⟨_, _, _, ⟨_, rfl, _⟩, _⟩ := a
    exact ⟨rfl, q _ _ w (.bool _)⟩
  · exact w.elim
theorem s_isnt : S2 K C (sIs true) (fun x y H Q => y = .non ∧ Q (.bl (!decide (x = .non))) H) := fun rt ρ fps G H x y v u s a b k Q w q => by
  unfold sIs at w
  split at w
  · exact w.elim
  · exact w.elim
  · cases b
    exact ⟨rfl, by rw [dec_non a (by intro c z; subst z; simp_all) (by intro z; subst z; simp_all)]; exact q _ _ w (.bool _)⟩
  · cases b
    obtain ⟨_, _, _, ⟨_, rfl, _⟩, _⟩ := a
    exact ⟨rfl, q _ _ w (.bool _)⟩
  · exact w.elim
end
end
end Wv
end

section
set_option Elab.async false
set_option linter.all false
set_option maxRecDepth 100000
set_option maxHeartbeats 4000000
namespace Wv
open PySem PySem.Spec PyProof.Rows L2 Evl
section
variable {K : PySem.W.Frag} {C : Cs} {U : UX} {G H G' H' G1 H1 G2 H2 : Hp} {sl : Slots} {rt rt' : Roots} {σ : L2.St} {ρ ρ' : List Addr} {fps fps' : List (List Addr)}
variable {X : Cx} {a b c e : Expr} {es rest : List Expr} {wa wb wc : WE} {ta tb : WT} {pos p : Pos}

/-! ### compare as a value, as a test -/
theorem we_cmp {op : CmpOp} {r : R2} {f : Sem2} (ho : OpR X (compareOp op) r) (hs : S2 K C f r) (ha : PE X a (tE K C U wa)) (hb : PE X b (tE K C U wb)) (hm : behindInMarks op b = false) : PE X (.Compare a [op] [b] pos) (tE K C U (wBin f wa wb)) := pe_imp (pe_cmpR ho ha hb hm) (e_bin hs)
def wB (wa : WE) : WT := fun sl rt k => wa sl rt fun x rt1 => match x with
  | .dat (.bool b) => k b rt1
  | _ => False
theorem t_test {w : WE} : ∀ σ H Q, tT K C U (wB w) σ H Q → tE K C U w σ H fun x H' => ∃ k, x = .bl k ∧ Q k H' := fun σ H Q ⟨sl, rt, ρ, fps, G, k, s, xf, w, q⟩ =>
  ⟨sl, rt, ρ, fps, G, _, s, xf, w, fun x rt1 fps1 G1 H1 v r1 n1 v1 w1 => by
    split at w1
    · cases v1
      exact ⟨_, rfl, q _ rt1 fps1 G1 H1 r1 n1 w1⟩
    · exact w1.elim⟩
theorem wt_cmp {op : CmpOp} {r : R2} {f : Sem2} (ho : OpR X (compareOp op) r) (hs : S2 K C f r) (ha : PE X a (tE K C U wa)) (hb : PE X b (tE K C U wb)) (hm : behindInMarks op b = false) : PT X (.Compare a [op] [b] pos) (tT K C U (wB (wBin f wa wb))) :=
  pt_imp (pt_cmpR ho ha hb hm) fun σ H Q h => e_bin hs σ H _ (t_test σ H Q h)
theorem wt_val {w : WE} (h : PE X e (tE K C U w)) (he : ∀ whole, isTrue e X.env whole = (do let v ← whole; standAt e.pos; holding [v] (truthy v)) := by intro _; rfl) : PT X e (tT K C U (wB w)) := pt_imp (pt_val h he) fun σ H Q h => t_test σ H Q h
/-- both, the second without a trace -/
def wAndT (ta tb : WT) : WT := fun sl rt k => ta sl rt fun a rt1 => ∃ b, (a = true → tb sl rt1 fun b' rt2 => b' = b ∧ rt2 = rt1) ∧ k (a && b) rt1
def wOrT (ta tb : WT) : WT := fun sl rt k => ta sl rt fun a rt1 => ∃ b, (a = false → tb sl rt1 fun b' rt2 => b' = b ∧ rt2 = rt1) ∧ k (a || b) rt1
def wNotT (ta : WT) : WT := fun sl rt k => ta sl rt fun a rt1 => k (!a) rt1
theorem t_and : ∀ σ H Q, tT K C U (wAndT ta tb) σ H Q → tAnd (tT K C U ta) (tT K C U tb) σ H Q := fun σ H Q ⟨sl, rt, ρ, fps, G, k, s, xf, w, q⟩ =>
  ⟨sl, rt, ρ, fps, G, _, s, xf, w, fun a rt1 fps1 G1 H1 r1 n1 ⟨b, w1, w2⟩ => by
    cases a with
    | true => exact ⟨sl, rt1, ρ, fps1, G1, _, s.step r1 n1 fun _ _ e => e, xf.later n1 (Pre.refl _), w1 rfl, fun b' rt2 fps2 G2 H2 r2 n2 ⟨e1, e2⟩ => q b' rt2 fps2 G2 H2 r2 (n1.trans n2) (by rw [e1, e2]; exact w2)⟩
    | false => exact q false rt1 fps1 G1 H1 r1 n1 w2⟩
theorem t_or : ∀ σ H Q, tT K C U (wOrT ta tb) σ H Q → tOr (tT K C U ta) (tT K C U tb) σ H Q := fun σ H Q ⟨sl, rt, ρ, fps, G, k, s, xf, w, q⟩ =>
  ⟨sl, rt, ρ, fps, G, _, s, xf, w, fun a rt1 fps1 G1 H1 r1 n1 ⟨b, w1, w2⟩ => by
    cases a with
    | false => exact ⟨sl, rt1, ρ, fps1, G1, _, s.step r1 n1 fun _ _ e => e, xf.later n1 (Pre.refl _), w1 rfl, fun b' rt2 fps2 G2 H2 r2 n2 ⟨e1, e2⟩ => q b' rt2 fps2 G2 H2 r2 (n1.trans n2) (by rw [e1, e2]; exact w2)⟩
    | true => exact q true rt1 fps1 G1 H1 r1 n1 w2⟩
theorem wt_not (ha : PT X a (tT K C U ta)) : PT X (.UnaryOp .Not a pos) (tT K C U (wNotT ta)) := pt_imp (pt_not ha) fun σ H Q ⟨sl, rt, ρ, fps, G, k, s, xf, w, q⟩ => ⟨sl, rt, ρ, fps, G, _, s, xf, w, fun a rt1 fps1 G1 H1 r1 n1 w1 => q _ rt1 fps1 G1 H1 r1 n1 w1⟩
theorem ww_and (ha : PT X a (tT K C U ta)) (hb : PW X (.BoolOp .And (b :: rest) pos) (tT K C U tb)) : PW X (.BoolOp .And (a :: b :: rest) pos) (tT K C U (wAndT ta tb)) := pw_imp (pw_and ha hb) t_and
theorem ww_or (ha : PT X a (tT K C U ta)) (hb : PW X (.BoolOp .Or (b :: rest) pos) (tT K C U tb)) : PW X (.BoolOp .Or (a :: b :: rest) pos) (tT K C U (wOrT ta tb)) := pw_imp (pw_or ha hb) t_or
/-- .. as values -/
def wAndV (wa wb : WE) : WE := fun sl rt k => wa sl rt fun x rt1 => match x with
  | .dat (.bool a) => ∃ b, (a = true → wb sl rt1 fun y rt2 => y = .dat (.bool b) ∧ rt2 = rt1) ∧ k (.dat (.bool (a && b))) rt1
  | _ => False
def wOrV (wa wb : WE) : WE := fun sl rt k => wa sl rt fun x rt1 => match x with
  | .dat (.bool a) => ∃ b, (a = false → wb sl rt1 fun y rt2 => y = .dat (.bool b) ∧ rt2 = rt1) ∧ k (.dat (.bool (a || b))) rt1
  | _ => False
theorem e_andV : ∀ σ H Q, tE K C U (wAndV wa wb) σ H Q → tAndV (tE K C U wa) (tE K C U wb) σ H Q := fun σ H Q ⟨sl, rt, ρ, fps, G, k, s, xf, w, q⟩ =>
  ⟨sl, rt, ρ, fps, G, _, s, xf, w, fun x rt1 fps1 G1 H1 v r1 n1 v1 w1 => by
    split at w1
    · rename_i a
      obtain ⟨b, w1, w2⟩ := w1
      cases v1
      refine ⟨a, rfl, ?_⟩
      cases a with
      | true => exact ⟨sl, rt1, ρ, fps1, G1, _, s.step r1 n1 fun _ _ e => e, xf.later n1 (Pre.refl _), w1 rfl, fun y rt2 fps2 G2 H2 u r2 n2 v2 ⟨e1, e2⟩ => q y rt2 fps2 G2 H2 u r2 (n1.trans n2) v2 (by rw [e1, e2]; exact w2)⟩
      | false => exact q (.dat (.bool false)) rt1 fps1 G1 H1 _ r1 n1 (.bool _) w2
    · exact w1.elim⟩
theorem e_orV : ∀ σ H Q, tE K C U (wOrV wa wb) σ H Q → tOrV (tE K C U wa) (tE K C U wb) σ H Q := fun σ H Q ⟨sl, rt, ρ, fps, G, k, s, xf, w, q⟩ =>
  ⟨sl, rt, ρ, fps, G, _, s, xf, w, fun x rt1 fps1 G1 H1 v r1 n1 v1 w1 => by
    split at w1
    · rename_i a
      obtain ⟨b, w1, w2⟩ := w1
      cases v1
      refine ⟨a, rfl, ?_⟩
      cases a with
      | false => exact ⟨sl, rt1, ρ, fps1, G1, _, s.step r1 n1 fun _ _ e => e, xf.later n1 (Pre.refl _), w1 rfl, fun y rt2 fps2 G2 H2 u r2 n2 v2 ⟨e1, e2⟩ => q y rt2 fps2 G2 H2 u r2 (n1.trans n2) v2 (by rw [e1, e2]; exact w2)⟩
      | true => exact q (.dat (.bool true)) rt1 fps1 G1 H1 _ r1 n1 (.bool _) w2
    · exact w1.elim⟩
theorem we_andV (ha : PE X a (tE K C U wa)) (hb : PE X (.BoolOp .And (b :: rest) pos) (tE K C U wb)) : PE X (.BoolOp .And (a :: b :: rest) pos) (tE K C U (wAndV wa wb)) := pe_imp (pe_and ha hb) e_andV
theorem we_orV (ha : PE X a (tE K C U wa)) (hb : PE X (.BoolOp .Or (b :: rest) pos) (tE K C U wb)) : PE X (.BoolOp .Or (a :: b :: rest) pos) (tE K C U (wOrV wa wb)) := pe_imp (pe_or ha hb) e_orV
/-- a if t else b -/
def wIfE (t : WT) (wa wb : WE) : WE := fun sl rt k => t sl rt fun a rt1 => (a = true → wa sl rt1 k) ∧ (a = false → wb sl rt1 k)
theorem we_ifExp (hc : PT X c (tT K C U ta)) (ha : PE X a (tE K C U wa)) (hb : PE X b (tE K C U wb)) : PE X (.IfExp c a b pos) (tE K C U (wIfE ta wa wb)) := pe_imp (pe_ifExp hc ha hb) fun σ H Q ⟨sl, rt, ρ, fps, G, k, s, xf, w, q⟩ =>
  ⟨sl, rt, ρ, fps, G, _, s, xf, w, fun a rt1 fps1 G1 H1 r1 n1 w1 => by
    cases a with
    | true => exact ⟨sl, rt1, ρ, fps1, G1, k, s.step r1 n1 fun _ _ e => e, xf.later n1 (Pre.refl _), w1.1 rfl, fun x rt2 fps2 G2 H2 v r2 n2 v2 k2 => q x rt2 fps2 G2 H2 v r2 (n1.trans n2) v2 k2⟩
    | false => exact ⟨sl, rt1, ρ, fps1, G1, k, s.step r1 n1 fun _ _ e => e, xf.later n1 (Pre.refl _), w1.2 rfl, fun x rt2 fps2 G2 H2 v r2 n2 v2 k2 => q x rt2 fps2 G2 H2 v r2 (n1.trans n2) v2 k2⟩⟩
/-- a < b < c, the third without a trace -/
def wChain (f g : Sem2) (wa wb wc : WE) : WE := fun sl rt k => wa sl rt fun x rt1 => wb sl rt1 fun y rt2 => f x y rt2 fun d => ∃ p q, d = .bool p ∧ (p = true → wc sl rt2 fun z rt3 => rt3 = rt2 ∧ g y z rt3 fun d' => d' = .bool q) ∧ k (.dat (.bool (p && q))) rt2
theorem e_chain {f g : Sem2} {r r' : R2} (hf : S2 K C f r) (hg : S2 K C g r') : ∀ σ H Q, tE K C U (wChain f g wa wb wc) σ H Q → tChain r r' (tE K C U wa) (tE K C U wb) (tE K C U wc) σ H Q := fun σ H Q ⟨sl, rt, ρ, fps, G, k, s, xf, w, q⟩ =>
  ⟨sl, rt, ρ, fps, G, _, s, xf, w, fun x rt1 fps1 G1 H1 v r1 n1 v1 w1 => ⟨sl, rt1, ρ, fps1, G1, _, s.step r1 n1 fun _ _ e => e, xf.later n1 (Pre.refl _), w1, fun y rt2 fps2 G2 H2 u r2 n2 v2 w2 =>
    hf rt2 ρ fps2 G2 H2 x y v u r2 (v1.up n2 fun _ _ e => e) v2 _ _ w2 fun d w' ⟨p, q', e, w3, w4⟩ dr => by
      subst e
      cases dr
      refine ⟨p, rfl, ?_⟩
      cases p with
      | true => exact ⟨sl, rt2, ρ, fps2, G2, _, (s.step r1 n1 fun _ _ e => e).step r2 n2 fun _ _ e => e, xf.later (n1.trans n2) (Pre.refl _), w3 rfl, fun z rt3 fps3 G3 H3 w5 r3 n3 v3 ⟨e3, k3⟩ =>
          hg rt3 ρ fps3 G3 H3 y z u w5 r3 (v2.up n3 fun _ _ e => e) v3 _ _ k3 fun d' w6 e4 dr' => q (.dat d') rt3 fps3 G3 H3 w6 r3 (n1.trans (n2.trans n3)) dr' (by rw [e3, e4]; exact w4)⟩
      | false => exact q (.dat (.bool false)) rt2 fps2 G2 H2 _ r2 (n1.trans n2) (.bool _) w4⟩⟩
theorem we_chain {op op' : CmpOp} {f g : Sem2} {r r' : R2} (ho : OpR X (compareOp op) r) (ho' : OpR X (compareOp op') r') (hf : S2 K C f r) (hg : S2 K C g r') (ha : PE X a (tE K C U wa)) (hb : PE X b (tE K C U wb)) (hc : PE X c (tE K C U wc))
    (P : PE X (.Compare a [op, op'] [b, c] pos) (tChain r r' (tE K C U wa) (tE K C U wb) (tE K C U wc))) : PE X (.Compare a [op, op'] [b, c] pos) (tE K C U (wChain f g wa wb wc)) := pe_imp P (e_chain hf hg)
theorem wt_chain {op op' : CmpOp} {f g : Sem2} {r r' : R2} (hf : S2 K C f r) (hg : S2 K C g r')
    (P : PT X (.Compare a [op, op'] [b, c] pos) (tTest (tChain r r' (tE K C U wa) (tE K C U wb) (tE K C U wc)))) : PT X (.Compare a [op, op'] [b, c] pos) (tT K C U (wB (wChain f g wa wb wc))) := pt_imp P fun σ H Q h => e_chain hf hg σ H _ (t_test σ H Q h)

/-! ### argument lists -/
def wNil : WA := fun _ rt k => k [] rt
def wCons (w : WE) (r : WA) : WA := fun sl rt k => w sl rt fun x rt1 => r sl rt1 fun xs rt2 => k (x :: xs) rt2
theorem wa_nil : PA X [] (tA K C U wNil) := pa_imp pa_nil fun σ H Q ⟨sl, rt, ρ, fps, G, k, s, xf, w, q⟩ => q [] rt fps G H [] s.toRSt (Nx.refl _ G H) .nil w
theorem wa_cons {w : WE} {r : WA} (h : PE X e (tE K C U w)) (hr : PA X es (tA K C U r)) (hs : starEach (e :: es) X.env = (false, eval e X.env) :: starEach es X.env := by rfl) : PA X (e :: es) (tA K C U (wCons w r)) := pa_imp (pa_cons h hr hs) fun σ H Q ⟨sl, rt, ρ, fps, G, k, s, xf, w, q⟩ =>
  ⟨sl, rt, ρ, fps, G, _, s, xf, w, fun x rt1 fps1 G1 H1 v r1 n1 v1 w1 => ⟨sl, rt1, ρ, fps1, G1, _, s.step r1 n1 fun _ _ e => e, xf.later n1 (Pre.refl _), w1, fun xs rt2 fps2 G2 H2 vs r2 n2 v2 w2 =>
    q _ rt2 fps2 G2 H2 _ r2 (n1.trans n2) (.cons (v1.up n2 fun _ _ e => e) v2) w2⟩⟩
/-- all of them data -/
def datsV : List Val → Option (List D)
  | [] => some []
  | .dat d :: xs => (datsV xs).map (d :: ·)
  | _ :: _ => none
theorem VRs.dats : ∀ {xs : List Val} {vs : List V} {ds : List D}, VRs K C G H ρ xs vs → datsV xs = some ds → DRs K C G vs ds
  | [], _, _, .nil, e => by cases e; exact .nil
  | .dat d :: xs, _, ds, .cons h r, e => by
    cases q : datsV xs with
    | none => simp [datsV, q] at e
    | some es =>
      simp [datsV, q] at e
      subst e
      exact .cons h (VRs.dats r q)
  | .ref _ _ :: _, _, _, _, e => by cases e
/-- a new object laid as data -/
theorem RSt.laid (s : RSt K C rt ρ fps G H) {p : Addr} {o : HO} (hp : H p = none) : RSt K C rt ρ fps (upd G p o) (upd H p o) := by
  have gp : G p = none := fresh_back s.sub hp
  have ne : ∀ a ∈ fps.flatten, a ≠ p := fun a ha z => by
    obtain ⟨l, h1, h2⟩ := List.mem_flatten.mp ha
    subst z
    -- an owned object is in the heap
    have : ∀ {rt : Roots} {ρ : List Addr} {fps : List (List Addr)}, Rts K C G H rt ρ fps → ∀ a ∈ fps.flatten, H a ≠ none := by
      intro rt ρ fps r
      have tr : ∀ (t : T) (v : V) (fp : List Addr), TR K C G H v t fp → ∀ a ∈ fp, H a ≠ none := by
        intro t v fp h
        refine TR.rec (motive_1 := fun v t fp _ => ∀ a ∈ fp, H a ≠ none) (motive_2 := fun vs ts fp _ => ∀ a ∈ fp, H a ≠ none) (fun _ _ z => nomatch z) (fun h _ ih a ha => ?_) (fun h _ _ ih a ha => ?_) (fun h _ _ ih a ha => ?_) (fun _ ih => ih) (fun _ z => nomatch z) (fun _ _ i1 i2 a ha => ?_) h
        · rcases List.mem_cons.mp ha with z | z
          · rw [z, h]; exact fun q => nomatch q
          · exact ih a z
        · rcases List.mem_cons.mp ha with z | z
          · rw [z, h]; exact fun q => nomatch q
          · exact ih a z
        · rcases List.mem_cons.mp ha with z | z
          · rw [z, h]; exact fun q => nomatch q
          · exact ih a z
        · rcases List.mem_append.mp ha with z | z
          · exact i1 a z
          · exact i2 a z
      induction r with
      | nil => exact fun _ z => nomatch z
      | cons h _ ih =>
        intro a ha
        rw [List.flatten_cons] at ha
        rcases List.mem_append.mp ha with z | z
        · exact tr _ _ _ h a z
        · exact ih a z
    exact this s.root a ha hp
  refine ⟨fun a u e => ?_, s.root.stay (Ex.new gp) (fun a ha => upd_ne (ne a ha)), s.nd, fun a ha => by rw [upd_ne (ne a ha)]; exact s.fr a ha⟩
  by_cases h : a = p
  · rw [h, upd_same] at e ⊢
    exact e
  · rw [upd_ne h] at e ⊢
    exact s.sub a u e
theorem idn_new {p : Addr} {o : HO} (hp : H p = none) : Idn H (upd H p o) := by
  have up : ∀ a, H a ≠ none → upd H p o a = H a := fun a h => upd_ne fun z => h (by rw [z]; exact hp)
  refine Idn.of (fun w hw => ?_)
  · obtain ⟨a, rfl, h⟩ := hw
    refine ⟨a, rfl, ?_⟩
    rcases h with ⟨xs, h⟩ | ⟨c, dx, fs, h⟩ | ⟨kvs, h⟩
    · exact .inl ⟨xs, by rw [up a (by rw [h]; exact fun z => nomatch z)]; exact h⟩
    · exact .inr (.inl ⟨c, dx, fs, by rw [up a (by rw [h]; exact fun z => nomatch z)]; exact h⟩)
    · exact .inr (.inr ⟨kvs, by rw [up a (by rw [h]; exact fun z => nomatch z)]; exact h⟩)
theorem upd_none {p l : Addr} {o : HO} (h : upd H p o l = none) : H l = none := by
  by_cases e : l = p
  · rw [e, upd_same] at h
    cases h
  · rw [upd_ne e] at h
    exact h
theorem Nx.laid (s : Ex G H) {p : Addr} {o : HO} (hp : H p = none) (fp : List Addr) : Nx fp G H (upd G p o) (upd H p o) fp where
  g := Ex.new (fresh_back s hp)
  keep := fun l u h _ => by
    have ne : l ≠ p := fun z => by rw [z, hp] at h; cases h
    exact ⟨by rw [upd_ne ne]; exact h, fun g => by rw [upd_ne ne]; exact g⟩
  dom := fun l h => upd_none h
  new := fun _ h => .inl h
  idn := idn_new hp
/-- (a, b): data -/
def wTup (w : WA) : WE := fun sl rt k => w sl rt fun xs rt1 => match datsV xs with
  | some ds => ds.length ≤ 1000 ∧ k (.dat (.tup ds)) rt1
  | none => False
theorem sz_le {n m : Nat} (h : n ≤ m) (hm : m ≤ 100000 := by decide) : n ≤ sizeLine := sz_of (Nat.le_trans h hm)
theorem we_tup {x1} {w : WA} (h : PA X es (tA K C U w)) : PE X (.Tuple es x1 pos) (tE K C U (wTup w)) := pe_imp (pe_tup h) fun σ H Q ⟨sl, rt, ρ, fps, G, k, s, xf, w, q⟩ =>
  ⟨sl, rt, ρ, fps, G, _, s, xf, w, fun xs rt1 fps1 G1 H1 vs r1 n1 v1 w1 => by
    split at w1
    · rename_i ds e
      have dr := v1.dats e
      refine ⟨sz_le (by rw [dr.len]; exact w1.1), fun p hp => q (.dat (.tup ds)) rt1 fps1 _ _ _ (r1.laid hp) (n1.trans (Nx.laid r1.sub hp _)) ?_ w1.2⟩
      exact .tup (st_of upd_same) (DRs.up (Ex.new (fresh_back r1.sub hp)) _ _ dr)
    · exact w1.elim⟩
end
end Wv
end

section
set_option Elab.async false
set_option linter.all false
set_option maxRecDepth 100000
set_option maxHeartbeats 4000000
namespace Wv
open PySem PySem.Spec PyProof.Rows L2 Evl
section
variable {K : PySem.W.Frag} {C : Cs} {U : UX} {G H G' H' G1 H1 G2 H2 : Hp} {sl : Slots} {rt rt' : Roots} {σ : L2.St} {ρ ρ' : List Addr} {fps fps' : List (List Addr)}
variable {X : Cx} {a b c e : Expr} {es rest : List Expr} {wa wb wc : WE} {ta tb : WT} {pos p : Pos}

/-! ### what is owned is in the heap -/
theorem TR.inH {t : T} {v : V} {fp : List Addr} (h : TR K C G H v t fp) : ∀ a ∈ fp, H a ≠ none := by
  refine TR.rec (motive_1 := fun v t fp _ => ∀ a ∈ fp, H a ≠ none) (motive_2 := fun vs ts fp _ => ∀ a ∈ fp, H a ≠ none) (fun _ _ z => nomatch z) (fun h _ ih a ha => ?_) (fun h _ _ ih a ha => ?_) (fun h _ _ ih a ha => ?_) (fun _ ih => ih) (fun _ z => nomatch z) (fun _ _ i1 i2 a ha => ?_) h
  · rcases List.mem_cons.mp ha with z | z
    · rw [z, h]; exact fun q => nomatch q
    · exact ih a z
  · rcases List.mem_cons.mp ha with z | z
    · rw [z, h]; exact fun q => nomatch q
    · exact ih a z
  · rcases List.mem_cons.mp ha with z | z
    · rw [z, h]; exact fun q => nomatch q
    · exact ih a z
  · rcases List.mem_append.mp ha with z | z
    · exact i1 a z
    · exact i2 a z
theorem Rts.inH : ∀ {rt : Roots} {ρ : List Addr} {fps : List (List Addr)}, Rts K C G H rt ρ fps → ∀ a ∈ fps.flatten, H a ≠ none
  | _, _, _, .nil => fun _ z => nomatch z
  | _, _, _, .cons h r => fun a ha => by
    rw [List.flatten_cons] at ha
    rcases List.mem_append.mp ha with z | z
    · exact h.inH a z
    · exact Rts.inH r a z
theorem Own.inH {t : T} {v : V} {fp : List Addr} (h : Own K C fps G H t v fp) : ∀ a ∈ fp, H a ≠ none := h.tr.inH
/-- the heap grows -/
theorem RSt.grow (s : RSt K C rt ρ fps G H) (e : Ex H H') : RSt K C rt ρ fps G H' := ⟨s.sub.trans e, s.root.stay (Ex.refl G) fun a ha => by
    cases q : H a with
    | none => exact absurd q (s.root.inH a ha)
    | some o => exact e a o q, s.nd, s.fr⟩
theorem Own.grow {t : T} {v : V} {fp : List Addr} (s : Own K C fps G H t v fp) (e : Ex H H') : Own K C fps G H' t v fp := ⟨s.tr.stay (Ex.refl G) _ _ _ fun a ha => by
    cases q : H a with
    | none => exact absurd q (s.inH a ha)
    | some o => exact e a o q, s.nd, s.ap, s.fr⟩
/-- what is owned by nobody stays while a piece of the program runs -/
theorem Own.past {t : T} {v : V} {fp : List Addr} (s : Own K C fps G H t v fp) (n : Nx fps.flatten G H G' H' fps'.flatten) : Own K C fps' G' H' t v fp where
  tr := s.tr.stay n.g _ _ _ fun a ha => by
    cases q : H a with
    | none => exact absurd q (s.inH a ha)
    | some o => exact (n.keep a o q (s.ap a ha)).1
  nd := s.nd
  ap := fun a ha z => by
    rcases n.new a z with y | y
    · exact s.ap a ha y
    · exact s.inH a ha y
  fr := fun a ha => by
    cases q : H a with
    | none => exact absurd q (s.inH a ha)
    | some o => exact (n.keep a o q (s.ap a ha)).2 (s.fr a ha)
theorem Nx.grow {fp : List Addr} {p : Addr} {o : HO} (hp : H p = none) : Nx fp G H G (upd H p o) fp where
  g := Ex.refl G
  keep := fun l u h _ => ⟨Ex.new hp l u h, fun g => g⟩
  dom := fun l h => upd_none h
  new := fun _ h => .inl h
  idn := idn_new hp
/-- a new list of what is owned -/
theorem RSt.newL (s : RSt K C rt ρ fps G H) {p : Addr} {vs : List V} {ts : List T} {fp : List Addr} (hp : H p = none) (r : TRs K C G H vs ts fp) (nd : fp.Nodup) (ap : ∀ a ∈ fp, a ∉ fps.flatten) (fr : ∀ a ∈ fp, G a = none) (ih : ∀ a ∈ fp, H a ≠ none) :
    RSt K C rt ρ fps G (upd H p (.lst vs)) ∧ Own K C fps G (upd H p (.lst vs)) (.lst ts) (.ref p) (p :: fp) := by
  refine ⟨s.grow (Ex.new hp), .lst upd_same (TRs.stay (Ex.refl G) _ _ _ r fun a ha => upd_ne fun z => ih a ha (by rw [z]; exact hp)), ?_, fun a ha => ?_, fun a ha => ?_⟩
  · exact List.nodup_cons.mpr ⟨fun z => ih p z hp, nd⟩
  · rcases List.mem_cons.mp ha with z | z
    · exact fun y => s.root.inH a y (by rw [z]; exact hp)
    · exact ap a z
  · rcases List.mem_cons.mp ha with z | z
    · rw [z]; exact fresh_back s.sub hp
    · exact fr a z
/-- what is owned by nobody becomes data -/
theorem RSt.frz (s : RSt K C rt ρ fps G H) {t : T} {v : V} {fp : List Addr} (o : Own K C fps G H t v fp) : RSt K C rt ρ fps (mix G H fp) H ∧ DR K C (mix G H fp) v t.toD := by
  have eg := mix_ex (G := G) (H := H) o.fr
  refine ⟨⟨mix_sub s.sub, s.root.stay eg fun _ _ => rfl, s.nd, fun a ha => ?_⟩, o.tr.frz eg _ _ _ fun a ha => mix_in ha⟩
  rw [mix_out fun z => o.ap a z ha]
  exact s.fr a ha
theorem Nx.frz {fp fu : List Addr} {t : T} (n : Nx fp G H G' H' fps.flatten) (fr : ∀ a ∈ fu, G' a = none) (new : ∀ a ∈ fu, a ∈ fp ∨ H a = none) : Nx fp G H (mix G' H' fu) H' fps.flatten where
  g := n.g.trans (mix_ex fr)
  keep := fun l o h z => by
    obtain ⟨h1, g1⟩ := n.keep l o h z
    refine ⟨h1, fun g => ?_⟩
    rw [mix_out fun y => by
      rcases new l y with q | q
      · exact z q
      · rw [q] at h; cases h]
    exact g1 g
  dom := n.dom
  new := n.new
  idn := n.idn
/-- a new thing taken as data -/
def wFrz (w : WO) : WE := fun sl rt k => w sl rt fun t rt1 => k (.dat t.toD) rt1
theorem e_frz {w : WO} : ∀ σ H Q, tE K C U (wFrz w) σ H Q → tO K C U w σ H Q := fun σ H Q ⟨sl, rt, ρ, fps, G, k, s, xf, w, q⟩ =>
  ⟨sl, rt, ρ, fps, G, _, s, xf, w, fun t rt1 fps1 fp G1 H1 v r1 n1 o1 new w1 => by
    obtain ⟨r2, d⟩ := r1.frz o1
    exact q (.dat t.toD) rt1 fps1 _ H1 v r2 (n1.frz (t := t) o1.fr new) d w1⟩
theorem we_frz {w : WO} (h : PE X e (tO K C U w)) : PE X e (tE K C U (wFrz w)) := pe_imp h e_frz
/-- data as a tree -/
def wLift (w : WE) : WO := fun sl rt k => w sl rt fun x rt1 => match x with
  | .dat d => k (.dat d) rt1
  | _ => False
theorem Own.dat {v : V} {d : D} (h : DR K C G v d) : Own K C fps G H (.dat d) v [] := ⟨.dat h, List.nodup_nil, fun _ z => (nomatch z), fun _ z => (nomatch z)⟩
theorem o_lift {w : WE} : ∀ σ H Q, tO K C U (wLift w) σ H Q → tE K C U w σ H Q := fun σ H Q ⟨sl, rt, ρ, fps, G, k, s, xf, w, q⟩ =>
  ⟨sl, rt, ρ, fps, G, _, s, xf, w, fun x rt1 fps1 G1 H1 v r1 n1 v1 w1 => by
    cases x with
    | dat d => exact q _ rt1 fps1 [] G1 H1 v r1 n1 (Own.dat v1) (fun _ z => nomatch z) w1
    | ref _ _ => exact w1.elim⟩
theorem wo_lift {w : WE} (h : PE X e (tE K C U w)) : PE X e (tO K C U (wLift w)) := pe_imp h o_lift
/-- a root that is held by a name becomes data -/
def wFz (wa : WE) : WE := fun sl rt k => wa sl rt fun x rt1 => match x with
  | .dat d => k (.dat d) rt1
  | .ref r [] => match rt1[r]? with
    | some t => k (.dat t.toD) (rt1.set r (.dat t.toD))
    | none => False
  | _ => False
theorem e_fz : ∀ σ H Q, tE K C U (wFz wa) σ H Q → tE K C U wa σ H Q := fun σ H Q ⟨sl, rt, ρ, fps, G, k, s, xf, w, q⟩ =>
  ⟨sl, rt, ρ, fps, G, _, s, xf, w, fun x rt1 fps1 G1 H1 v r1 n1 v1 w1 => by
    split at w1
    · exact q _ rt1 fps1 G1 H1 v r1 n1 v1 w1
    · rename_i r
      split at w1
      · rename_i t ht
        obtain ⟨a, h1, h2, h3⟩ := v1
        cases Option.some.inj h2
        obtain ⟨a', L, fu, R, k1, k2, k3, k4⟩ := r1.root.split ht
        rw [h1] at k1
        cases k1
        have nd := r1.nd
        rw [k3] at nd
        have fr : ∀ b ∈ fu, G1 b = none := fun b hb => r1.fr b (by rw [k3]; simp [hb])
        have eg := mix_ex (G := G1) (H := H1) fr
        obtain ⟨fps2, y1, y2⟩ := k4 (mix G1 H1 fu) H1 (.dat t.toD) [] eg (fun _ _ => rfl) (.dat (k2.frz eg _ _ _ fun b hb => mix_in hb))
        have sub2 : ∀ b ∈ fps2.flatten, b ∈ fps1.flatten ∧ b ∉ fu := fun b hb => by
          rw [y2] at hb
          rw [k3]
          have nd2 := List.nodup_append.mp nd
          have nd3 := List.nodup_append.mp nd2.2.1
          rcases List.mem_append.mp hb with z | z
          · exact ⟨by simp [z], fun y => nd2.2.2 b z b (by simp [y]) rfl⟩
          · have z : b ∈ R := by simpa using z
            exact ⟨by simp [z], fun y => nd3.2.2 b y b z rfl⟩
        have nd' : fps2.flatten.Nodup := by
          rw [y2]
          refine List.Nodup.sublist ?_ nd
          exact List.Sublist.append (List.Sublist.refl L) (List.Sublist.append (List.nil_sublist fu) (List.Sublist.refl R))
        refine q (.dat t.toD) _ fps2 (mix G1 H1 fu) H1 _ ⟨mix_sub r1.sub, y1, nd', fun b hb => ?_⟩ ?_ (k2.frz eg _ _ _ fun b hb => mix_in hb) w1
        · rw [mix_out (sub2 b hb).2]
          exact r1.fr b (sub2 b hb).1
        · refine n1.trans ⟨eg, fun l o h z => ⟨h, fun g => ?_⟩, fun _ h => h, fun l h => .inl (sub2 l h).1, Idn.refl _⟩
          rw [mix_out fun y => z (by rw [k3]; simp [y])]
          exact g
      · exact w1.elim
    · exact w1.elim⟩
theorem we_fz (h : PE X e (tE K C U wa)) : PE X e (tE K C U (wFz wa)) := pe_imp h e_fz

/-! ### lists made -/
/-- [a, b] of data -/
def wLst (w : WA) : WO := fun sl rt k => w sl rt fun xs rt1 => match datsV xs with
  | some ds => ds.length ≤ 1000 ∧ k (.lst (ds.map .dat)) rt1
  | none => False
theorem wo_lst {w : WA} (h : PA X es (tA K C U w)) : PE X (.List es pos) (tO K C U (wLst w)) := pe_imp (pe_lst h) fun σ H Q ⟨sl, rt, ρ, fps, G, k, s, xf, w, q⟩ =>
  ⟨sl, rt, ρ, fps, G, _, s, xf, w, fun xs rt1 fps1 G1 H1 vs r1 n1 v1 w1 => by
    split at w1
    · rename_i ds e
      have dr := v1.dats e
      refine ⟨sz_le (by rw [dr.len]; exact w1.1), fun p hp => ?_⟩
      obtain ⟨r2, o2⟩ := r1.newL hp (dr.trs (H := H1)) List.nodup_nil (fun _ z => nomatch z) (fun _ z => nomatch z) (fun _ z => nomatch z)
      exact q _ rt1 fps1 _ G1 _ _ r2 (n1.trans (Nx.grow hp)) o2 (fun b hb => by
        have : b = p := by simpa using hb
        rw [this]
        exact .inr (n1.dom p hp)) w1.2
    · exact w1.elim⟩
/-- a list that is there: as data or owned, of data alone -/
def listOf (x : Val) (rt : Roots) : Option (List D) := match x with
  | .dat (.lst ds) => some ds
  | .dat (.ro ds) => some ds
  | .dat (.fzl ds) => some ds
  | .ref r p => match tat rt r p with
    | some (.lst ts) => dats ts
    | _ => none
  | _ => none
theorem RSt.listOf (s : RSt K C rt ρ fps G H) {x : Val} {v : V} {ds : List D} (h : listOf x rt = some ds) (hv : VR K C G H ρ x v) : ∃ a xs, v = .ref a ∧ SqL K H a xs ∧ DRs K C G xs ds := by
  unfold Wv.listOf at h
  split at h
  · cases h
    cases hv with
    | lst h r => exact ⟨_, _, rfl, sq_of (s.sub _ _ h), r⟩
  · cases h
    cases hv with
    | ro h r => exact ⟨_, _, rfl, ex_l s.sub h, r⟩
  · cases h
    cases hv with
    | fzl h r => exact ⟨_, _, rfl, .inl (.inr ⟨_, s.sub _ _ h⟩), r⟩
  · split at h
    · rename_i ts ht
      obtain ⟨a, fu, _, _, k, _⟩ := s.get ht hv
      cases k with
      | lst h2 r =>
        have e := dats_map h
        rw [e] at r
        exact ⟨_, _, rfl, sq_of h2, (TRs.dats r).1⟩
    · cases h
  · cases h
/-- a list or a tuple of data -/
def seqOf (x : Val) (rt : Roots) : Option (List D) := match x with
  | .dat (.tup ds) => some ds
  | .dat (.tpx ds) => some ds
  | _ => listOf x rt
theorem RSt.seqOf (s : RSt K C rt ρ fps G H) {x : Val} {v : V} {ds : List D} (h : seqOf x rt = some ds) (hv : VR K C G H ρ x v) : ∃ a xs, v = .ref a ∧ (SqL K H a xs ∨ SqT K H a xs) ∧ DRs K C G xs ds := by
  unfold Wv.seqOf at h
  split at h
  · cases h
    cases hv with
    | tup h r => exact ⟨_, _, rfl, .inr (ex_t s.sub h), r⟩
  · cases h
    cases hv with
    | tpx h _ r => exact ⟨_, _, rfl, .inr (ex_t s.sub (.inl (.inr ⟨_, h⟩))), r⟩
  · obtain ⟨a, xs, h1, h2, h3⟩ := s.listOf h hv
    exact ⟨a, xs, h1, .inl h2, h3⟩
/-- a call of a built-in with values that makes nothing -/
abbrev SemA := List Val → Roots → (D → Prop) → Prop
def wCB (f : SemA) (w : WA) : WE := fun sl rt k => w sl rt fun xs rt1 => f xs rt1 fun d => k (.dat d) rt1
def SA (K : PySem.W.Frag) (C : Cs) (f : SemA) (r : List V → Hp → VK → Prop) : Prop := ∀ rt ρ fps G H xs vs, RSt K C rt ρ fps G H → VRs K C G H ρ xs vs → ∀ (k : D → Prop) (Q : VK), f xs rt k → (∀ d w, k d → DR K C G w d → Q w H) → r vs H Q
theorem e_cb {f : SemA} {r : List V → Hp → VK → Prop} {w : WA} (h : SA K C f r) : ∀ σ H Q, tE K C U (wCB f w) σ H Q → tCB r (tA K C U w) σ H Q := fun σ H Q ⟨sl, rt, ρ, fps, G, k, s, xf, w, q⟩ =>
  ⟨sl, rt, ρ, fps, G, _, s, xf, w, fun xs rt1 fps1 G1 H1 vs r1 n1 v1 w1 => h rt1 ρ fps1 G1 H1 xs vs r1 v1 _ Q w1 fun d w2 kd dr => q (.dat d) rt1 fps1 G1 H1 w2 r1 n1 dr kd⟩
/-- len -/
def fLen : SemA := fun xs rt k => match xs with
  | [.dat (.str z)] => z.length ≤ sizeLine ∧ k (.int z.length)
  | [x] => match x with
    | .ref r p => match tat rt r p with
      | some (.lst ts) => k (.int ts.length)
      | _ => False
    | _ => match seqOf x rt with
      | some ds => k (.int ds.length)
      | none => False
  | _ => False
theorem sa_len : SA K C fLen (fun xs H Q => ∃ x n, xs = [x] ∧ LenV K x H n ∧ Q (.int n) H) := fun rt ρ fps G H xs vs s v k Q w q => by
  unfold fLen at w
  split at w
  · cases v with
    | cons h r =>
      cases r
      cases h
      exact ⟨_, _, rfl, ⟨w.1, rfl⟩, q _ _ w.2 (.int _)⟩
  · cases v with
    | cons h r =>
      cases r
      split at w
      · split at w
        · rename_i ts ht
          obtain ⟨a, fu, _, _, k2, _⟩ := s.get ht h
          cases k2 with
          | lst h2 r2 => exact ⟨_, _, rfl, .inl ⟨_, sq_of h2, (TRs.len r2).symm⟩, q _ _ w (.int _)⟩
        · exact w.elim
      · split at w
        · rename_i ds e
          obtain ⟨a, xs, rfl, h2, h3⟩ := s.seqOf e h
          refine ⟨_, _, rfl, ?_, q _ _ w (.int _)⟩
          rcases h2 with h2 | h2
          · exact .inl ⟨xs, h2, h3.len.symm⟩
          · exact .inr ⟨xs, h2, h3.len.symm⟩
        · exact w.elim
  · exact w.elim
/-- int(x) of an int, a bool -/
def fInt : SemA := fun xs _ k => match xs with
  | [.dat (.int i)] => k (.int i)
  | [.dat (.bool b)] => k (.int (if b = true then 1 else 0))
  | _ => False
theorem sa_int : SA K C fInt (fun xs H Q => (∃ i, xs = [.int i] ∧ Q (.int i) H) ∨ ∃ k, xs = [.bl k] ∧ Q (.int (if k then 1 else 0)) H) := fun rt ρ fps G H xs vs s v k Q w q => by
  unfold fInt at w
  split at w
  · cases v with
    | cons h r =>
      cases r
      cases h
      exact .inl ⟨_, rfl, q _ _ w (.int _)⟩
  · cases v with
    | cons h r =>
      cases r
      cases h
      exact .inr ⟨_, rfl, q _ _ w (.int _)⟩
  · exact w.elim
def fMax : SemA := fun xs _ k => match xs with
  | [.dat (.int i), .dat (.int j)] => k (.int (if j > i then j else i))
  | _ => False
def fMin : SemA := fun xs _ k => match xs with
  | [.dat (.int i), .dat (.int j)] => k (.int (if j < i then j else i))
  | _ => False
theorem sa_max : SA K C fMax (fun xs H Q => ∃ i j, xs = [.int i, .int j] ∧ Q (.int (if j > i then j else i)) H) := fun rt ρ fps G H xs vs s v k Q w q => by
  unfold fMax at w
  split at w
  · cases v with
    | cons h r =>
      cases r with
      | cons h' r =>
        cases r
        cases h
        cases h'
        exact ⟨_, _, rfl, q _ _ w (.int _)⟩
  · exact w.elim
theorem sa_min : SA K C fMin (fun xs H Q => ∃ i j, xs = [.int i, .int j] ∧ Q (.int (if j < i then j else i)) H) := fun rt ρ fps G H xs vs s v k Q w q => by
  unfold fMin at w
  split at w
  · cases v with
    | cons h r =>
      cases r with
      | cons h' r =>
        cases r
        cases h
        cases h'
        exact ⟨_, _, rfl, q _ _ w (.int _)⟩
  · exact w.elim
/-- sum of ints -/
def fSum : SemA := fun xs rt k => match xs with
  | [x] => ∃ ns : List Int, listOf x rt = some (ns.map .int) ∧ k (.int ns.sum)
  | _ => False
theorem sa_sum : SA K C fSum (rSum K) := fun rt ρ fps G H xs vs s v k Q w q => by
  unfold fSum at w
  split at w
  · cases v with
    | cons h r =>
      cases r
      obtain ⟨ns, e, w⟩ := w
      obtain ⟨a, xs, rfl, h2, h3⟩ := s.listOf e h
      rw [DRs.ints h3] at h2
      exact ⟨a, ns, rfl, h2, q _ _ w (.int _)⟩
  · exact w.elim
def fAll : SemA := fun xs rt k => match xs with
  | [x] => ∃ ns : List Bool, listOf x rt = some (ns.map .bool) ∧ k (.bool (ns.all id))
  | _ => False
theorem sa_all : SA K C fAll (rAll K) := fun rt ρ fps G H xs vs s v k Q w q => by
  unfold fAll at w
  split at w
  · cases v with
    | cons h r =>
      cases r
      obtain ⟨ns, e, w⟩ := w
      obtain ⟨a, xs, rfl, h2, h3⟩ := s.listOf e h
      rw [DRs.bools h3] at h2
      exact ⟨a, ns, rfl, h2, q _ _ w (.bool _)⟩
  · exact w.elim
/-- list(x) -/
def wListOf (w : WA) : WO := fun sl rt k => w sl rt fun xs rt1 => match xs with
  | [x] => ∃ ds, seqOf x rt1 = some ds ∧ k (.lst (ds.map .dat)) rt1
  | _ => False
theorem o_listOf {w : WA} : ∀ σ H Q, tO K C U (wListOf w) σ H Q → tCB (fun xs H Q => ∃ p ys, xs = [.ref p] ∧ (SqL K H p ys ∨ SqT K H p ys) ∧ ∀ l, H l = none → Q (.ref l) (upd H l (.lst ys))) (tA K C U w) σ H Q := fun σ H Q ⟨sl, rt, ρ, fps, G, k, s, xf, w, q⟩ =>
  ⟨sl, rt, ρ, fps, G, _, s, xf, w, fun xs rt1 fps1 G1 H1 vs r1 n1 v1 w1 => by
    split at w1
    · obtain ⟨ds, e, w1⟩ := w1
      cases v1 with
      | cons h r =>
        cases r
        obtain ⟨a, xs, rfl, h2, h3⟩ := r1.seqOf e h
        refine ⟨a, xs, rfl, h2, fun p hp => ?_⟩
        obtain ⟨r2, o2⟩ := r1.newL hp (h3.trs (H := H1)) List.nodup_nil (fun _ z => nomatch z) (fun _ z => nomatch z) (fun _ z => nomatch z)
        exact q _ rt1 fps1 _ G1 _ _ r2 (n1.trans (Nx.grow hp)) o2 (fun b hb => by
          have : b = p := by simpa using hb
          rw [this]
          exact .inr (n1.dom p hp)) w1
    · exact w1.elim⟩
/-- tuple(x): data -/
def wTupOf (w : WA) : WE := fun sl rt k => w sl rt fun xs rt1 => match xs with
  | [x] => ∃ ds, seqOf x rt1 = some ds ∧ k (.dat (.tup ds)) rt1
  | _ => False
theorem e_tupOf {w : WA} : ∀ σ H Q, tE K C U (wTupOf w) σ H Q → tCB (fun xs H Q => ∃ p ys, xs = [.ref p] ∧ ((SqL K H p ys ∧ ∀ l, H l = none → Q (.ref l) (upd H l (.tup ys))) ∨ (SqT K H p ys ∧ Q (.ref p) H))) (tA K C U w) σ H Q := fun σ H Q ⟨sl, rt, ρ, fps, G, k, s, xf, w, q⟩ =>
  ⟨sl, rt, ρ, fps, G, _, s, xf, w, fun xs rt1 fps1 G1 H1 vs r1 n1 v1 w1 => by
    split at w1
    · obtain ⟨ds, e, w1⟩ := w1
      · cases v1 with
        | cons h r =>
          cases r
          unfold Wv.seqOf at e
          split at e
          · cases e
            cases h with
            | tup h2 r => exact ⟨_, _, rfl, .inr ⟨ex_t r1.sub h2, q (.dat (.tup ds)) rt1 fps1 G1 H1 _ r1 n1 (.tup h2 r) w1⟩⟩
          · cases e
            cases h with
            | tpx h2 _ r => exact ⟨_, _, rfl, .inr ⟨ex_t r1.sub (.inl (.inr ⟨_, h2⟩)), q (.dat (.tup ds)) rt1 fps1 G1 H1 _ r1 n1 (.tup (.inl (.inr ⟨_, h2⟩)) r) w1⟩⟩
          · obtain ⟨a, xs, rfl, h2, h3⟩ := r1.listOf e h
            refine ⟨a, xs, rfl, .inl ⟨h2, fun p hp => q (.dat (.tup ds)) rt1 fps1 _ _ _ (r1.laid hp) (n1.trans (Nx.laid r1.sub hp _)) ?_ w1⟩⟩
            exact .tup (st_of upd_same) (DRs.up (Ex.new (fresh_back r1.sub hp)) _ _ h3)
    · exact w1.elim⟩
/-- a[i] -/
def wIdx (wa wb : WE) : WE := fun sl rt k => wa sl rt fun x rt1 => wb sl rt1 fun y rt2 => match y with
  | .dat (.int n) => match x with
    | .dat (.str z) => z.length ≤ sizeLine ∧ ∃ c, atI z.cps.toList n = some c ∧ k (.dat (.str ⟨#[c]⟩)) rt2
    | .dat d => match seqOf (.dat d) rt2 with
      | some ds => ∃ d, atI ds n = some d ∧ k (.dat d) rt2
      | none => False
    | .ref r p => match tat rt2 r p with
      | some (.lst ts) => ∃ j u, ixN ts.length n = some j ∧ ts[j]? = some u ∧ (match u with | .dat d => k (.dat d) rt2 | _ => False)
      | _ => False
  | _ => False
theorem atI_get {xs : List V} {ds : List D} {n : Int} {d : D} (r : DRs K C G xs ds) (h : atI ds n = some d) : ∃ v, atI xs n = some v ∧ DR K C G v d := by
  unfold atI at h ⊢
  rw [r.len]
  cases q : ixN ds.length n with
  | none => rw [q] at h; cases h
  | some j =>
    rw [q] at h
    exact r.get h
theorem e_idx : ∀ σ H Q, tE K C U (wIdx wa wb) σ H Q → tOp (rIx K) (tE K C U wa) (tE K C U wb) σ H Q := fun σ H Q ⟨sl, rt, ρ, fps, G, k, s, xf, w, q⟩ =>
  ⟨sl, rt, ρ, fps, G, _, s, xf, w, fun x rt1 fps1 G1 H1 v r1 n1 v1 w1 => ⟨sl, rt1, ρ, fps1, G1, _, s.step r1 n1 fun _ _ e => e, xf.later n1 (Pre.refl _), w1, fun y rt2 fps2 G2 H2 u r2 n2 v2 w2 => by
    have v1 := v1.up n2 fun _ _ e => e
    split at w2
    · rename_i n
      cases v2
      split at w2
      · cases v1
        obtain ⟨hz, c, hc, w2⟩ := w2
        exact .inr (.inr ⟨_, n, c, rfl, rfl, hz, hc, q (.dat (.str ⟨#[c]⟩)) rt2 fps2 G2 H2 _ r2 (n1.trans n2) (DR.str _) w2⟩)
      · split at w2
        · rename_i ds e
          obtain ⟨d, hd, w2⟩ := w2
          obtain ⟨a, xs, rfl, h2, h3⟩ := r2.seqOf e v1
          obtain ⟨z, hz, hr⟩ := atI_get h3 hd
          rcases h2 with h2 | h2
          · exact .inl ⟨a, xs, n, z, rfl, rfl, h2, hz, q (.dat d) rt2 fps2 G2 H2 _ r2 (n1.trans n2) hr w2⟩
          · exact .inr (.inl ⟨a, xs, n, z, rfl, rfl, h2, hz, q (.dat d) rt2 fps2 G2 H2 _ r2 (n1.trans n2) hr w2⟩)
        · exact w2.elim
      · rename_i r p
        split at w2
        · rename_i ts ht
          obtain ⟨j, u, hj, hu, w2⟩ := w2
          obtain ⟨a, fu, k1, k2, k3, _⟩ := r2.get ht v1
          cases k3 with
          | lst h2 r3 =>
            obtain ⟨z, fz, z1, z2, _⟩ := r3.get hu
            split at w2
            · rename_i d
              refine .inl ⟨_, _, n, z, rfl, rfl, sq_of h2, ?_, q _ rt2 fps2 G2 H2 z r2 (n1.trans n2) (VR.ofD z2) w2⟩
              unfold atI
              rw [TRs.len r3, hj]
              exact z1
            · exact w2.elim
        · exact w2.elim
    · exact w2.elim⟩⟩
theorem we_idx (ha : PE X a (tE X.K C U wa)) (hb : PE X b (tE X.K C U wb)) (hs : PlainIx b) : PE X (.Subscript a b pos) (tE X.K C U (wIdx wa wb)) := pe_imp (pe_ix (r := rIx X.K) ix_seq ha hb hs) e_idx
end
end Wv
end

section
set_option Elab.async false
set_option linter.all false
set_option maxRecDepth 100000
set_option maxHeartbeats 4000000
namespace Wv
open PySem PySem.Spec PyProof.Rows L2 Evl

structure WEnds where
  nx : Slots → Roots → Prop
  rt : Val → Roots → Prop := fun _ _ => False
  ro : T → Roots → Prop := fun _ _ => False
  bk : Slots → Roots → Prop := fun _ _ => False
  ct : Slots → Roots → Prop := fun _ _ => False
  ex : Exn → Slots → Roots → Prop := fun _ _ _ => False
abbrev WS := WEnds → Slots → Roots → Prop
/-- where a piece of the program may end -/
structure Fin (K : PySem.W.Frag) (C : Cs) (U : UX) (ρ : List Addr) (fps : List (List Addr)) (G H : Hp) (Z : WEnds) (D : Ends) : Prop where
  nx : ∀ sl' rt' σ' ρ' fps' G' H', St K C sl' rt' σ' ρ' fps' G' H' → Nx fps.flatten G H G' H' fps'.flatten → Pre ρ ρ' → Z.nx sl' rt' → D.nx σ' H'
  rt : ∀ x rt' ρ' fps' G' H' v, RSt K C rt' ρ' fps' G' H' → Nx fps.flatten G H G' H' fps'.flatten → Pre ρ ρ' → VR K C G' H' ρ' x v → Z.rt x rt' → D.rt v H'
  ro : ∀ t rt' ρ' fps' fp G' H' v, RSt K C rt' ρ' fps' G' H' → Nx fps.flatten G H G' H' fps'.flatten → Pre ρ ρ' → Own K C fps' G' H' t v fp → (∀ a ∈ fp, a ∈ fps.flatten ∨ H a = none) → Z.ro t rt' → D.rt v H'
  bk : ∀ sl' rt' σ' ρ' fps' G' H', St K C sl' rt' σ' ρ' fps' G' H' → Nx fps.flatten G H G' H' fps'.flatten → Pre ρ ρ' → Z.bk sl' rt' → D.bk σ' H'
  ct : ∀ sl' rt' σ' ρ' fps' G' H', St K C sl' rt' σ' ρ' fps' G' H' → Nx fps.flatten G H G' H' fps'.flatten → Pre ρ ρ' → Z.ct sl' rt' → D.ct σ' H'
  xf : Xf K C U ρ fps G H Z.ex
section
variable {K : PySem.W.Frag} {C : Cs} {U : UX} {G H G' H' G1 H1 G2 H2 : Hp} {sl : Slots} {rt rt' : Roots} {σ : L2.St} {ρ ρ' ρ1 : List Addr} {fps fps' fps1 : List (List Addr)}
variable {X : Cx} {a b c e : Expr} {es rest : List Expr} {wa wb wc : WE} {ta tb : WT} {pos p : Pos} {Z : WEnds} {E : Ends} {st : Stmt} {sts : List Stmt} {u z : WS}
theorem Fin.later (f : Fin K C U ρ fps G H Z E) (n : Nx fps.flatten G H G1 H1 fps1.flatten) (p : Pre ρ ρ1) : Fin K C U ρ1 fps1 G1 H1 Z E where
  nx := fun sl' rt' σ' ρ' fps' G' H' s n' p' => f.nx sl' rt' σ' ρ' fps' G' H' s (n.trans n') (p.trans p')
  rt := fun x rt' ρ' fps' G' H' v s n' p' => f.rt x rt' ρ' fps' G' H' v s (n.trans n') (p.trans p')
  ro := fun t rt' ρ' fps' fp G' H' v s n' p' o h => f.ro t rt' ρ' fps' fp G' H' v s (n.trans n') (p.trans p') o fun a ha => (h a ha).elim (fun q => n.new a q) fun q => .inr (n.dom a q)
  bk := fun sl' rt' σ' ρ' fps' G' H' s n' p' => f.bk sl' rt' σ' ρ' fps' G' H' s (n.trans n') (p.trans p')
  ct := fun sl' rt' σ' ρ' fps' G' H' s n' p' => f.ct sl' rt' σ' ρ' fps' G' H' s (n.trans n') (p.trans p')
  xf := f.xf.later n p
variable (K C)
variable (U)
def tS (w : WS) : TS := fun D σ H => ∃ Z sl rt ρ fps G, St K C sl rt σ ρ fps G H ∧ w Z sl rt ∧ Fin K C U ρ fps G H Z D
variable {K C}
variable {U}
theorem ps_imp {t t' : TS} (h : PS X st t) (i : ∀ D σ H, t' D σ H → t D σ H) : PS X st t' := ⟨fun pins s σ H D I q => h.run pins s σ H D I (i D σ H q)⟩
theorem pss_imp {t t' : TS} (h : PSs X sts t) (i : ∀ D σ H, t' D σ H → t D σ H) : PSs X sts t' := ⟨fun pins s σ H D I q => h.run pins s σ H D I (i D σ H q)⟩
theorem pre_len (p : Pre ρ ρ') : ρ.length ≤ ρ'.length := by
  cases h : ρ.length with
  | zero => omega
  | succ n =>
    have := p n (ρ[n]'(by omega)) (List.getElem?_eq_getElem (by omega))
    have := (List.getElem?_eq_some_iff.mp this).1
    omega

/-! ### blocks -/
def wSeq (u z : WS) : WS := fun Z sl rt => u { Z with nx := z Z } sl rt
/-- with a place told between -/
def wCut (u z : WS) : WS := fun Z sl rt => ∃ N : Slots → Roots → Prop, u { Z with nx := N } sl rt ∧ ∀ sl' rt', N sl' rt' → z Z sl' rt'
def wNext : WS := fun Z sl rt => Z.nx sl rt
theorem Fin.seq (f : Fin K C U ρ fps G H Z E) (N : Slots → Roots → Prop) (h : ∀ sl' rt', N sl' rt' → z Z sl' rt') : Fin K C U ρ fps G H { Z with nx := N } { E with nx := tS K C U z E } :=
  ⟨fun sl' rt' σ' ρ' fps' G' H' s n p hn => ⟨Z, sl', rt', ρ', fps', G', s, h sl' rt' hn, f.later n p⟩, f.rt, f.ro, f.bk, f.ct, f.xf⟩
theorem wss_nil : PSs X [] (tS K C U wNext) := pss_imp pss_nil fun D σ H ⟨Z, sl, rt, ρ, fps, G, s, w, f⟩ => f.nx sl rt σ ρ fps G H s (Nx.refl _ _ _) (Pre.refl _) w
theorem wss_cons (h1 : PS X st (tS K C U u)) (h2 : PSs X sts (tS K C U z)) : PSs X (st :: sts) (tS K C U (wSeq u z)) := pss_imp (pss_cons h1 h2) fun D σ H ⟨Z, sl, rt, ρ, fps, G, s, w, f⟩ => ⟨_, sl, rt, ρ, fps, G, s, w, f.seq _ fun _ _ h => h⟩
theorem wss_cut (h1 : PS X st (tS K C U u)) (h2 : PSs X sts (tS K C U z)) : PSs X (st :: sts) (tS K C U (wCut u z)) := pss_imp (pss_cons h1 h2) fun D σ H ⟨Z, sl, rt, ρ, fps, G, s, ⟨N, w, h⟩, f⟩ => ⟨_, sl, rt, ρ, fps, G, s, w, f.seq N h⟩
theorem wss_one (h1 : PS X st (tS K C U u)) : PSs X [st] (tS K C U u) := pss_one h1
theorem ws_pass : PS X (.Pass pos) (tS K C U wNext) := ps_imp ps_pass fun D σ H ⟨Z, sl, rt, ρ, fps, G, s, w, f⟩ => f.nx sl rt σ ρ fps G H s (Nx.refl _ _ _) (Pre.refl _) w
theorem ws_doc {x j pos'} : PS X (.Expr (.Constant (.str x) j pos) pos') (tS K C U wNext) := ps_imp ps_doc fun D σ H ⟨Z, sl, rt, ρ, fps, G, s, w, f⟩ => f.nx sl rt σ ρ fps G H s (Nx.refl _ _ _) (Pre.refl _) w
def wBreak : WS := fun Z sl rt => Z.bk sl rt
def wCont : WS := fun Z sl rt => Z.ct sl rt
theorem ws_break : PS X (.Break pos) (tS K C U wBreak) := ps_imp ps_break fun D σ H ⟨Z, sl, rt, ρ, fps, G, s, w, f⟩ => f.bk sl rt σ ρ fps G H s (Nx.refl _ _ _) (Pre.refl _) w
theorem ws_continue : PS X (.Continue pos) (tS K C U wCont) := ps_imp ps_continue fun D σ H ⟨Z, sl, rt, ρ, fps, G, s, w, f⟩ => f.ct sl rt σ ρ fps G H s (Nx.refl _ _ _) (Pre.refl _) w

/-! ### names -/
theorem get_set {α : Type} {l : List α} {i j : Nat} {a b : α} (h : (l.set i a)[j]? = some b) : (i = j ∧ a = b) ∨ (i ≠ j ∧ l[j]? = some b) := by
  by_cases e : i = j
  · left
    subst e
    refine ⟨rfl, ?_⟩
    by_cases hl : i < l.length
    · rw [List.getElem?_set_self hl] at h
      exact Option.some.inj h
    · rw [List.getElem?_eq_none (by rw [List.length_set]; omega)] at h
      cases h
  · right
    rw [List.getElem?_set_ne e] at h
    exact ⟨e, h⟩
theorem St.set (s : St K C sl rt σ ρ fps G H) {i : Nat} {x : Val} {v : V} (h : VR K C G H ρ x v) : St K C (sl.set i (some x)) rt (σ.set i (some v)) ρ fps G H where
  toRSt := s.toRSt
  len := by rw [List.length_set, List.length_set, s.len]
  slot := fun j y e => by
    rcases get_set e with ⟨rfl, q⟩ | ⟨n, q⟩
    · cases q
      refine ⟨v, ?_, h⟩
      have hl : i < sl.length := by
        by_cases z : i < sl.length
        · exact z
        · rw [List.getElem?_eq_none (by rw [List.length_set]; omega)] at e
          cases e
      exact List.getElem?_set_self (by rw [s.len]; exact hl)
    · obtain ⟨w, h1, h2⟩ := s.slot j y q
      exact ⟨w, by rw [List.getElem?_set_ne n]; exact h1, h2⟩
def wAsg (i : Nat) (w : WE) : WS := fun Z sl rt => w ⟨sl, Z.ex⟩ rt fun x rt1 => Z.nx (sl.set i (some x)) rt1
theorem s_asg {i : Nat} {w : WE} : ∀ D σ H, tS K C U (wAsg i w) D σ H → tAsg (tE K C U w) (gName i) D σ H := fun D σ H ⟨Z, sl, rt, ρ, fps, G, s, w, f⟩ =>
  ⟨⟨sl, Z.ex⟩, rt, ρ, fps, G, _, s, f.xf, w, fun x rt1 fps1 G1 H1 v r1 n1 v1 w1 => f.nx _ _ _ ρ fps1 G1 H1 ((s.step r1 n1 fun _ _ e => e).set v1) n1 (Pre.refl _) w1⟩
def wNew (i : Nat) (w : WO) : WS := fun Z sl rt => w ⟨sl, Z.ex⟩ rt fun t rt1 => match t.strip with
  | .dat d => Z.nx (sl.set i (some (.dat d))) rt1
  | _ => Z.nx (sl.set i (some (.ref rt1.length []))) (rt1 ++ [t])
theorem RSt.app (s : RSt K C rt ρ fps G H) {t : T} {a : Addr} {fp : List Addr} (o : Own K C fps G H t (.ref a) fp) : RSt K C (rt ++ [t]) (ρ ++ [a]) (fps ++ [fp]) G H where
  sub := s.sub
  root := Rts.app o.tr s.root
  nd := by
    rw [List.flatten_append]
    simp only [List.flatten_cons, List.flatten_nil, List.append_nil]
    exact List.nodup_append.mpr ⟨s.nd, o.nd, fun x hx y hy z => o.ap y hy (by rw [← z]; exact hx)⟩
  fr := fun x hx => by
    rw [List.flatten_append] at hx
    simp only [List.flatten_cons, List.flatten_nil, List.append_nil] at hx
    rcases List.mem_append.mp hx with z | z
    · exact s.fr x z
    · exact o.fr x z
theorem St.new (s : St K C sl rt σ ρ fps G H) {i : Nat} {t : T} {v : V} {fp : List Addr} (o : Own K C fps G H t v fp) (n : ∀ d, t.strip ≠ .dat d) : ∃ a, v = .ref a ∧ St K C (sl.set i (some (.ref rt.length []))) (rt ++ [t]) (σ.set i (some v)) (ρ ++ [a]) (fps ++ [fp]) G H := by
  obtain ⟨a, rfl, hn⟩ := o.tr.nodeV n
  refine ⟨a, rfl, ?_⟩
  have r := s.toRSt.app o
  have s2 : St K C sl (rt ++ [t]) σ (ρ ++ [a]) (fps ++ [fp]) G H := s.step r (Nx.refl fps.flatten G H) (Pre.app ρ [a])
  refine s2.set ⟨a, ?_, rfl, ⟨a, rfl, hn⟩, rfl⟩
  rw [← (s.root.lens).1]
  simp
theorem new_flat {fp : List Addr} (n : Nx fps.flatten G H G' H' fps'.flatten) (new : ∀ a ∈ fp, a ∈ fps.flatten ∨ H a = none) : Nx fps.flatten G H G' H' (fps' ++ [fp]).flatten := ⟨n.g, n.keep, n.dom, fun l hl => by
    rw [List.flatten_append] at hl
    simp only [List.flatten_cons, List.flatten_nil, List.append_nil] at hl
    rcases List.mem_append.mp hl with z | z
    · exact n.new l z
    · exact new l z, n.idn⟩
theorem s_new {i : Nat} {w : WO} : ∀ D σ H, tS K C U (wNew i w) D σ H → tAsg (tO K C U w) (gName i) D σ H := fun D σ H ⟨Z, sl, rt, ρ, fps, G, s, w, f⟩ =>
  ⟨⟨sl, Z.ex⟩, rt, ρ, fps, G, _, s, f.xf, w, fun t rt1 fps1 fp G1 H1 v r1 n1 o1 new w1 => by
    have s1 := s.step r1 n1 fun _ _ e => e
    cases q : t.strip with
    | dat d =>
      rw [q] at w1
      have z := o1.tr.strip
      rw [q] at z
      cases z with
      | dat h => exact f.nx _ _ _ ρ fps1 G1 H1 (s1.set (x := .dat d) h) n1 (Pre.refl _) w1
    | lst ts =>
      rw [q] at w1
      obtain ⟨a, rfl, s2⟩ := s1.new (i := i) o1 (by rw [q]; intro d z; cases z)
      exact f.nx _ _ _ _ _ G1 H1 s2 (new_flat n1 new) (Pre.app ρ [a]) w1
    | obj c ts =>
      rw [q] at w1
      obtain ⟨a, rfl, s2⟩ := s1.new (i := i) o1 (by rw [q]; intro d z; cases z)
      exact f.nx _ _ _ _ _ G1 H1 s2 (new_flat n1 new) (Pre.app ρ [a]) w1
    | dct ks ts =>
      rw [q] at w1
      obtain ⟨a, rfl, s2⟩ := s1.new (i := i) o1 (by rw [q]; intro d z; cases z)
      exact f.nx _ _ _ _ _ G1 H1 s2 (new_flat n1 new) (Pre.app ρ [a]) w1
    | nm a t' => exact absurd q (T.strip_nm t)⟩
theorem ws_asg {i : Nat} {w : WE} (h : PS X st (tAsg (tE K C U w) (gName i))) : PS X st (tS K C U (wAsg i w)) := ps_imp h s_asg
theorem ws_new {i : Nat} {w : WO} (h : PS X st (tAsg (tO K C U w) (gName i))) : PS X st (tS K C U (wNew i w)) := ps_imp h s_new
/-- names bound by a target -/
abbrev Tg := D → Slots → (Slots → Prop) → Prop
def TgOk (K : PySem.W.Frag) (C : Cs) (g : TG) (tg : Tg) : Prop := ∀ d v sl rt σ ρ fps G H (k : Slots → Prop) (Q : L2.St → Hp → Prop), St K C sl rt σ ρ fps G H → DR K C G v d → tg d sl k → (∀ sl2 σ2, k sl2 → St K C sl2 rt σ2 ρ fps G H → Q σ2 H) → g v σ H Q
def tgName (j : Nat) : Tg := fun d sl k => k (sl.set j (some (.dat d)))
theorem tg_name {j : Nat} : TgOk K C (gName j) (tgName j) := fun d v sl rt σ ρ fps G H k Q s h w q => q _ _ w (s.set (x := .dat d) h)
def setAll : List Nat → List D → Slots → Slots
  | j :: js, d :: ds, sl => setAll js ds (sl.set j (some (.dat d)))
  | _, _, sl => sl
def gAll : List Nat → TGs
  | [] => gNil
  | j :: js => gCons (gName j) (gAll js)
theorem gall : ∀ {js : List Nat} {ds : List D} {vs : List V} {sl : Slots} {σ : L2.St} {Q : L2.St → Hp → Prop}, St K C sl rt σ ρ fps G H → DRs K C G vs ds → ds.length = js.length → (∀ σ2, St K C (setAll js ds sl) rt σ2 ρ fps G H → Q σ2 H) → gAll js vs σ H Q
  | [], [], _, sl, σ, Q, s, .nil, _, q => ⟨rfl, q σ s⟩
  | j :: js, d :: ds, _, sl, σ, Q, s, .cons h r, e, q => ⟨_, _, rfl, gall (s.set (x := .dat d) h) r (by simpa using e) q⟩
  | [], _ :: _, _, _, _, _, _, _, e, _ => by cases e
  | _ :: _, [], _, _, _, _, _, _, e, _ => by cases e
def tgTup (js : List Nat) : Tg := fun d sl k => match d with
  | .tup ds => ds.length = js.length ∧ k (setAll js ds sl)
  | .tpx ds => ds.length = js.length ∧ k (setAll js ds sl)
  | _ => False
theorem tg_tup {js : List Nat} {n : Nat} (hn : n = js.length) : TgOk K C (gTup K n (gAll js)) (tgTup js) := fun d v sl rt σ ρ fps G H k Q s h w q => by
  unfold tgTup at w
  split at w
  · cases h with
    | tup h2 r => exact ⟨_, _, rfl, ex_t s.sub h2, by rw [r.len, w.1, hn], gall s r w.1 fun σ2 s2 => q _ σ2 w.2 s2⟩
  · cases h with
    | tpx h2 _ r => exact ⟨_, _, rfl, ex_t s.sub (.inl (.inr ⟨_, h2⟩)), by rw [r.len, w.1, hn], gall s r w.1 fun σ2 s2 => q _ σ2 w.2 s2⟩
  · exact w.elim
def wAsgT (tg : Tg) (w : WE) : WS := fun Z sl rt => w ⟨sl, Z.ex⟩ rt fun x rt1 => match x with
  | .dat d => tg d sl fun sl2 => Z.nx sl2 rt1
  | _ => False
theorem s_asgT {g : TG} {tg : Tg} {w : WE} (hg : TgOk K C g tg) : ∀ D σ H, tS K C U (wAsgT tg w) D σ H → tAsg (tE K C U w) g D σ H := fun D σ H ⟨Z, sl, rt, ρ, fps, G, s, w, f⟩ =>
  ⟨⟨sl, Z.ex⟩, rt, ρ, fps, G, _, s, f.xf, w, fun x rt1 fps1 G1 H1 v r1 n1 v1 w1 => by
    cases x with
    | dat d => exact hg d v sl rt1 σ ρ fps1 G1 H1 _ _ (s.step r1 n1 fun _ _ e => e) v1 w1 fun sl2 σ2 h s2 => f.nx sl2 rt1 σ2 ρ fps1 G1 H1 s2 n1 (Pre.refl _) h
    | ref _ _ => exact w1.elim⟩
theorem ws_asgT {g : TG} {tg : Tg} {w : WE} (hg : TgOk K C g tg) (h : PS X st (tAsg (tE K C U w) g)) : PS X st (tS K C U (wAsgT tg w)) := ps_imp h (s_asgT hg)

/-! ### ends -/
def wRet (w : WE) : WS := fun Z sl rt => w ⟨sl, Z.ex⟩ rt fun x rt1 => Z.rt x rt1
def wRetO (w : WO) : WS := fun Z sl rt => w ⟨sl, Z.ex⟩ rt fun t rt1 => Z.ro t rt1
theorem ws_ret {w : WE} (h : PE X e (tE K C U w)) : PS X (.Return (some e) pos) (tS K C U (wRet w)) := ps_imp (ps_ret h) fun D σ H ⟨Z, sl, rt, ρ, fps, G, s, w, f⟩ =>
  ⟨⟨sl, Z.ex⟩, rt, ρ, fps, G, _, s, f.xf, w, fun x rt1 fps1 G1 H1 v r1 n1 v1 w1 => f.rt x rt1 ρ fps1 G1 H1 v r1 n1 (Pre.refl _) v1 w1⟩
theorem ws_retO {w : WO} (h : PE X e (tO K C U w)) : PS X (.Return (some e) pos) (tS K C U (wRetO w)) := ps_imp (ps_ret h) fun D σ H ⟨Z, sl, rt, ρ, fps, G, s, w, f⟩ =>
  ⟨⟨sl, Z.ex⟩, rt, ρ, fps, G, _, s, f.xf, w, fun t rt1 fps1 fp G1 H1 v r1 n1 o1 new w1 => f.ro t rt1 ρ fps1 fp G1 H1 v r1 n1 (Pre.refl _) o1 new w1⟩
def wRetN : WS := fun Z sl rt => Z.rt (.dat .non) rt
theorem ws_retN : PS X (.Return none pos) (tS K C U wRetN) := ps_imp ps_retN fun D σ H ⟨Z, sl, rt, ρ, fps, G, s, w, f⟩ => f.rt (.dat .non) rt ρ fps G H .non s.toRSt (Nx.refl _ _ _) (Pre.refl _) .non w
def wDrop (w : WE) : WS := fun Z sl rt => w ⟨sl, Z.ex⟩ rt fun _ rt1 => Z.nx sl rt1
theorem ws_expr {w : WE} (h : PE X e (tE K C U w)) (hs : swapsWith e none pos.line X.env = pure false := by rfl) : PS X (.Expr e pos) (tS K C U (wDrop w)) := ps_imp (ps_expr h hs) fun D σ H ⟨Z, sl, rt, ρ, fps, G, s, w, f⟩ =>
  ⟨⟨sl, Z.ex⟩, rt, ρ, fps, G, _, s, f.xf, w, fun x rt1 fps1 G1 H1 v r1 n1 v1 w1 => f.nx sl rt1 σ ρ fps1 G1 H1 (s.step r1 n1 fun _ _ e => e) n1 (Pre.refl _) w1⟩
def wIf (c : WT) (u v : WS) : WS := fun Z sl rt => c ⟨sl, Z.ex⟩ rt fun b rt1 => (b = true → u Z sl rt1) ∧ (b = false → v Z sl rt1)
theorem ws_if {cnd : Expr} {sa sb : List Stmt} {tc : WT} {u v : WS} (hc : PT X cnd (tT K C U tc)) (ha : PSs X sa (tS K C U u)) (hb : PSs X sb (tS K C U v)) : PS X (.If cnd sa sb pos) (tS K C U (wIf tc u v)) := ps_imp (ps_if hc ha hb) fun D σ H ⟨Z, sl, rt, ρ, fps, G, s, w, f⟩ =>
  ⟨⟨sl, Z.ex⟩, rt, ρ, fps, G, _, s, f.xf, w, fun b rt1 fps1 G1 H1 r1 n1 w1 => by
    have s1 := s.step r1 n1 fun _ _ e => e
    cases b with
    | true => exact ⟨Z, sl, rt1, ρ, fps1, G1, s1, w1.1 rfl, f.later n1 (Pre.refl _)⟩
    | false => exact ⟨Z, sl, rt1, ρ, fps1, G1, s1, w1.2 rfl, f.later n1 (Pre.refl _)⟩⟩
def wAug (i : Nat) (g : Int → Int → Int) (w : WE) : WS := fun Z sl rt => match sl[i]? with
  | some (some (.dat (.int m))) => w ⟨sl, Z.ex⟩ rt fun y rt1 => match y with
    | .dat (.int n) => Z.nx (sl.set i (some (.dat (.int (g m n))))) rt1
    | _ => False
  | _ => False
theorem s_aug {i : Nat} {g : Int → Int → Int} {w : WE} : ∀ D σ H, tS K C U (wAug i g w) D σ H → tAug i (tE K C U w) (ipI g) D σ H := fun D σ H ⟨Z, sl, rt, ρ, fps, G, s, w, f⟩ => by
  unfold wAug at w
  split at w
  · rename_i m e
    obtain ⟨v, h1, h2⟩ := s.slot i _ e
    cases h2
    refine ⟨_, h1, ⟨sl, Z.ex⟩, rt, ρ, fps, G, _, s, f.xf, w, fun y rt1 fps1 G1 H1 u r1 n1 v1 w1 => ?_⟩
    split at w1
    · cases v1
      exact ⟨m, _, rfl, rfl, f.nx _ _ _ ρ fps1 G1 H1 ((s.step r1 n1 fun _ _ e => e).set (x := .dat (.int _)) (DR.int _)) n1 (Pre.refl _) w1⟩
    · exact w1.elim
  · exact w.elim
theorem ws_aug {i : Nat} {g : Int → Int → Int} {w : WE} (h : PS X st (tAug i (tE K C U w) (ipI g))) : PS X st (tS K C U (wAug i g w)) := ps_imp h s_aug

/-! ### writing into what is owned -/
theorem idn_lst {b : Addr} {xs xs' : List V} (hb : H b = some (.lst xs)) (k : ∀ (i : Nat) x, xs[i]? = some x → False → xs'[i]? = some x) : Idn H (upd H b (.lst xs')) := by
  refine Idn.of (fun w hw => ?_)
  · obtain ⟨a, rfl, h⟩ := hw
    refine ⟨a, rfl, ?_⟩
    by_cases z : a = b
    · exact .inl ⟨xs', by rw [z, upd_same]⟩
    · rw [upd_ne z]
      exact h
/-- another content at a place -/
theorem RSt.write (s : RSt K C rt ρ fps G H) {r : Nat} {p : List Nat} {t t' : T} {a b : Addr} {o : HO} {fn : List Addr} (h : tat rt r p = some t) (ha : ρ[r]? = some a) (hf : fol H p (.ref a) = some (.ref b)) (nt : ∀ d, t ≠ .dat d)
    (idn : Idn H (upd H b o)) (hn : ∀ fu, TR K C G H (.ref b) t fu → b ∈ fu ∧ (fu.Nodup → (∀ x ∈ fn, x ∉ fu) → ∃ fu', TR K C G (upd H b o) (.ref b) t' fu' ∧ fu'.Perm (fu ++ fn)))
    (nd : fn.Nodup) (ap : ∀ x ∈ fn, x ∉ fps.flatten) (fr : ∀ x ∈ fn, G x = none) : ∃ fps', RSt K C (rt.modify r (T.put t' p)) ρ fps' G (upd H b o) ∧ (∀ x ∈ fps'.flatten, x ∈ fps.flatten ∨ x ∈ fn) ∧ b ∈ fps.flatten := by
  obtain ⟨w, L, fu, R, k1, k2, k3, k4⟩ := s.at h ha
  rw [hf] at k1
  cases k1
  obtain ⟨hb, hn⟩ := hn fu k2
  have nd0 := s.nd
  rw [k3] at nd0
  have nd1 := List.nodup_append.mp nd0
  have nd2 := List.nodup_append.mp nd1.2.1
  obtain ⟨fu', q1, q2⟩ := hn nd2.1 fun x hx z => ap x hx (by rw [k3]; simp [z])
  have hbF : b ∈ fps.flatten := by rw [k3]; simp [hb]
  obtain ⟨fps', y1, y2⟩ := k4 G (upd H b o) t' fu' (Ex.refl G) (fun x hx => upd_ne fun z => by
    subst z
    rcases List.mem_append.mp hx with y | y
    · exact nd1.2.2 x y x (by simp [hb]) rfl
    · exact nd2.2.2 x hb x y rfl) q1
  have mem : ∀ x ∈ fps'.flatten, x ∈ fps.flatten ∨ x ∈ fn := fun x hx => by
    rw [y2] at hx
    rw [k3]
    rcases List.mem_append.mp hx with y | y
    · exact .inl (by simp [y])
    · rcases List.mem_append.mp y with y | y
      · rcases List.mem_append.mp (q2.mem_iff.mp y) with y | y
        · exact .inl (by simp [y])
        · exact .inr y
      · exact .inl (by simp [y])
  refine ⟨fps', ⟨fun x u e => ?_, y1, ?_, fun x hx => ?_⟩, mem, hbF⟩
  · have : x ≠ b := fun z => by rw [z, s.fr b hbF] at e; cases e
    rw [upd_ne this]
    exact s.sub x u e
  · rw [y2]
    have pm : (L ++ (fu' ++ R)).Perm ((L ++ (fu ++ R)) ++ fn) := by
      have h1 : (fu' ++ R).Perm ((fu ++ R) ++ fn) := by
        have : (fu' ++ R).Perm ((fu ++ fn) ++ R) := List.Perm.append_right R q2
        refine this.trans ?_
        rw [List.append_assoc, List.append_assoc]
        exact List.Perm.append_left fu List.perm_append_comm
      have := List.Perm.append_left L h1
      rw [← List.append_assoc L] at this
      rw [List.append_assoc] 
      rw [List.append_assoc] at this
      exact this
    refine pm.nodup_iff.mpr ?_
    rw [← k3]
    exact List.nodup_append.mpr ⟨s.nd, nd, fun x hx y hy z => ap y hy (by rw [← z]; exact hx)⟩
  · rcases mem x hx with z | z
    · exact s.fr x z
    · exact fr x z
theorem Nx.write {b : Addr} {o : HO} {fp : List Addr} (hb : b ∈ fps.flatten) (hH : H b ≠ none) (idn : Idn H (upd H b o)) (mem : ∀ x ∈ fp, x ∈ fps.flatten ∨ x ∈ fps'.flatten) : Nx fps.flatten G H G (upd H b o) fps.flatten where
  g := Ex.refl G
  keep := fun l u h z => ⟨by rw [upd_ne fun y => z (by rw [y]; exact hb)]; exact h, fun g => g⟩
  dom := fun l h => upd_none h
  new := fun _ h => .inl h
  idn := idn
end
end Wv
end

section
set_option Elab.async false
set_option linter.all false
set_option maxRecDepth 100000
set_option maxHeartbeats 4000000
namespace Wv
open PySem PySem.Spec PyProof.Rows L2 Evl
section
variable {K : PySem.W.Frag} {C : Cs} {U : UX} {G H G' H' G1 H1 G2 H2 : Hp} {sl sl' : Slots} {rt rt' : Roots} {σ : L2.St} {ρ ρ' ρ1 : List Addr} {fps fps' fps1 : List (List Addr)}
variable {X : Cx} {a b c e : Expr} {es rest : List Expr} {wa wb wc : WE} {ta tb : WT} {pos p : Pos} {Z : WEnds} {E : Ends} {st : Stmt} {sts : List Stmt} {u z : WS}
theorem TRs.app : ∀ {ts : List T} {vs : List V} {fp : List Addr} {us : List T} {ws : List V} {fq : List Addr}, TRs K C G H vs ts fp → TRs K C G H ws us fq → TRs K C G H (vs ++ ws) (ts ++ us) (fp ++ fq)
  | _, _, _, _, _, _, .nil, h => h
  | _, _, _, _, _, _, .cons (fp := fp) (fq := fq) h r, h' => by
    rw [List.append_assoc]
    exact .cons h (TRs.app r h')
/-- xs.append(e) -/
def wApp (wx : WE) (w : WO) : WS := fun Z sl rt => wx ⟨sl, Z.ex⟩ rt fun x rt1 => match x with
  | .ref r p => match tat rt1 r p with
    | some (.lst _) => w ⟨sl, Z.ex⟩ rt1 fun t rt2 => match tat rt2 r p with
      | some (.lst ts) => ts.length < 40000 ∧ Z.nx sl (rt2.modify r (T.put (.lst (ts ++ [t])) p))
      | _ => False
    | _ => False
  | _ => False
theorem s_app {wx : WE} {w : WO} : ∀ D σ H, tS K C U (wApp wx w) D σ H → tDrop (tBM K "list" rAppend (tE K C U wx) (tCons (tO K C U w) tNil)) D σ H := fun D σ H ⟨Z, sl, rt, ρ, fps, G, s, w, f⟩ =>
  ⟨⟨sl, Z.ex⟩, rt, ρ, fps, G, _, s, f.xf, w, fun x rt1 fps1 G1 H1 v r1 n1 v1 w1 => by
    split at w1
    · rename_i r p
      split at w1
      · rename_i ts0 ht0
        obtain ⟨a, fu, k1, k2, k3, _⟩ := r1.get ht0 v1
        cases k3 with
        | @lst b xs0 _ fq0 hb0 tr0 =>
          refine ⟨.inl ⟨rfl, xs0, sq_of hb0⟩, ⟨sl, Z.ex⟩, rt1, ρ, fps1, G1, _, s.step r1 n1 fun _ _ e => e, f.xf.later n1 (Pre.refl _), w1, fun t rt2 fps2 fp G2 H2 y r2 n2 o2 new w2 => ?_⟩
          have v2 := v1.up n2 fun _ _ e => e
          split at w2
          · rename_i ts ht
            obtain ⟨a', fu, z1, z2, z3, _⟩ := r2.get ht v2
            cases z3 with
            | @lst _ xs _ fq hb tr =>
              have idn : Idn H2 (upd H2 b (.lst (xs ++ [y]))) := idn_lst hb fun i q hq _ => by
                rw [List.getElem?_append_left (List.getElem?_eq_some_iff.mp hq).1]
                exact hq
              have inH := o2.inH
              obtain ⟨fps3, r3, mem, hbF⟩ := r2.write (t' := .lst (ts ++ [t])) (fn := fp) ht z1 z2 (by intro d q; cases q) idn (fun fu hfu => by
                cases hfu with
                | @lst _ xs' _ fq' hb' tr' =>
                  rw [hb] at hb'
                  cases hb'
                  refine ⟨List.mem_cons_self, fun nd dis => ?_⟩
                  have nb := (List.nodup_cons.mp nd).1
                  refine ⟨b :: (fq' ++ (fp ++ [])), .lst upd_same (TRs.app (TRs.stay (Ex.refl _) _ _ _ tr' fun q hq => upd_ne fun z => nb (by rw [← z]; exact hq)) (.cons (TR.stay (Ex.refl _) _ _ _ o2.tr fun q hq => upd_ne fun z => dis q hq (by rw [z]; exact List.mem_cons_self)) .nil)), ?_⟩
                  rw [List.append_nil]
                  exact List.Perm.refl _) o2.nd o2.ap o2.fr
              refine ⟨b, xs, y, rfl, rfl, hb, sz_lt (by rw [TRs.len tr]; omega), ?_⟩
              have nW : Nx fps2.flatten G2 H2 G2 (upd H2 b (.lst (xs ++ [y]))) fps2.flatten := Nx.write (fps' := fps2) hbF (by rw [hb]; exact fun q => nomatch q) idn (fp := []) (fun _ q => nomatch q)
              have n3 := (n1.trans n2).trans nW
              have n4 : Nx fps.flatten G H G2 (upd H2 b (.lst (xs ++ [y]))) fps3.flatten := ⟨n3.g, n3.keep, n3.dom, fun l hl => by
                rcases mem l hl with q | q
                · exact n3.new l q
                · exact (new l q).elim (fun y => n1.new l y) fun y => .inr (n1.dom l y), n3.idn⟩
              exact f.nx sl _ σ ρ fps3 G2 _ (s.step r3 n4 fun _ _ e => e) n4 (Pre.refl _) w2.2
          · exact w2.elim
      · exact w1.elim
    · exact w1.elim⟩
theorem ws_app {wx : WE} {w : WO} (h : PS X st (tDrop (tBM K "list" rAppend (tE K C U wx) (tCons (tO K C U w) tNil)))) : PS X st (tS K C U (wApp wx w)) := ps_imp h s_app
/-- what may be overwritten -/
def leafT : T → Bool
  | .dat _ => true
  | _ => false
theorem leaf_ok {t : T} {v : V} {fu : List Addr} (h : leafT t = true) (r : TR K C G H v t fu) : (∃ d, t = .dat d) ∧ fu = [] ∧ ∀ H', Ex G H' → ¬ False := by
  cases r with
  | dat q => exact ⟨⟨_, rfl⟩, rfl, fun _ _ z => z⟩
  | _ => cases h
theorem TRs.set : ∀ {ts : List T} {vs : List V} {fp : List Addr} {j : Nat} {t : T} {v : V} {d : D}, TRs K C G H vs ts fp → ts[j]? = some t → leafT t = true → DR K C G v d → TRs K C G H (vs.set j v) (ts.set j (.dat d)) fp
  | _, _, _, _, _, _, _, .nil, e, _, _ => by simp at e
  | _, _, _, 0, _, _, _, .cons (fp := fp) (fq := fq) h r, e, l, d => by
    cases Option.some.inj e
    obtain ⟨_, hf, _⟩ := leaf_ok l h
    subst hf
    exact TRs.cons (fp := []) (.dat d) r
  | _, _, _, j + 1, _, _, _, .cons h r, e, l, d => .cons h (TRs.set (j := j) r e l d)
/-- xs[i] = e -/
def wSetI (w : WE) (wx wi : WE) : WS := fun Z sl rt => w ⟨sl, Z.ex⟩ rt fun y rt1 => wx ⟨sl, Z.ex⟩ rt1 fun x rt2 => wi ⟨sl, Z.ex⟩ rt2 fun n rt3 => match y with
  | .dat d => match x, n with
    | .ref r p, .dat (.int n) => match tat rt3 r p with
      | some (.lst ts) => ∃ j u, ixN ts.length n = some j ∧ ts[j]? = some u ∧ leafT u = true ∧ Z.nx sl (rt3.modify r (T.put (.lst (ts.set j (.dat d))) p))
      | _ => False
    | _, _ => False
  | _ => False
theorem s_setI {w wx wi : WE} : ∀ D σ H, tS K C U (wSetI w wx wi) D σ H → tAsg (tE K C U w) (gSub (tE K C U wx) (tE K C U wi) rSetL) D σ H := fun D σ H ⟨Z, sl, rt, ρ, fps, G, s, w, f⟩ =>
  ⟨⟨sl, Z.ex⟩, rt, ρ, fps, G, _, s, f.xf, w, fun y rt1 fps1 G1 H1 vy r1 n1 v1 w1 => ⟨⟨sl, Z.ex⟩, rt1, ρ, fps1, G1, _, s.step r1 n1 fun _ _ e => e, f.xf.later n1 (Pre.refl _), w1, fun x rt2 fps2 G2 H2 vx r2 n2 v2 w2 =>
    ⟨⟨sl, Z.ex⟩, rt2, ρ, fps2, G2, _, s.step r2 (n1.trans n2) fun _ _ e => e, f.xf.later (n1.trans n2) (Pre.refl _), w2, fun n rt3 fps3 G3 H3 vn r3 n3 v3 w3 => by
      split at w3
      · rename_i d
        split at w3
        · rename_i r p n
          split at w3
          · rename_i ts ht
            obtain ⟨j, u, hj, hu, hl, w3⟩ := w3
            have v2 := v2.up n3 fun _ _ e => e
            have v1 : DR K C G3 vy d := DR.up (n2.trans n3).g d vy v1
            cases v3
            obtain ⟨a, fu, z1, z2, z3, _⟩ := r3.get ht v2
            cases z3 with
            | @lst b xs _ fq hb tr =>
              obtain ⟨vo, fo, q1, q2, _⟩ := tr.get hu
              have idn : Idn H3 (upd H3 b (.lst (xs.set j vy))) := idn_lst hb fun i q hq nq => by
                by_cases z : j = i
                · subst z
                  rw [q1] at hq
                  cases hq
                  exact absurd nq ((leaf_ok hl q2).2.2 _ r3.sub)
                · rw [List.getElem?_set_ne z]
                  exact hq
              obtain ⟨fps4, r4, mem, hbF⟩ := r3.write (t' := .lst (ts.set j (.dat d))) (fn := []) ht z1 z2 (by intro d q; cases q) idn (fun fu hfu => by
                cases hfu with
                | @lst _ xs' _ fq' hb' tr' =>
                  rw [hb] at hb'
                  cases hb'
                  refine ⟨List.mem_cons_self, fun nd dis => ?_⟩
                  have nb := (List.nodup_cons.mp nd).1
                  refine ⟨b :: fq', .lst upd_same (TRs.set (TRs.stay (Ex.refl _) _ _ _ tr' fun q hq => upd_ne fun z => nb (by rw [← z]; exact hq)) hu hl v1), ?_⟩
                  rw [List.append_nil]) List.nodup_nil (fun _ q => nomatch q) (fun _ q => nomatch q)
              refine ⟨b, xs, n, j, rfl, rfl, hb, by rw [TRs.len tr]; exact hj, ?_⟩
              have nW : Nx fps3.flatten G3 H3 G3 (upd H3 b (.lst (xs.set j vy))) fps3.flatten := Nx.write (fps' := fps3) hbF (by rw [hb]; exact fun q => nomatch q) idn (fp := []) (fun _ q => nomatch q)
              have n4 := (n1.trans (n2.trans n3)).trans nW
              have n5 : Nx fps.flatten G H G3 (upd H3 b (.lst (xs.set j vy))) fps4.flatten := n4.less fun l hl => by
                rcases mem l hl with q | q
                · exact q
                · cases q
              exact f.nx sl _ σ ρ fps4 G3 _ (s.step r4 n5 fun _ _ e => e) n5 (Pre.refl _) w3
          · exact w3.elim
        · exact w3.elim
      · exact w3.elim⟩⟩⟩
theorem ws_setI {w wx wi : WE} (h : PS X st (tAsg (tE K C U w) (gSub (tE K C U wx) (tE K C U wi) rSetL))) : PS X st (tS K C U (wSetI w wx wi)) := ps_imp h s_setI

/-! ### forgetting -/
def Less (m : Nat) (sl' sl : Slots) : Prop := sl'.length = sl.length ∧ ∀ (i : Nat) x, sl'[i]? = some (some x) → sl[i]? = some (some x) ∧ ∀ r p, x = .ref r p → r < m
def Fg (n : Nat) (P : Slots → Roots → Prop) (sl : Slots) (rt : Roots) : Prop := P sl rt ∨ ∃ sl' m, n ≤ m ∧ Less m sl' sl ∧ P sl' (rt.take m)
theorem Rts.take : ∀ {rt : Roots} {ρ : List Addr} {fps : List (List Addr)} (m : Nat), Rts K C G H rt ρ fps → Rts K C G H (rt.take m) (ρ.take m) (fps.take m)
  | _, _, _, 0, _ => .nil
  | _, _, _, m + 1, .nil => .nil
  | _, _, _, m + 1, .cons h r => .cons h (Rts.take m r)
theorem flat_take (m : Nat) : ∀ a ∈ (fps.take m).flatten, a ∈ fps.flatten := fun a ha => by
  obtain ⟨l, h1, h2⟩ := List.mem_flatten.mp ha
  exact List.mem_flatten.mpr ⟨l, List.mem_of_mem_take h1, h2⟩
theorem RSt.take (s : RSt K C rt ρ fps G H) (m : Nat) : RSt K C (rt.take m) (ρ.take m) (fps.take m) G H :=
  ⟨s.sub, s.root.take m, by
    have h := s.nd
    rw [← List.take_append_drop m fps, List.flatten_append] at h
    exact (List.nodup_append.mp h).1, fun a ha => s.fr a (flat_take m a ha)⟩
theorem St.take (s : St K C sl rt σ ρ fps G H) {m : Nat} (l : Less m sl' sl) : St K C sl' (rt.take m) σ (ρ.take m) (fps.take m) G H where
  toRSt := s.toRSt.take m
  len := s.len.trans l.1.symm
  slot := fun i x e => by
    obtain ⟨h1, h2⟩ := l.2 i x e
    obtain ⟨v, k1, k2⟩ := s.slot i x h1
    refine ⟨v, k1, ?_⟩
    cases x with
    | dat d => exact k2
    | ref r p =>
      obtain ⟨a, q1, q2, q3⟩ := k2
      refine ⟨a, ?_, q2, q3⟩
      rw [List.getElem?_take_of_lt (h2 r p rfl)]
      exact q1
theorem Fg.back {n : Nat} {P : Slots → Roots → Prop} (h : Fg n P sl rt') (s : St K C sl rt' σ ρ' fps' G' H') (nx : Nx fps.flatten G H G' H' fps'.flatten) (pr : Pre ρ ρ') (hn : ρ.length ≤ n) : ∃ sl2 rt2 ρ2 fps2, St K C sl2 rt2 σ ρ2 fps2 G' H' ∧ Nx fps.flatten G H G' H' fps2.flatten ∧ Pre ρ ρ2 ∧ P sl2 rt2 := by
  rcases h with h | ⟨sl2, m, hm, l, h⟩
  · exact ⟨sl, rt', ρ', fps', s, nx, pr, h⟩
  · refine ⟨sl2, _, _, _, s.take l, nx.less (flat_take m), fun i a e => ?_, h⟩
    have hi : i < ρ.length := (List.getElem?_eq_some_iff.mp e).1
    rw [List.getElem?_take_of_lt (by omega)]
    exact pr i a e

/-! ### loops -/
def wWhile (c : WT) (body : WS) : WS := fun Z sl rt => ∃ I : Nat → Slots → Roots → Prop, (∃ m, I m sl rt) ∧ ∀ m sl' rt', I m sl' rt' → c ⟨sl', Z.ex⟩ rt' fun b rt1 =>
  (b = true → body { Z with nx := Fg rt.length (fun s r => ∃ m', m' < m ∧ I m' s r), ct := Fg rt.length (fun s r => ∃ m', m' < m ∧ I m' s r), bk := Z.nx } sl' rt1) ∧ (b = false → Z.nx sl' rt1)
theorem s_while {c : WT} {body : WS} : ∀ D σ H, tS K C U (wWhile c body) D σ H → tWhile (tT K C U c) (tS K C U body) D σ H := fun D σ H ⟨Z, sl, rt, ρ, fps, G, s, ⟨I, ⟨m0, i0⟩, w⟩, f⟩ => by
  have hl : ρ.length = rt.length := s.root.lens.1
  refine ⟨fun m σ' H' => ∃ sl' rt' ρ' fps' G', I m sl' rt' ∧ St K C sl' rt' σ' ρ' fps' G' H' ∧ Nx fps.flatten G H G' H' fps'.flatten ∧ Pre ρ ρ', ⟨m0, sl, rt, ρ, fps, G, i0, s, Nx.refl _ _ _, Pre.refl _⟩, fun m σ' H' ⟨sl', rt', ρ', fps', G', hi, s', n', p'⟩ => ?_⟩
  refine ⟨⟨sl', Z.ex⟩, rt', ρ', fps', G', _, s', f.xf.later n' p', w m sl' rt' hi, fun b rt1 fps1 G1 H1 r1 n1 w1 => ?_⟩
  have s1 := s'.step r1 n1 fun _ _ e => e
  cases b with
  | true =>
    refine ⟨fun σ2 H2 => ∃ sl2 rt2 ρ2 fps2 G2, (∃ m', m' < m ∧ I m' sl2 rt2) ∧ St K C sl2 rt2 σ2 ρ2 fps2 G2 H2 ∧ Nx fps.flatten G H G2 H2 fps2.flatten ∧ Pre ρ ρ2, fun σ2 H2 ⟨sl2, rt2, ρ2, fps2, G2, ⟨m', h1, h2⟩, q⟩ => ⟨m', h1, sl2, rt2, ρ2, fps2, G2, h2, q⟩, ?_⟩
    refine ⟨_, sl', rt1, ρ', fps1, G1, s1, w1.1 rfl, ⟨?_, ?_, ?_, ?_, ?_, f.xf.later (n'.trans n1) p'⟩⟩
    · intro sl2 rt2 σ2 ρ2 fps2 G2 H2 s2 n2 p2 h
      have h : Fg rt.length (fun s r => ∃ m', m' < m ∧ I m' s r) sl2 rt2 := h
      obtain ⟨sl3, rt3, ρ3, fps3, s3, n3, p3, h3⟩ := Fg.back (ρ := ρ) (n := rt.length) h s2 ((n'.trans n1).trans n2) (p'.trans p2) (by omega)
      exact ⟨sl3, rt3, ρ3, fps3, G2, h3, s3, n3, p3⟩
    · exact (f.later (n'.trans n1) p').rt
    · exact (f.later (n'.trans n1) p').ro
    · exact (f.later (n'.trans n1) p').nx
    · intro sl2 rt2 σ2 ρ2 fps2 G2 H2 s2 n2 p2 h
      have h : Fg rt.length (fun s r => ∃ m', m' < m ∧ I m' s r) sl2 rt2 := h
      obtain ⟨sl3, rt3, ρ3, fps3, s3, n3, p3, h3⟩ := Fg.back (ρ := ρ) (n := rt.length) h s2 ((n'.trans n1).trans n2) (p'.trans p2) (by omega)
      exact ⟨sl3, rt3, ρ3, fps3, G2, h3, s3, n3, p3⟩
  | false => exact f.nx sl' rt1 σ' ρ' fps1 G1 H1 s1 (n'.trans n1) p' (w1.2 rfl)
theorem ws_while {cnd : Expr} {body : List Stmt} {tc : WT} {wb : WS} (hp : PassesOwn (model X.prog X.w) X.A X.env X.xe) (hc : PT X cnd (tT K C U tc)) (hb : PSs X body (tS K C U wb)) : PS X (.While cnd body [] pos) (tS K C U (wWhile tc wb)) := ps_imp (ps_while hp hc hb) s_while

/-! ### what is walked -/
abbrev WI := Cxt → Roots → (List D → Roots → Prop) → Prop
/-- the turn's value bears its datum; perhaps in a new tuple -/
def YD (K : PySem.W.Frag) (C : Cs) (G : Hp) (d : D) (H2 : Hp) (v : V) (H3 : Hp) : Prop := (H3 = H2 ∧ DR K C G v d) ∨ ∃ p xs ds, H2 p = none ∧ H3 = upd H2 p (.tup xs) ∧ v = .ref p ∧ d = .tup ds ∧ DRs K C G xs ds
variable (K C)
variable (U)
def tI (w : WI) : TI := fun σ H R => ∃ sl rt ρ fps G k, St K C sl.sl rt σ ρ fps G H ∧ Xf K C U ρ fps G H sl.ex ∧ w sl rt k ∧ ∀ ds rt' fps' G' H' J, RSt K C rt' ρ fps' G' H' → Nx fps.flatten G H G' H' fps'.flatten →
  (∃ Gd Y, Walk J ds.length Gd Y ∧ (∀ H2, Ex G' H2 → Gd H2) ∧ ∀ i d H2 v H3, ds[i]? = some d → Ex G' H2 → Y i H2 v H3 → YD K C G' d H2 v H3) → k ds rt' → R J H'
variable {K C}
variable {U}
theorem pi_imp {tg it : Expr} {t t' : TI} (h : PI X tg it t) (i : ∀ σ H Q, t' σ H Q → t σ H Q) : PI X tg it t' := ⟨fun pins s σ H R I q => h.run pins s σ H R I (i σ H R q)⟩
/-- range(n), range(a, b) -/
def wRng1 (w : WA) : WI := fun sl rt k => w sl rt fun xs rt1 => match xs with
  | [.dat (.int n)] => n ≤ 100000 ∧ -100000 ≤ n ∧ k ((List.range n.toNat).map fun i => .int (i : Nat)) rt1
  | _ => False
def wRng2 (w : WA) : WI := fun sl rt k => w sl rt fun xs rt1 => match xs with
  | [.dat (.int a), .dat (.int b)] => (-100000000 ≤ a ∧ a ≤ 100000000) ∧ (-100000000 ≤ b ∧ b ≤ 100000000) ∧ k ((List.range (b - a).toNat).map fun i => .int (a + (i : Nat))) rt1
  | _ => False
theorem i_rng1 {w : WA} : ∀ σ H Q, tI K C U (wRng1 w) σ H Q → iRng1 (tA K C U w) σ H Q := fun σ H Q ⟨sl, rt, ρ, fps, G, k, s, xf, w, q⟩ =>
  ⟨sl, rt, ρ, fps, G, _, s, xf, w, fun xs rt1 fps1 G1 H1 vs r1 n1 v1 w1 => by
    split at w1
    · cases v1 with
      | cons h r =>
        cases r
        cases h
        rename_i n
        refine ⟨n, rfl, by omega, by omega, q _ rt1 fps1 G1 H1 _ r1 n1 ⟨fun _ => True, YFn fun i => .int ((0 : Int) + (i : Nat)), ?_, fun _ _ => trivial, fun i d H2 v H3 hd _ y => ?_⟩ w1.2.2⟩
        · rw [List.length_map, List.length_range]
          exact walk_range
        · obtain ⟨y1, y2⟩ := y
          rw [List.getElem?_map] at hd
          by_cases hi : i < n.toNat
          · rw [List.getElem?_range hi] at hd
            cases hd
            subst y2
            refine .inl ⟨y1, ?_⟩
            have : (0 : Int) + (i : Nat) = (i : Nat) := Int.zero_add _
            show DR K C G1 (.int ((0 : Int) + (i : Nat))) (.int (i : Nat))
            rw [this]
            exact .int _
          · rw [List.getElem?_eq_none (by rw [List.length_range]; omega)] at hd
            cases hd
    · exact w1.elim⟩
theorem i_rng2 {w : WA} : ∀ σ H Q, tI K C U (wRng2 w) σ H Q → iRng2 (tA K C U w) σ H Q := fun σ H Q ⟨sl, rt, ρ, fps, G, k, s, xf, w, q⟩ =>
  ⟨sl, rt, ρ, fps, G, _, s, xf, w, fun xs rt1 fps1 G1 H1 vs r1 n1 v1 w1 => by
    split at w1
    · rename_i a b
      cases v1 with
      | cons h r =>
        cases r with
        | cons h2 r =>
        cases r
        cases h
        cases h2
        refine ⟨a, b, rfl, by omega, q _ rt1 fps1 G1 H1 _ r1 n1 ⟨fun _ => True, YFn fun i => .int (a + (i : Nat)), ?_, fun _ _ => trivial, fun i d H2 v H3 hd _ y => ?_⟩ w1.2.2⟩
        · rw [List.length_map, List.length_range]
          exact walk_range
        · obtain ⟨y1, y2⟩ := y
          rw [List.getElem?_map] at hd
          by_cases hi : i < (b - a).toNat
          · rw [List.getElem?_range hi] at hd
            cases hd
            subst y2
            exact .inl ⟨y1, .int _⟩
          · rw [List.getElem?_eq_none (by rw [List.length_range]; omega)] at hd
            cases hd
    · exact w1.elim⟩
theorem wi_rng1 {tg e : Expr} {w : WA} (h : PI X tg e (iRng1 (tA K C U w))) : PI X tg e (tI K C U (wRng1 w)) := pi_imp h i_rng1
theorem wi_rng2 {tg e : Expr} {w : WA} (h : PI X tg e (iRng2 (tA K C U w))) : PI X tg e (tI K C U (wRng2 w)) := pi_imp h i_rng2
/-- a list, a tuple, of data -/
def wItL (w : WE) : WI := fun sl rt k => w sl rt fun x rt1 => match x with
  | .dat (.lst ds) => k ds rt1
  | .dat (.ro ds) => k ds rt1
  | _ => False
def wItT (w : WE) : WI := fun sl rt k => w sl rt fun x rt1 => match x with
  | .dat (.tup ds) => k ds rt1
  | _ => False
theorem i_lst {w : WE} : ∀ σ H Q, tI K C U (wItL w) σ H Q → iList K (tE K C U w) σ H Q := fun σ H Q ⟨sl, rt, ρ, fps, G, k, s, xf, w, q⟩ =>
  ⟨sl, rt, ρ, fps, G, _, s, xf, w, fun x rt1 fps1 G1 H1 v r1 n1 v1 w1 => by
    have main : ∀ a xs ds, SqL K G1 a xs → DRs K C G1 xs ds → k ds rt1 → v = .ref a → ∃ a, v = .ref a ∧ (∃ xs, SqL K H1 a xs) ∧ Q (Itl K a) H1 := fun a xs ds h2 r hk e => by
      refine ⟨a, e, ⟨xs, ex_l r1.sub h2⟩, q ds rt1 fps1 G1 H1 _ r1 n1 ⟨fun H => SqL K H a xs, YAt xs, by rw [← r.len]; exact walk_list, fun H2 e2 => ex_l e2 h2, fun i d H2 v H3 hd _ y => ?_⟩ hk⟩
      obtain ⟨y1, y2⟩ := y
      obtain ⟨w, h3, h4⟩ := r.get hd
      rw [h3] at y2
      cases y2
      exact .inl ⟨y1, h4⟩
    split at w1
    · cases v1 with
      | lst h r => exact main _ _ _ (sq_of h) r w1 rfl
    · cases v1 with
      | ro h r => exact main _ _ _ h r w1 rfl
    · exact w1.elim⟩
theorem i_tup {w : WE} : ∀ σ H Q, tI K C U (wItT w) σ H Q → iTup K (tE K C U w) σ H Q := fun σ H Q ⟨sl, rt, ρ, fps, G, k, s, xf, w, q⟩ =>
  ⟨sl, rt, ρ, fps, G, _, s, xf, w, fun x rt1 fps1 G1 H1 v r1 n1 v1 w1 => by
    split at w1
    · cases v1 with
      | @tup a xs _ h2 r =>
        refine ⟨_, rfl, ⟨_, ex_t r1.sub h2⟩, q _ rt1 fps1 G1 H1 _ r1 n1 ⟨fun H => SqT K H a xs, YAt xs, by rw [← r.len]; exact walk_tup, fun H2 e2 => ex_t e2 h2, fun i d H2 v H3 hd _ y => ?_⟩ w1⟩
        obtain ⟨y1, y2⟩ := y
        obtain ⟨w, h3, h4⟩ := r.get hd
        rw [h3] at y2
        cases y2
        exact .inl ⟨y1, h4⟩
    · exact w1.elim⟩
theorem wi_list {tg e : Expr} {w : WE} (h : PE X e (tE X.K C U w)) : PI X tg e (tI X.K C U (wItL w)) := pi_imp (pi_list h) i_lst
theorem wi_tup {tg e : Expr} {w : WE} (h : PE X e (tE X.K C U w)) : PI X tg e (tI X.K C U (wItT w)) := pi_imp (pi_tup h) i_tup
/-- a turn's value: as data of a larger heap -/
theorem YD.step {d : D} {v : V} {H3 : Hp} (y : YD K C G d H v H3) (s : St K C sl rt σ ρ fps G' H) (e : Ex G G') : ∃ G3, St K C sl rt σ ρ fps G3 H3 ∧ Nx fps.flatten G' H G3 H3 fps.flatten ∧ DR K C G3 v d := by
  rcases y with ⟨rfl, h⟩ | ⟨p, xs, ds, hp, rfl, rfl, rfl, r⟩
  · exact ⟨G', s, Nx.refl _ _ _, DR.up e _ _ h⟩
  · have n := Nx.laid (o := .tup xs) s.sub hp fps.flatten
    exact ⟨_, s.step (s.toRSt.laid hp) n fun _ _ e => e, n, .tup (st_of upd_same) (DRs.up (e.trans (Ex.new (fresh_back s.sub hp))) _ _ r)⟩
def wFor (it : WI) (tg : Tg) (body : WS) : WS := fun Z sl rt => it ⟨sl, Z.ex⟩ rt fun ds rt1 => ∃ I : Nat → Slots → Roots → Prop, I 0 sl rt1 ∧
  (∀ i d sl' rt', ds[i]? = some d → I i sl' rt' → tg d sl' fun sl2 => body { Z with nx := Fg rt.length (I (i + 1)), ct := Fg rt.length (I (i + 1)), bk := Z.nx } sl2 rt') ∧ ∀ sl' rt', I ds.length sl' rt' → Z.nx sl' rt'
theorem s_for {it : WI} {g : TG} {tg : Tg} {body : WS} (hg : TgOk K C g tg) : ∀ D σ H, tS K C U (wFor it tg body) D σ H → tFor (tI K C U it) g (tS K C U body) D σ H := fun D σ H ⟨Z, sl, rt, ρ, fps, G, s, w, f⟩ =>
  ⟨⟨sl, Z.ex⟩, rt, ρ, fps, G, _, s, f.xf, w, fun ds rt1 fps1 G1 H1 J r1 n1 ⟨Gd, Y, wk, hGd, hY⟩ ⟨I, i0, it, fin⟩ => by
    have hl : ρ.length = rt.length := s.root.lens.1
    refine for_it wk (fun i σ' H' => ∃ sl' rt' ρ' fps' G', I i sl' rt' ∧ St K C sl' rt' σ' ρ' fps' G' H' ∧ Nx fps.flatten G H G' H' fps'.flatten ∧ Pre ρ ρ' ∧ Ex G1 G') ⟨sl, rt1, ρ, fps1, G1, i0, s.step r1 n1 fun _ _ e => e, n1, Pre.refl _, Ex.refl _⟩ (fun i σ' H' _ ⟨sl', rt', ρ', fps', G', _, s', _, _, e'⟩ => hGd H' (e'.trans s'.sub)) (fun i v σ' H' H3 hi ⟨sl', rt', ρ', fps', G', hI, s', n', p', e'⟩ y => ?_) fun σ' H' ⟨sl', rt', ρ', fps', G', hI, s', n', p', _⟩ => f.nx sl' rt' σ' ρ' fps' G' H' s' n' p' (fin sl' rt' hI)
    have hd : ds[i]? = some ds[i] := List.getElem?_eq_getElem hi
    obtain ⟨G3, s3, n3, d3⟩ := YD.step (hY i _ H' v H3 hd (e'.trans s'.sub) y) s' e'
    refine hg _ v sl' rt' σ' ρ' fps' G3 H3 _ _ s3 d3 (it i _ sl' rt' hd hI) fun sl2 σ2 hb s2 => ?_
    refine ⟨_, sl2, rt', ρ', fps', G3, s2, hb, ⟨?_, ?_, ?_, ?_, ?_, f.xf.later (n'.trans n3) p'⟩⟩
    · intro sl4 rt4 σ4 ρ4 fps4 G4 H4 s4 n4 p4 h
      obtain ⟨sl5, rt5, ρ5, fps5, s5, n5, p5, h5⟩ := Fg.back (ρ := ρ) (n := rt.length) h s4 ((n'.trans n3).trans n4) (p'.trans p4) (by omega)
      exact ⟨sl5, rt5, ρ5, fps5, G4, h5, s5, n5, p5, e'.trans (n3.g.trans n4.g)⟩
    · exact (f.later (n'.trans n3) p').rt
    · exact (f.later (n'.trans n3) p').ro
    · exact (f.later (n'.trans n3) p').nx
    · intro sl4 rt4 σ4 ρ4 fps4 G4 H4 s4 n4 p4 h
      obtain ⟨sl5, rt5, ρ5, fps5, s5, n5, p5, h5⟩ := Fg.back (ρ := ρ) (n := rt.length) h s4 ((n'.trans n3).trans n4) (p'.trans p4) (by omega)
      exact ⟨sl5, rt5, ρ5, fps5, G4, h5, s5, n5, p5, e'.trans (n3.g.trans n4.g)⟩⟩
theorem ws_for {it : WI} {g : TG} {tg : Tg} {wb : WS} (hg : TgOk K C g tg) (h : PS X st (tFor (tI K C U it) g (tS K C U wb))) : PS X st (tS K C U (wFor it tg wb)) := ps_imp h (s_for hg)
end
end Wv
end

section
set_option Elab.async false
set_option linter.all false
set_option maxRecDepth 100000
set_option maxHeartbeats 4000000
namespace Wv
open PySem PySem.Spec PyProof.Rows L2 Evl
section
variable {K : PySem.W.Frag} {C : Cs} {U : UX} {G H G' H' G1 H1 G2 H2 : Hp} {sl sl' : Slots} {rt rt' : Roots} {σ : L2.St} {ρ ρ' ρ1 : List Addr} {fps fps' fps1 : List (List Addr)}

/-! ### places handed to a callee -/
abbrev Pl := Nat × List Nat
/-- the roots of these values, each once -/
def rdd : List Nat → List Val → List Nat
  | rs, [] => rs
  | rs, .dat _ :: xs => rdd rs xs
  | rs, .ref r _ :: xs => rdd (if rs.contains r then rs else rs ++ [r]) xs
def plc (xs : List Val) : List Pl := (rdd [] xs).map fun r => (r, [])
/-- the values as the callee sees them: its roots are these -/
def renV (rs : List Nat) : Val → Val
  | .dat d => .dat d
  | .ref r p => .ref (rs.idxOf r) p
def ren (xs : List Val) : List Val := xs.map (renV (rdd [] xs))
def getR (rt : Roots) : List Pl → Option (List T)
  | [] => some []
  | (r, p) :: ps => match tatN rt r p, getR rt ps with
    | some t, some ts => some (t :: ts)
    | _, _ => none
def putR (rt : Roots) : List Pl → List T → Roots
  | (r, p) :: ps, t :: ts => (putR rt ps ts).modify r (T.put t p)
  | _, _ => rt
def dst : List Pl → Bool
  | [] => true
  | (r, _) :: ps => ps.all (fun q => r != q.1) && dst ps
theorem mod_get {α : Type} (l : List α) (r : Nat) (f : α → α) (i : Nat) : (l.modify r f)[i]? = if r = i then (l[i]?).map f else l[i]? := by
  rw [List.getElem?_modify]
  split <;> simp_all
theorem over_over (f g h : T → T) : ∀ t : T, (∀ u, T.over f (g u) = h u) → T.over f (T.over g t) = T.over h t
  | .dat d, e => e _
  | .lst _, e => e _
  | .obj _ _, e => e _
  | .dct _ _, e => e _
  | .nm a t, e => congrArg (T.nm a) (over_over f g h t e)
theorem over_strip (f : T → T) (u : T) : T.over f u.strip = f u.strip := by
  cases q : u.strip with
  | dat d => rfl
  | lst ts => rfl
  | obj c ts => rfl
  | dct ks ts => rfl
  | nm a t => exact absurd q (T.strip_nm u)
theorem over_ext (f g : T → T) : ∀ t : T, (∀ d, f (.dat d) = g (.dat d)) → (∀ ts, f (.lst ts) = g (.lst ts)) → (∀ c ts, f (.obj c ts) = g (.obj c ts)) → (∀ ks ts, f (.dct ks ts) = g (.dct ks ts)) → T.over f t = T.over g t
  | .dat d, h, _, _, _ => h d
  | .lst ts, _, h, _, _ => h ts
  | .obj c ts, _, _, h, _ => h c ts
  | .dct c ts, _, _, _, h => h c ts
  | .nm a t, h1, h2, h3, h4 => congrArg (T.nm a) (over_ext f g t h1 h2 h3 h4)
theorem put_put (u v : T) : ∀ (p : List Nat) (t : T), T.put u p (T.put v p t) = T.put u p t
  | [], t => over_over _ _ _ t fun _ => over_strip _ v
  | i :: p, .nm a t => congrArg (T.nm a) (put_put u v (i :: p) t)
  | i :: p, .dat d => by simp [T.put, T.over, T.kids]
  | i :: p, .lst ts => by
    cases q : ts[i]? with
    | none => simp [T.put, T.over, T.kids, q]
    | some x =>
      have hi' : i < ts.length := (List.getElem?_eq_some_iff.mp q).1
      simp only [T.put, T.over, T.kids, q, T.withKids]
      rw [List.getElem?_set_self hi']
      simp only [put_put u v p x, List.set_set]
  | i :: p, .obj c ts => by
    cases q : ts[i]? with
    | none => simp [T.put, T.over, T.kids, q]
    | some x =>
      have hi' : i < ts.length := (List.getElem?_eq_some_iff.mp q).1
      simp only [T.put, T.over, T.kids, q, T.withKids]
      rw [List.getElem?_set_self hi']
      simp only [put_put u v p x, List.set_set]
  | i :: p, .dct c ts => by
    cases q : ts[i]? with
    | none => simp [T.put, T.over, T.kids, q]
    | some x =>
      have hi' : i < ts.length := (List.getElem?_eq_some_iff.mp q).1
      simp only [T.put, T.over, T.kids, q, T.withKids]
      rw [List.getElem?_set_self hi']
      simp only [put_put u v p x, List.set_set]
theorem tat_mod (rt : Roots) (r : Nat) (f : T → T) (i : Nat) (p : List Nat) (h : r ≠ i) : tatN (rt.modify r f) i p = tatN rt i p := by
  unfold tatN
  rw [mod_get, if_neg h]
theorem getR_mod (rt : Roots) (r : Nat) (f : T → T) : ∀ ps : List Pl, (ps.all fun q => r != q.1) = true → getR (rt.modify r f) ps = getR rt ps
  | [], _ => rfl
  | (i, p) :: ps, h => by
    simp only [List.all_cons, Bool.and_eq_true] at h
    have h1 : r ≠ i := bne_iff_ne.mp h.1
    show (match tatN (rt.modify r f) i p, getR (rt.modify r f) ps with | some t, some ts => some (t :: ts) | _, _ => none) = _
    rw [tat_mod rt r f i p h1, getR_mod rt r f ps h.2]
    rfl
theorem putR_mod (rt : Roots) (r : Nat) (f : T → T) : ∀ (ps : List Pl) (ts : List T), (ps.all fun q => r != q.1) = true → putR (rt.modify r f) ps ts = (putR rt ps ts).modify r f
  | [], _, _ => by simp [putR]
  | _ :: _, [], _ => by simp [putR]
  | (i, p) :: ps, t :: ts, h => by
    simp only [List.all_cons, Bool.and_eq_true] at h
    have h1 : r ≠ i := bne_iff_ne.mp h.1
    show (putR (rt.modify r f) ps ts).modify i (T.put t p) = ((putR rt ps ts).modify i (T.put t p)).modify r f
    rw [putR_mod rt r f ps ts h.2]
    refine List.ext_getElem? fun j => ?_
    simp only [mod_get]
    by_cases e1 : i = j
    · by_cases e2 : r = j
      · exact absurd (e2.trans e1.symm) h1
      · simp [e1, e2]
    · by_cases e2 : r = j <;> simp [e1, e2]
theorem putR_at (rt : Roots) (r : Nat) : ∀ (ps : List Pl) (ts : List T), (ps.all fun q => r != q.1) = true → (putR rt ps ts)[r]? = rt[r]?
  | [], _, _ => by simp [putR]
  | _ :: _, [], _ => by simp [putR]
  | (i, p) :: ps, t :: ts, h => by
    simp only [List.all_cons, Bool.and_eq_true] at h
    have h1 : r ≠ i := bne_iff_ne.mp h.1
    show ((putR rt ps ts).modify i (T.put t p))[r]? = _
    rw [mod_get, if_neg fun z => h1 z.symm]
    exact putR_at rt r ps ts h.2
theorem Rts.at (s : Rts K C G H rt ρ fps) {r : Nat} {p : List Nat} {t : T} {a : Addr} (h : tatN rt r p = some t) (ha : ρ[r]? = some a) : ∃ w L fu R, fol H p (.ref a) = some w ∧ TR K C G H w t fu ∧ fps.flatten = L ++ (fu ++ R) ∧
    ∀ (G' H' : Hp) (t' : T) (fu' : List Addr), Ex G G' → (∀ a ∈ L ++ R, H' a = H a) → TR K C G' H' w t' fu' → ∃ fps', Rts K C G' H' (rt.modify r (T.put t' p)) ρ fps' ∧ fps'.flatten = L ++ (fu' ++ R) := by
  unfold tatN at h
  cases q : rt[r]? with
  | none => rw [q] at h; cases h
  | some u =>
    rw [q] at h
    obtain ⟨b, L, fu, R, h1, h2, h3, h4⟩ := s.split q
    rw [ha] at h1
    cases h1
    obtain ⟨w, L2, fu2, R2, k1, k2, k3, k4⟩ := h2.node h
    refine ⟨w, L ++ L2, fu2, R2 ++ R, k1, k2, by rw [h3, k3]; simp, fun G' H' t' fu' eg st h' => ?_⟩
    have e : rt.modify r (T.put t' p) = rt.set r (T.put t' p u) := by
      refine List.ext_getElem? fun i => ?_
      rw [mod_get, List.getElem?_set]
      by_cases z : r = i
      · subst z
        have := (List.getElem?_eq_some_iff.mp q).1
        have e2 : rt[r] = u := by rw [List.getElem?_eq_getElem this] at q; exact Option.some.inj q
        simp [this, e2]
      · simp [z]
    rw [e]
    obtain ⟨fps', y1, y2⟩ := h4 G' H' (T.put t' p u) (L2 ++ (fu' ++ R2)) eg (fun b hb => st b (by rcases List.mem_append.mp hb with y | y <;> simp [y])) (k4 G' H' t' fu' eg (fun b hb => st b (by rcases List.mem_append.mp hb with y | y <;> simp [y])) h')
    exact ⟨fps', y1, by rw [y2]; simp⟩
theorem over_any : ∀ t : T, (T.over (fun _ => (T.dat .any).strip) t).strip = .dat .any
  | .dat _ => rfl
  | .lst _ => rfl
  | .obj _ _ => rfl
  | .dct _ _ => rfl
  | .nm _ t => over_any t
theorem put_at : ∀ (p : List Nat) (u0 t : T), T.at p u0 = some t → ∃ X, T.at p (T.put (.dat .any) p u0) = some X ∧ X.strip = .dat .any
  | [], u0, _, _ => ⟨_, rfl, over_any u0⟩
  | i :: p, .nm a t0, t, h => put_at (i :: p) t0 t h
  | i :: p, .dat d, t, h => by simp [T.at, T.kids] at h
  | i :: p, .lst ts, t, h => by
    cases q : ts[i]? with
    | none => simp [T.at, T.kids, q] at h
    | some x =>
      have hx : T.at p x = some t := by simpa [T.at, T.kids, q] using h
      have hi' : i < ts.length := (List.getElem?_eq_some_iff.mp q).1
      simp only [T.put, T.over, T.kids, q, T.withKids, T.at]
      rw [List.getElem?_set_self hi']
      exact put_at p x t hx
  | i :: p, .obj c ts, t, h => by
    cases q : ts[i]? with
    | none => simp [T.at, T.kids, q] at h
    | some x =>
      have hx : T.at p x = some t := by simpa [T.at, T.kids, q] using h
      have hi' : i < ts.length := (List.getElem?_eq_some_iff.mp q).1
      simp only [T.put, T.over, T.kids, q, T.withKids, T.at]
      rw [List.getElem?_set_self hi']
      exact put_at p x t hx
  | i :: p, .dct c ts, t, h => by
    cases q : ts[i]? with
    | none => simp [T.at, T.kids, q] at h
    | some x =>
      have hx : T.at p x = some t := by simpa [T.at, T.kids, q] using h
      have hi' : i < ts.length := (List.getElem?_eq_some_iff.mp q).1
      simp only [T.put, T.over, T.kids, q, T.withKids, T.at]
      rw [List.getElem?_set_self hi']
      exact put_at p x t hx
/-- the trees at these places, taken out and put back -/
theorem Rts.borrow : ∀ {ps : List Pl} {rt : Roots} {fps : List (List Addr)} {ts : List T} {bs : List Addr}, Rts K C G H rt ρ fps → dst ps = true → getR rt ps = some ts → Paired (fun (q : Pl) b => ∃ a, ρ[q.1]? = some a ∧ fol H q.2 (.ref a) = some (.ref b) ∧ NodeV H (.ref b) ∧ q.2 = []) ps bs →
    ∃ fpsc rst, Rts K C G H ts bs fpsc ∧ fps.flatten.Perm (fpsc.flatten ++ rst) ∧ ∀ (G' H' : Hp) (ts' : List T) (fpsc' : List (List Addr)), Ex G G' → Idn H H' → (∀ a ∈ rst, H' a = H a) → Rts K C G' H' ts' bs fpsc' → ∃ fps', Rts K C G' H' (putR rt ps ts') ρ fps' ∧ fps'.flatten.Perm (fpsc'.flatten ++ rst)
  | [], rt, fps, ts, [], s, _, e, .nil => by
    cases e
    refine ⟨[], fps.flatten, .nil, by simp, fun G' H' ts' fpsc' eg _ st r => ?_⟩
    cases r
    exact ⟨fps, s.stay eg st, by simp⟩
  | (r, p) :: ps, rt, fps, ts, b :: bs, s, d, e, .cons ⟨a, ha, hf, hn, hpp⟩ hp => by
    simp only [dst, Bool.and_eq_true] at d
    simp only [getR] at e
    cases q1 : tatN rt r p with
    | none => rw [q1] at e; cases e
    | some t =>
      cases q2 : getR rt ps with
      | none => rw [q1, q2] at e; cases e
      | some us =>
        rw [q1, q2] at e
        cases e
        obtain ⟨w, L, fu, R, k1, k2, k3, k4⟩ := s.at q1 ha
        rw [hf] at k1
        cases k1
        obtain ⟨fps1, y1, y2⟩ := k4 G H (.dat .any) [] (Ex.refl G) (fun _ _ => rfl) (.dat (.any _))
        have ge := getR_mod rt r (T.put (.dat .any) p) ps d.1
        obtain ⟨fpsc, rst, i1, i2, i3⟩ := Rts.borrow (ps := ps) y1 d.2 (ge.trans q2) hp
        refine ⟨fu :: fpsc, rst, .cons k2 i1, ?_, fun G' H' ts' fpsc' eg idn st rc => ?_⟩
        · rw [k3]
          have h1 : (L ++ (fu ++ R)).Perm (fu ++ (L ++ R)) := by
            rw [← List.append_assoc, ← List.append_assoc]
            exact List.Perm.append_right R List.perm_append_comm
          refine h1.trans ?_
          rw [List.flatten_cons, List.append_assoc]
          refine List.Perm.append_left fu ?_
          rw [y2] at i2
          simpa using i2
        · cases rc with
          | @cons t' _ fu' ts'' _ fpsc'' h' rc =>
            obtain ⟨fps2, z1, z2⟩ := i3 G' H' ts'' fpsc'' eg idn st rc
            obtain ⟨X, hat, hX⟩ : ∃ X, tatN (putR (rt.modify r (T.put (.dat .any) p)) ps ts'') r p = some X ∧ X.strip = .dat .any := by
              unfold tatN
              rw [putR_at _ r ps ts'' d.1, mod_get, if_pos rfl]
              unfold tatN at q1
              cases q3 : rt[r]? with
              | none => rw [q3] at q1; cases q1
              | some u0 =>
                rw [q3] at q1
                have q1 : T.at p u0 = some t := q1
                show ∃ X, T.at p (T.put (.dat .any) p u0) = some X ∧ _
                exact put_at p u0 t q1
            obtain ⟨w2, L2, fu2, R2, m1, m2, m3, m4⟩ := z1.at hat ha
            have m0 : fol H' p (.ref a) = some (.ref b) := by
              have hpp : p = [] := hpp
              subst hpp
              exact hf
            rw [m0] at m1
            cases m1
            obtain ⟨fps3, n1, n2⟩ := m4 G' H' t' fu' (Ex.refl _) (fun _ _ => rfl) h'
            refine ⟨fps3, ?_, ?_⟩
            · have e2 : (putR (rt.modify r (T.put (.dat .any) p)) ps ts'').modify r (T.put t' p) = putR rt ((r, p) :: ps) (t' :: ts'') := by
                rw [putR_mod rt r _ ps ts'' d.1]
                show _ = (putR rt ps ts'').modify r (T.put t' p)
                refine List.ext_getElem? fun j => ?_
                simp only [mod_get]
                by_cases e1 : r = j
                · simp only [e1, if_true, Option.map_map]
                  congr 1
                  funext x
                  exact put_put _ _ _ _
                · simp [e1]
              rw [← e2]
              exact n1
            · rw [n2]
              have e3 : fu2 = [] := by
                have m2 := m2.strip
                rw [hX] at m2
                cases m2
                rfl
              subst e3
              have h1 : (L2 ++ (fu' ++ R2)).Perm (fu' ++ (L2 ++ R2)) := by
                rw [← List.append_assoc, ← List.append_assoc]
                exact List.Perm.append_right R2 List.perm_append_comm
              refine h1.trans ?_
              rw [List.flatten_cons, List.append_assoc]
              refine List.Perm.append_left fu' ?_
              rw [m3] at z2
              simpa using z2

/-! ### defs -/
abbrev CW := List Val → Roots → (T → Roots → Prop) → (Exn → Roots → Prop) → Prop
variable (K C)
def spW (cw : CW) : Sp := fun vs H Q E => ∃ G ρ fps args rt k kx, RSt K C rt ρ fps G H ∧ VRs K C G H ρ args vs ∧ cw args rt k kx ∧
  (∀ t rt' fps' fp G' H' v, RSt K C rt' ρ fps' G' H' → Nx fps.flatten G H G' H' fps'.flatten → Own K C fps' G' H' t v fp → (∀ a ∈ fp, a ∈ fps.flatten ∨ H a = none) → k t rt' → Q v H') ∧
  ∀ x rt' fps' G' H' cls d, RSt K C rt' ρ fps' G' H' → Nx fps.flatten G H G' H' fps'.flatten → XR K C H G' H' x cls d → kx x rt' → E cls d H'
variable {K C}
/-- what a call of w's def gives: n more slots than parameters -/
def cwOf (m n : Nat) (w : WS) : CW := fun args rt k kx => args.length = m ∧ w
  { nx := fun _ rt' => k (.dat .non) (rt'.take rt.length)
    rt := fun x rt' => match x with
      | .dat d => k (.dat d) (rt'.take rt.length)
      | .ref r [] => rt.length ≤ r ∧ match rt'[r]? with
        | some t => k t (rt'.take rt.length)
        | none => False
      | _ => False
    ro := fun t rt' => k t (rt'.take rt.length)
    ex := fun x _ rt' => kx x (rt'.take rt.length) } (args.map some ++ List.replicate n none) rt
theorem pre_take (p : Pre ρ ρ') : ρ'.take ρ.length = ρ := by
  refine List.ext_getElem? fun i => ?_
  by_cases h : i < ρ.length
  · rw [List.getElem?_take_of_lt h, p i ρ[i] (List.getElem?_eq_getElem h), List.getElem?_eq_getElem h]
  · have h1 : ρ[i]? = none := List.getElem?_eq_none (by omega)
    have h2 : (ρ'.take ρ.length)[i]? = none := List.getElem?_eq_none (by rw [List.length_take]; omega)
    rw [h1, h2]
/-- the reading at a def's entry -/
theorem w_enter {N ps : List Str} {n : Nat} {body : WS} {vs : List V} {Q : VK} {E : XK} (hn : N.length = ps.length + n) (h : spW K C (cwOf ps.length n body) vs H Q E) : tS K C (fun c d _ H => E c d H) body { nx := fun _ H' => Q .non H', rt := Q } (L2.start N vs) H := by
  obtain ⟨G, ρ, fps, args, rt, k', kx, r, va, ⟨h1, w⟩, q, qx⟩ := h
  have hl := r.root.lens.1
  refine ⟨_, _, rt, ρ, fps, G, ⟨r, ?_, ?_⟩, w, ⟨?_, ?_, ?_, ?_, ?_, ?_⟩⟩
  · unfold L2.start
    simp only [List.length_append, List.length_map, List.length_replicate]
    rw [va.len, h1]
    omega
  · intro i x e
    by_cases hi : i < args.length
    · rw [List.getElem?_append_left (by rw [List.length_map]; exact hi), List.getElem?_map] at e
      cases e2 : args[i]? with
      | none => rw [e2] at e; cases e
      | some y =>
        rw [e2] at e
        cases e
        obtain ⟨v, h2, h3⟩ := va.get e2
        refine ⟨v, ?_, h3⟩
        unfold L2.start
        rw [List.getElem?_append_left (by rw [List.length_map, va.len]; exact hi), List.getElem?_map, h2]
        rfl
    · rw [List.getElem?_append_right (by rw [List.length_map]; omega), List.getElem?_replicate] at e
      split at e <;> cases e
  · intro sl' rt' σ' ρ' fps' G' H' s' n' p' h
    have r2 := s'.toRSt.take ρ.length
    rw [pre_take p', hl] at r2
    exact q (.dat .non) _ _ [] G' H' .non r2 (n'.less (flat_take _)) (Own.dat .non) (fun _ z => nomatch z) h
  · intro x rt' ρ' fps' G' H' v s' n' p' vr h
    have r2 := s'.take ρ.length
    rw [pre_take p', hl] at r2
    dsimp only at h
    split at h
    · exact q _ _ _ [] G' H' v r2 (n'.less (flat_take _)) (Own.dat vr) (fun _ z => nomatch z) h
    · rename_i r
      obtain ⟨h2, h⟩ := h
      split at h
      · rename_i t ht
        obtain ⟨a, z1, z2, z3⟩ := vr
        cases Option.some.inj z2
        -- the root apart from the first ones
        have hd : rt' = rt'.take rt.length ++ rt'.drop rt.length := (List.take_append_drop _ _).symm
        obtain ⟨fr, hfr⟩ : ∃ fr, fps'[r]? = some fr := ⟨_, List.getElem?_eq_getElem (by rw [s'.root.lens.2]; exact (List.getElem?_eq_some_iff.mp ht).1)⟩
        have tr : ∀ {rt : Roots} {ρ : List Addr} {fps : List (List Addr)} {r : Nat} {t : T} {a : Addr} {fr : List Addr}, Rts K C G' H' rt ρ fps → rt[r]? = some t → ρ[r]? = some a → fps[r]? = some fr → TR K C G' H' (.ref a) t fr := by
          intro rt ρ fps r t a fr h
          induction h generalizing r with
          | nil => intro e; simp at e
          | cons h _ ih =>
            intro e1 e2 e3
            cases r with
            | zero => cases Option.some.inj e1; cases Option.some.inj e2; cases Option.some.inj e3; exact h
            | succ r => exact ih e1 e2 e3
        have nd := s'.nd
        rw [← List.take_append_drop rt.length fps', List.flatten_append] at nd
        have nd := List.nodup_append.mp nd
        have inD : ∀ a ∈ fr, a ∈ (fps'.drop rt.length).flatten := fun a ha => List.mem_flatten.mpr ⟨fr, by
          refine List.mem_of_getElem? (i := r - rt.length) ?_
          rw [List.getElem?_drop]
          rw [show rt.length + (r - rt.length) = r by omega]
          exact hfr, ha⟩
        refine q t _ _ fr G' H' _ r2 (n'.less (flat_take _)) ⟨tr s'.root ht z1 hfr, ?_, fun a ha z => nd.2.2 a z a (inD a ha) rfl, fun a ha => s'.fr a ?_⟩ (fun a ha => n'.new a ?_) h
        · have : fr.Sublist fps'.flatten := List.sublist_flatten_of_mem (List.mem_of_getElem? hfr)
          exact List.Nodup.sublist this s'.nd
        · exact List.mem_flatten.mpr ⟨fr, List.mem_of_getElem? hfr, ha⟩
        · exact List.mem_flatten.mpr ⟨fr, List.mem_of_getElem? hfr, ha⟩
      · exact h.elim
    · exact h.elim
  · intro t rt' ρ' fps' fp G' H' v s' n' p' o new h
    have r2 := s'.take ρ.length
    rw [pre_take p', hl] at r2
    exact q t _ _ fp G' H' v r2 (n'.less (flat_take _)) ⟨o.tr, o.nd, fun a ha z => o.ap a ha (flat_take _ a z), o.fr⟩ new h
  · exact fun _ _ _ _ _ _ _ _ _ _ h => h.elim
  · exact fun _ _ _ _ _ _ _ _ _ _ h => h.elim
  · intro x sl' rt' σ' ρ' fps' G' H' cls d s' n' p' xr h
    have r2 := s'.toRSt.take ρ.length
    rw [pre_take p', hl] at r2
    exact qx x _ _ G' H' cls d r2 (n'.less (flat_take _)) xr h
theorem spW_len {ps : List Str} {n : Nat} {body : WS} {vs : List V} {Q : VK} {E : XK} (h : spW K C (cwOf ps.length n body) vs H Q E) : vs.length = ps.length := by
  obtain ⟨G, ρ, fps, args, rt, k, kx, r, v, ⟨h1, _⟩, _⟩ := h
  rw [v.len, h1]
/-- a def that may let errors out -/
theorem ok_W {P : Program} {w : World} {mg : Str → Option Value} {base : Heap} {x qual : Str} {st : Stmt} {f : Addr} {fd : FuncData} {N ps : List Str} {k n : Nat} {body : WS}
    (F : Fun K x qual st f fd) (S : FnScope N ps (defScope st)) (hn : N.length = ps.length + n)
    (der : ∀ (cdv : Value) (A : Around) (outer : List Env) (s : Shared) (H : Hp) (E : XK), Room k (A.deeper (envOfC qual (defScope st) s.heap.objs.size f cdv)) → L2N.Takes (cxOf (L2N.CX P w) P w K mg base N qual (defScope st) f cdv A outer s H E) (fun c d _ H => E c d H) →
      PSs (cxOf (L2N.CX P w) P w K mg base N qual (defScope st) f cdv A outer s H E) (defBody st) (tS K C (fun c d _ H => E c d H) body)) :
    FnOk P w K mg base (L2N.CX P w) (k + 1) f fd ps (spW K C (cwOf ps.length n body)) := by
  obtain ⟨oc, od, kV, doc, pm, an, cdv, ct, osl, rfl, lk, hcd⟩ := F.ex
  exact fn_of lk hcd S (fun vs H Q E h => spW_len h) fun A outer s H vs Q E hr h => ⟨_, der cdv A outer s H E hr (L2N.takes_of rfl rfl rfl rfl), w_enter hn h⟩
/-- a def that lets none out -/
theorem ok_W0 {P : Program} {w : World} {mg : Str → Option Value} {base : Heap} {x qual : Str} {st : Stmt} {f : Addr} {fd : FuncData} {N ps : List Str} {k n : Nat} {body : WS}
    (F : Fun K x qual st f fd) (S : FnScope N ps (defScope st)) (hn : N.length = ps.length + n)
    (der : ∀ (cdv : Value) (A : Around) (outer : List Env) (s : Shared) (H : Hp) (E : XK), Room k (A.deeper (envOfC qual (defScope st) s.heap.objs.size f cdv)) → L2N.Takes (cxOf CX0 P w K mg base N qual (defScope st) f cdv A outer s H E).nox (fun _ _ _ _ => False) →
      PSs (cxOf CX0 P w K mg base N qual (defScope st) f cdv A outer s H E).nox (defBody st) (tS K C (fun _ _ _ _ => False) body)) :
    FnOk P w K mg base CX0 (k + 1) f fd ps (fun vs H Q _ => spW K C (cwOf ps.length n body) vs H Q fun _ _ _ => False) := by
  refine F.ok S (fun vs H Q E h => spW_len h) (fun cdv A outer s H vs Q E hr h => ⟨_, der cdv A outer s H E hr (fun u s' x => ?_), w_enter hn h⟩)
  obtain ⟨_, _, _, _, _, _, _, _, _, _, _, _, _, _, _, _, z⟩ := x
  exact z.elim
end
end Wv
end

section
set_option Elab.async false
set_option linter.all false
set_option maxRecDepth 100000
set_option maxHeartbeats 4000000
namespace Wv
open PySem PySem.Spec PyProof.Rows L2 Evl
section
variable {K : PySem.W.Frag} {C : Cs} {U : UX} {G H G' H' G1 H1 G2 H2 : Hp} {sl sl' : Slots} {rt rt' : Roots} {σ : L2.St} {ρ ρ' ρ1 : List Addr} {fps fps' fps1 : List (List Addr)}
variable {X : Cx} {CX : CXT} {a b c e o : Expr} {es rest : List Expr} {wa wb wc : WE} {pos p apos : Pos} {Z : WEnds} {E : L2.St → XK} {st : Stmt} {k : Nat} {f Ca : Addr} {fd : FuncData} {ps : List Str} {sp : Sp} {x m : Str} {ta : TE} {t : TA} {ds : List Value}
theorem rdd_mem : ∀ (xs : List Val) (rs : List Nat), (∀ r ∈ rs, r ∈ rdd rs xs) ∧ ∀ r p, Val.ref r p ∈ xs → r ∈ rdd rs xs
  | [], rs => ⟨fun _ h => h, fun _ _ h => nomatch h⟩
  | .dat d :: xs, rs => by
    obtain ⟨h1, h2⟩ := rdd_mem xs rs
    refine ⟨h1, fun r p h => ?_⟩
    rcases List.mem_cons.mp h with z | z
    · cases z
    · exact h2 r p z
  | .ref i q :: xs, rs => by
    obtain ⟨h1, h2⟩ := rdd_mem xs (if rs.contains i then rs else rs ++ [i])
    refine ⟨fun r h => h1 r ?_, fun r p h => ?_⟩
    · split
      · exact h
      · simp [h]
    · rcases List.mem_cons.mp h with z | z
      · injection z with z1 z2
        subst z1
        refine h1 r ?_
        split
        · rename_i c
          simpa using c
        · simp
      · exact h2 r p z
theorem node_root {p : List Nat} {a : Addr} {v : V} (h : fol H p (.ref a) = some v) (n : NodeV H v) : NodeV H (.ref a) := by
  cases p with
  | nil => cases Option.some.inj h; exact n
  | cons j p =>
    have h : (match H a with | some (.lst xs) => (xs[j]?).bind (fol H p) | some (.ins _ _ fs) => ((fs.map Prod.snd)[j]?).bind (fol H p) | some (.dK kvs) => ((kvs.map Prod.snd)[j]?).bind (fol H p) | _ => none) = some v := h
    split at h
    · rename_i xs hb
      exact ⟨a, rfl, .inl ⟨xs, hb⟩⟩
    · rename_i c dx fs hb
      exact ⟨a, rfl, .inr (.inl ⟨c, dx, fs, hb⟩)⟩
    · rename_i kvs hb
      exact ⟨a, rfl, .inr (.inr ⟨kvs, hb⟩)⟩
    · cases h
theorem VRs.mem : ∀ {xs : List Val} {vs : List V}, VRs K C G H ρ xs vs → ∀ x ∈ xs, ∃ v, VR K C G H ρ x v
  | _, _, .nil => fun _ h => nomatch h
  | _, _, .cons h r => fun x hx => by
    rcases List.mem_cons.mp hx with z | z
    · subst z; exact ⟨_, h⟩
    · exact VRs.mem r x z
theorem rdd_only : ∀ (xs : List Val) (rs : List Nat), ∀ r ∈ rdd rs xs, r ∈ rs ∨ ∃ p, Val.ref r p ∈ xs
  | [], rs => fun _ h => .inl h
  | .dat d :: xs, rs => fun r h => by
    rcases rdd_only xs rs r h with z | ⟨p, z⟩
    · exact .inl z
    · exact .inr ⟨p, List.mem_cons_of_mem _ z⟩
  | .ref i q :: xs, rs => fun r h => by
    rcases rdd_only xs _ r h with z | ⟨p, z⟩
    · split at z
      · exact .inl z
      · rcases List.mem_append.mp z with y | y
        · exact .inl y
        · have : r = i := by simpa using y
          subst this
          exact .inr ⟨q, List.mem_cons_self⟩
    · exact .inr ⟨p, List.mem_cons_of_mem _ z⟩
theorem vr_ren {xs : List Val} {vs : List V} (h : VRs K C G H ρ xs vs) : ∃ bs, Paired (fun (q : Pl) b => ∃ a, ρ[q.1]? = some a ∧ fol H q.2 (.ref a) = some (.ref b) ∧ NodeV H (.ref b) ∧ q.2 = []) (plc xs) bs ∧ VRs K C G H bs (ren xs) vs := by
  have each : ∀ rs : List Nat, (∀ r ∈ rs, ∃ a, ρ[r]? = some a ∧ NodeV H (.ref a)) → ∃ bs, Paired (fun (q : Pl) b => ∃ a, ρ[q.1]? = some a ∧ fol H q.2 (.ref a) = some (.ref b) ∧ NodeV H (.ref b) ∧ q.2 = []) (rs.map fun r => (r, [])) bs ∧ ∀ r ∈ rs, ∃ a, ρ[r]? = some a ∧ bs[rs.idxOf r]? = some a := by
    intro rs
    induction rs with
    | nil => exact fun _ => ⟨[], .nil, fun _ z => nomatch z⟩
    | cons r rs ih =>
      intro h
      obtain ⟨bs, h1, h2⟩ := ih fun x hx => h x (List.mem_cons_of_mem _ hx)
      obtain ⟨a, ha, hn⟩ := h r List.mem_cons_self
      refine ⟨a :: bs, .cons ⟨a, ha, rfl, hn, rfl⟩ h1, fun x hx => ?_⟩
      by_cases e : r = x
      · subst e
        exact ⟨a, ha, by simp⟩
      · rcases List.mem_cons.mp hx with z | z
        · exact absurd z.symm e
        · obtain ⟨b, k1, k2⟩ := h2 x z
          refine ⟨b, k1, ?_⟩
          rw [List.idxOf_cons]
          have : (r == x) = false := by simpa using e
          rw [this]
          exact k2
  have hroot : ∀ r ∈ rdd [] xs, ∃ a, ρ[r]? = some a ∧ NodeV H (.ref a) := fun r hr => by
    rcases rdd_only xs [] r hr with z | ⟨p, z⟩
    · cases z
    · obtain ⟨v, a, h1, h2, h3⟩ := h.mem _ z
      exact ⟨a, h1, node_root h2 h3.1⟩
  obtain ⟨bs, h1, h2⟩ := each _ hroot
  refine ⟨bs, h1, ?_⟩
  have gen : ∀ {ys : List Val} {us : List V}, VRs K C G H ρ ys us → (∀ r p, Val.ref r p ∈ ys → r ∈ rdd [] xs) → VRs K C G H bs (ys.map (renV (rdd [] xs))) us := by
    intro ys us hy
    induction hy with
    | nil => exact fun _ => .nil
    | @cons x v ys us hx _ ih =>
      intro hm
      refine .cons ?_ (ih fun r p hr => hm r p (List.mem_cons_of_mem _ hr))
      cases x with
      | dat d => exact hx
      | ref r p =>
        obtain ⟨a, k1, k2, k3⟩ := hx
        obtain ⟨b, q1, q2⟩ := h2 r (hm r p List.mem_cons_self)
        rw [k1] at q1
        cases q1
        exact ⟨a, q2, k2, k3⟩
  exact gen h fun r p hr => (rdd_mem xs []).2 r p hr
/-- behind a callee: the caller's own state -/
theorem borrowed {xs : List Val} {vs : List V} {ts : List T} (r : RSt K C rt ρ fps G H) (v : VRs K C G H ρ xs vs) (hd : dst (plc xs) = true) (hg : getR rt (plc xs) = some ts) : ∃ bs fpsc, RSt K C ts bs fpsc G H ∧ VRs K C G H bs (ren xs) vs ∧ (∀ a ∈ fpsc.flatten, a ∈ fps.flatten) ∧
    ∀ ts' fpsc' G' H', RSt K C ts' bs fpsc' G' H' → Nx fpsc.flatten G H G' H' fpsc'.flatten → ∃ fps', RSt K C (putR rt (plc xs) ts') ρ fps' G' H' ∧ Nx fps.flatten G H G' H' fps'.flatten ∧ ∀ fp : List Addr, (∀ a ∈ fp, a ∉ fpsc'.flatten) → (∀ a ∈ fp, a ∈ fpsc.flatten ∨ H a = none) → ∀ a ∈ fp, a ∉ fps'.flatten := by
  obtain ⟨bs, h1, h2⟩ := vr_ren v
  obtain ⟨fpsc, rst, i1, i2, i3⟩ := r.root.borrow hd hg h1
  have nd := i2.nodup_iff.mp r.nd
  have nd1 := List.nodup_append.mp nd
  have mem : ∀ a, a ∈ fps.flatten ↔ a ∈ fpsc.flatten ++ rst := fun a => i2.mem_iff
  refine ⟨bs, fpsc, ⟨r.sub, i1, nd1.1, fun a ha => r.fr a ((mem a).mpr (by simp [ha]))⟩, h2, fun a ha => (mem a).mpr (by simp [ha]), fun ts' fpsc' G' H' r' n' => ?_⟩
  have rin : ∀ a ∈ rst, H a ≠ none := fun a ha => r.root.inH a ((mem a).mpr (by simp [ha]))
  have rout : ∀ a ∈ rst, a ∉ fpsc.flatten := fun a ha z => nd1.2.2 a z a ha rfl
  have rkeep : ∀ a ∈ rst, H' a = H a ∧ G' a = none := fun a ha => by
    cases z : H a with
    | none => exact absurd z (rin a ha)
    | some o =>
      obtain ⟨k1, k2⟩ := n'.keep a o z (rout a ha)
      exact ⟨k1, k2 (r.fr a ((mem a).mpr (by simp [ha])))⟩
  have dis : ∀ a ∈ rst, a ∉ fpsc'.flatten := fun a ha z => by
    rcases n'.new a z with y | y
    · exact rout a ha y
    · exact rin a ha y
  obtain ⟨fps', z1, z2⟩ := i3 G' H' ts' fpsc' n'.g n'.idn (fun a ha => (rkeep a ha).1) r'.root
  have mem' : ∀ a, a ∈ fps'.flatten ↔ a ∈ fpsc'.flatten ++ rst := fun a => z2.mem_iff
  refine ⟨fps', ⟨r'.sub, z1, z2.nodup_iff.mpr (List.nodup_append.mpr ⟨r'.nd, nd1.2.1, fun a ha b hb e => dis b hb (by rw [← e]; exact ha)⟩), fun a ha => ?_⟩, ⟨n'.g, fun l u h z => ?_, n'.dom, fun l hl => ?_, n'.idn⟩, fun fp h1 h2 a ha z => ?_⟩
  · rcases List.mem_append.mp ((mem' a).mp ha) with y | y
    · exact r'.fr a y
    · exact (rkeep a y).2
  · exact n'.keep l u h fun y => z ((mem l).mpr (by simp [y]))
  · rcases List.mem_append.mp ((mem' l).mp hl) with y | y
    · rcases n'.new l y with x | x
      · exact .inl ((mem l).mpr (by simp [x]))
      · exact .inr x
    · exact .inl ((mem l).mpr (by simp [y]))
  · rcases List.mem_append.mp ((mem' a).mp z) with y | y
    · exact h1 a ha y
    · rcases h2 a ha with x | x
      · exact rout a y x
      · exact rin a y x
/-- a def is called: its promise from where the caller stands -/
theorem sp_use {cw : CW} {xs : List Val} {vs : List V} {ts : List T} {k : T → Roots → Prop} {kx : Exn → Roots → Prop} {Q : VK} {E : XK} (r : RSt K C rt ρ fps G H) (v : VRs K C G H ρ xs vs) (hd : dst (plc xs) = true) (hg : getR rt (plc xs) = some ts)
    (w : cw (ren xs) ts (fun t ts' => k t (putR rt (plc xs) ts')) fun x ts' => kx x (putR rt (plc xs) ts')) (q : ∀ t rt' fps' fp G' H' v, RSt K C rt' ρ fps' G' H' → Nx fps.flatten G H G' H' fps'.flatten → Own K C fps' G' H' t v fp → (∀ a ∈ fp, a ∈ fps.flatten ∨ H a = none) → k t rt' → Q v H')
    (qx : ∀ x rt' fps' G' H' cls d, RSt K C rt' ρ fps' G' H' → Nx fps.flatten G H G' H' fps'.flatten → XR K C H G' H' x cls d → kx x rt' → E cls d H') : spW K C cw vs H Q E := by
  obtain ⟨bs, fpsc, b1, b2, b3, b4⟩ := borrowed r v hd hg
  refine ⟨G, bs, fpsc, ren xs, ts, _, _, b1, b2, w, ?_, ?_⟩
  · intro t ts' fpsc' fp G' H' v r' n' o' new hk
    obtain ⟨fps', z1, z2, z3⟩ := b4 ts' fpsc' G' H' r' n'
    exact q t _ fps' fp G' H' v z1 z2 ⟨o'.tr, o'.nd, z3 fp o'.ap new, o'.fr⟩ (fun a ha => (new a ha).imp (b3 a) id) hk
  · intro x ts' fpsc' G' H' cls d r' n' xr hk
    obtain ⟨fps', z1, z2, z3⟩ := b4 ts' fpsc' G' H' r' n'
    exact qx x _ fps' G' H' cls d z1 z2 xr hk
/-- f(..) -/
def wCall (cw : CW) (w : WA) : WO := fun sl rt k => w sl rt fun xs rt1 => dst (plc xs) = true ∧ match getR rt1 (plc xs) with
  | some ts => cw (ren xs) ts (fun t ts' => k t (putR rt1 (plc xs) ts')) fun x ts' => sl.ex x sl.sl (putR rt1 (plc xs) ts')
  | none => False
theorem o_call {cw : CW} {w : WA} : ∀ σ H Q, tO K C U (wCall cw w) σ H Q → tCallS (spW K C cw) (fun σ cls d H => U cls d σ H) (tA K C U w) σ H Q := fun σ H Q ⟨sl, rt, ρ, fps, G, k, s, xf, w, q⟩ =>
  ⟨sl, rt, ρ, fps, G, _, s, xf, w, fun xs rt1 fps1 G1 H1 vs r1 n1 v1 ⟨hd, w1⟩ => by
    split at w1
    · rename_i ts ht
      exact sp_use r1 v1 hd ht w1 (fun t rt' fps' fp G' H' v r' n' o' new hk => q t rt' fps' fp G' H' v r' (n1.trans n') o' (fun a ha => (new a ha).elim (fun y => n1.new a y) fun y => .inr (n1.dom a y)) hk)
        fun x rt' fps' G' H' cls d r' n' xr hk => xf x _ rt' σ ρ fps' G' H' cls d (s.step r' (n1.trans n') fun _ _ e => e) (n1.trans n') (Pre.refl _) (xr.early n1.dom) hk
    · exact w1.elim⟩
theorem o_call0 {cw : CW} : ∀ σ H Q, tO K C U (wCall cw wNil) σ H Q → tCallS (spW K C cw) (fun σ cls d H => U cls d σ H) tNil σ H Q := fun σ H Q ⟨sl, rt, ρ, fps, G, k, s, xf, ⟨hd, w1⟩, q⟩ => by
  exact sp_use (xs := []) (ts := []) (k := fun t rt' => k t rt') (kx := fun x rt' => sl.ex x sl.sl rt') s.toRSt .nil rfl rfl w1 (fun t rt' fps' fp G' H' v r' n' o' new hk => q t rt' fps' fp G' H' v r' n' o' new hk)
    fun x rt' fps' G' H' cls d r' n' xr hk => xf x _ rt' σ ρ fps' G' H' cls d (s.step r' n' fun _ _ e => e) n' (Pre.refl _) xr hk
theorem pe_callS0 (F : FnOk X.prog X.w X.K X.mg X.base CX k f fd ps sp) (hr : Room k X.A) (hg : Gl X x) (hm : X.mg x = some (.ref f)) (hk : PySem.W.keepIn X.K (.ref f) = true) (hb : Binds X.K fd ps []) (hx : ∀ σ, PassesAt CX X σ (E σ))
    (hdb : (x == ("__debug__" : Str)) = false := by decide) : PE X (.Call (.Name x p) [] [] pos) (tCallS sp E tNil) := by
  refine ⟨fun pins s σ H Q I h => ?_⟩
  refine wpAny_Call_Name_kw (ld_glob I hg hm ?_ hdb)
  exact PySem.W.callWith_K0 I.kIn hk (run_fnSD (us := []) (dvs := []) (ds := []) F hr hb .nil (hx σ) I .nil h)
theorem wo_call {cw : CW} {w : WA} (h : PE X e (tCallS (spW K C cw) (fun σ cls d H => U cls d σ H) (tA K C U w))) : PE X e (tO K C U (wCall cw w)) := pe_imp h o_call
theorem wo_call0 {cw : CW} (h : PE X e (tCallS (spW K C cw) (fun σ cls d H => U cls d σ H) tNil)) : PE X e (tO K C U (wCall cw wNil)) := pe_imp h o_call0
def tMethX (C : Addr) (m : Str) (sp : Sp) (E : L2.St → XK) (ta : TE) (t : TA) : TE := fun σ H Q => ta σ H fun x H1 => ∃ a dx fs, x = .ref a ∧ H1 a = some (.ins C dx fs) ∧ fs.lookup m = none ∧ t σ H1 fun vs H2 => sp (x :: vs) H2 Q (E σ)
theorem pe_methX {pl : PySem.Sem Bool} (he : PE X o ta) (c : Cls X.K Ca) (hm : Meth X.K Ca m f) (F : FnOk X.prog X.w X.K X.mg X.base CX k f fd ps sp) (hr : Room k X.A) (hb : Binds X.K fd ps []) (hx : ∀ σ, PassesAt CX X σ (E σ)) (ha : PA X (e :: es) t)
    (hst : starEach (e :: es) X.env = (false, eval e X.env) :: starEach es X.env := by rfl) (hpl : (backTo pos (starEach es X.env)).any (·.1) = false := by rfl)
    (ht : eval (.Call (.Attribute o m apos) (e :: es) [] pos) X.env = (do
      let ov ← eval o X.env
      standAt apos.atName
      let (f, first) ← holding [ov] (getMethod ov m pl)
      callWith pos f first (backTo pos (starEach (e :: es) X.env)) (backToKw pos (keywordEach [] X.env))) := by rfl) :
    PE X (.Call (.Attribute o m apos) (e :: es) [] pos) (tMethX Ca m sp E ta t) := by
  refine ⟨fun pins s σ H Q I h => ?_⟩
  refine PySem.W.methodCall_KW (pl := pl) (thn (he.run pins s σ H _ I h) fun u s1 ⟨x, H1, I1, rx, a, dx, fs, ex, ea, l, q⟩ => ?_) ht
  subst ex
  obtain rfl : u = Value.ref a := rx
  refine getmeth_ok I1 ea c hm l ?_
  refine PySem.W.callWith_K (first := [.ref a]) (h₀ := X.base) I.ok.mod.kin hm.kp (thn (ha.run pos pins s1 σ H1 _ I1 q) fun us s2 ⟨vs, H2, I2, r, q2⟩ => ⟨I2.kIn, ?_⟩) hst hpl
  exact run_fnSD (us := .ref a :: us) (vs := .ref a :: vs) (dvs := []) (ds := []) F hr hb .nil (hx σ) I2 (.cons rfl r) (by simpa using q2)
theorem pe_methX0 {pl : PySem.Sem Bool} (he : PE X o ta) (c : Cls X.K Ca) (hm : Meth X.K Ca m f) (F : FnOk X.prog X.w X.K X.mg X.base CX k f fd ps sp) (hr : Room k X.A) (hb : Binds X.K fd ps []) (hx : ∀ σ, PassesAt CX X σ (E σ))
    (ht : eval (.Call (.Attribute o m apos) [] [] pos) X.env = (do
      let ov ← eval o X.env
      standAt apos.atName
      let (f, first) ← holding [ov] (getMethod ov m pl)
      callWith pos f first (backTo pos (starEach [] X.env)) (backToKw pos (keywordEach [] X.env))) := by rfl) :
    PE X (.Call (.Attribute o m apos) [] [] pos) (tMethX Ca m sp E ta tNil) := by
  refine ⟨fun pins s σ H Q I h => ?_⟩
  refine PySem.W.methodCall_KW (pl := pl) (thn (he.run pins s σ H _ I h) fun u s1 ⟨x, H1, I1, rx, a, dx, fs, ex, ea, l, q⟩ => ?_) ht
  subst ex
  obtain rfl : u = Value.ref a := rx
  refine getmeth_ok I1 ea c hm l ?_
  exact PySem.W.callWith_K0 (first := [.ref a]) I1.kIn hm.kp (run_fnSD (us := [.ref a]) (vs := [.ref a]) (dvs := []) (ds := []) F hr hb .nil (hx σ) I1 (.cons rfl .nil) q)

/-! ### objects -/
theorem Rts.unapp : ∀ {rt : Roots} {t : T} {ρ : List Addr} {a : Addr} {fps : List (List Addr)}, Rts K C G H (rt ++ [t]) (ρ ++ [a]) fps → rt.length = ρ.length → ∃ fps0 fq, fps = fps0 ++ [fq] ∧ Rts K C G H rt ρ fps0 ∧ TR K C G H (.ref a) t fq
  | [], t, [], a, _, .cons h .nil, _ => ⟨[], _, rfl, .nil, h⟩
  | u :: rt, t, b :: ρ, a, _, .cons h r, e => by
    obtain ⟨fps0, fq, e1, h1, h2⟩ := Rts.unapp r (by simpa using e)
    exact ⟨_ :: fps0, fq, by rw [e1]; rfl, .cons h h1, h2⟩
  | [], _, _ :: _, _, _, _, e => by cases e
  | _ :: _, _, [], _, _, _, e => by cases e
theorem getR_lt {ps : List Pl} {ts : List T} : getR rt ps = some ts → ∀ q ∈ ps, q.1 < rt.length := by
  induction ps generalizing ts with
  | nil => exact fun _ _ z => nomatch z
  | cons q ps ih =>
    obtain ⟨r, p⟩ := q
    intro h
    simp only [getR] at h
    split at h
    · rename_i t us h1 h2
      intro q hq
      rcases List.mem_cons.mp hq with z | z
      · subst z
        unfold tatN at h1
        cases y : rt[r]? with
        | none => rw [y] at h1; cases h1
        | some u => exact (List.getElem?_eq_some_iff.mp y).1
      · exact ih h2 q z
    · cases h
theorem getR_app {ps : List Pl} {ts : List T} (z : T) : getR rt ps = some ts → getR (rt ++ [z]) ps = some ts := by
  induction ps generalizing ts with
  | nil => exact fun h => h
  | cons q ps ih =>
    obtain ⟨r, p⟩ := q
    intro h
    simp only [getR] at h ⊢
    split at h
    · rename_i t us h1 h2
      have lt : r < rt.length := by
        unfold tatN at h1
        cases y : rt[r]? with
        | none => rw [y] at h1; cases h1
        | some u => exact (List.getElem?_eq_some_iff.mp y).1
      have e1 : tatN (rt ++ [z]) r p = tatN rt r p := by
        unfold tatN
        rw [List.getElem?_append_left lt]
      rw [e1, h1, ih h2]
      exact h
    · cases h
theorem putR_app (z : T) : ∀ {ps : List Pl} {ts : List T}, (∀ q ∈ ps, q.1 < rt.length) → putR (rt ++ [z]) ps ts = putR rt ps ts ++ [z] ∧ (putR rt ps ts).length = rt.length
  | [], ts, _ => by simp [putR]
  | _ :: _, [], _ => by simp [putR]
  | (r, p) :: ps, t :: ts, h => by
    obtain ⟨h1, h2⟩ := putR_app (ps := ps) (ts := ts) z fun q hq => h q (by simp [hq])
    have lt := h (r, p) (by simp)
    have lt : r < rt.length := lt
    refine ⟨?_, by simp only [putR, List.length_modify]; exact h2⟩
    simp only [putR, h1]
    refine List.ext_getElem? fun j => ?_
    rw [mod_get]
    by_cases e : j < rt.length
    · rw [List.getElem?_append_left (by rw [h2]; exact e), List.getElem?_append_left (by rw [List.length_modify, h2]; exact e), mod_get]
    · rw [if_neg (by omega), List.getElem?_append_right (by rw [h2]; omega), List.getElem?_append_right (by rw [List.length_modify, h2]; omega), h2, List.length_modify, h2]
theorem idn2 {x dx : Addr} {u v : HO} (hx : H x = none) (hd : H dx = none) (n : dx ≠ x) : Idn H (upd (upd H dx u) x v) := (idn_new hd).trans (idn_new (by rw [upd_ne (Ne.symm n)]; exact hx))
/-- C(..) -/
def mkEnd (n : Nat) (k : T → Roots → Prop) : T → Roots → Prop := fun t full => t = .dat .non ∧ match full[n]? with
  | some o => k o (full.take n)
  | none => False
def wMake (c : Nat) (cw : CW) (w : WA) : WO := fun sl rt k => w sl rt fun xs rt1 => dst (plc (.ref rt1.length [] :: xs)) = true ∧ match getR (rt1 ++ [.obj c []]) (plc (.ref rt1.length [] :: xs)) with
  | some ts => cw (ren (.ref rt1.length [] :: xs)) ts (fun t ts' => mkEnd rt1.length k t (putR (rt1 ++ [.obj c []]) (plc (.ref rt1.length [] :: xs)) ts')) fun _ _ => False
  | none => False
theorem sp_makeG {cw : CW} {xs : List Val} {vs : List V} {ts : List T} {c : Nat} {k : T → Roots → Prop} {Q : VK} {E : XK} {x dx : Addr} {o0 : T} (r : RSt K C rt ρ fps G H) (v : VRs K C G H ρ xs vs) (hd3 : dst (plc (.ref rt.length [] :: xs)) = true) (hg3 : getR (rt ++ [o0]) (plc (.ref rt.length [] :: xs)) = some ts)
    (w : cw (ren (.ref rt.length [] :: xs)) ts (fun t ts' => mkEnd rt.length k t (putR (rt ++ [o0]) (plc (.ref rt.length [] :: xs)) ts')) fun _ _ => False) (h0 : ∀ H : Hp, H x = some (.ins (C.at_ c) dx []) → TR K C G H (.ref x) o0 [x]) (hx : H x = none) (hdx : H dx = none) (ne : dx ≠ x)
    (q : ∀ t rt' fps' fp G' H', RSt K C rt' ρ fps' G' H' → Nx fps.flatten G H G' H' fps'.flatten → Own K C fps' G' H' t (.ref x) fp → (∀ a ∈ fp, a ∈ fps.flatten ∨ H a = none) → k t rt' → Q (.ref x) H') :
    spW K C cw (.ref x :: vs) (upd (upd H dx (.own x)) x (.ins (C.at_ c) dx [])) (fun v H2 => v = .non ∧ Q (.ref x) H2) E := by
  have idn := idn2 (u := .own x) (v := .ins (C.at_ c) dx []) hx hdx ne
  have ex : Ex H (upd (upd H dx (.own x)) x (.ins (C.at_ c) dx [])) := (Ex.new hdx).trans (Ex.new (by rw [upd_ne (Ne.symm ne)]; exact hx))
  have r2 := r.grow ex
  have own : Own K C fps G (upd (upd H dx (.own x)) x (.ins (C.at_ c) dx [])) o0 (.ref x) [x] := by
    refine ⟨h0 _ upd_same, by simp, fun a ha z => ?_, fun a ha => ?_⟩
    · have : a = x := by simpa using ha
      subst this
      exact r.root.inH a z hx
    · have : a = x := by simpa using ha
      subst this
      exact fresh_back r.sub hx
  have r3 := r2.app own
  have n0 : Nx fps.flatten G H G (upd (upd H dx (.own x)) x (.ins (C.at_ c) dx [])) (fps ++ [[x]]).flatten := ⟨Ex.refl G, fun l u h _ => ⟨ex l u h, fun g => g⟩, fun l h => upd_none (upd_none h), fun l hl => by
    rw [List.flatten_append] at hl
    simp only [List.flatten_cons, List.flatten_nil, List.append_nil] at hl
    rcases List.mem_append.mp hl with z | z
    · exact .inl z
    · have : l = x := by simpa using z
      subst this
      exact .inr hx, idn⟩
  have hl : ρ.length = rt.length := r.root.lens.1
  have v3 : VRs K C G (upd (upd H dx (.own x)) x (.ins (C.at_ c) dx [])) (ρ ++ [x]) (.ref rt.length [] :: xs) (.ref x :: vs) := .cons ⟨x, by rw [← hl]; simp, rfl, ⟨x, rfl, .inr (.inl ⟨_, _, _, upd_same⟩)⟩, rfl⟩ (v.up n0 (Pre.app ρ [x]))
  refine sp_use (kx := fun _ _ => False) r3 v3 hd3 hg3 w (fun t rt' fps' fp G' H' v r' n' o' new ⟨ht, hk⟩ => ?_) fun _ _ _ _ _ _ _ _ _ _ z => z.elim
  subst ht
  have e0 : v = .non := by
    cases o'.tr with
    | dat h => cases h; rfl
  refine ⟨e0, ?_⟩
  split at hk
  · rename_i o ho
    have hlen : rt'.length = rt.length + 1 := by
      have := r'.root.lens.1
      rw [List.length_append, hl] at this
      simpa using this.symm
    have hr : rt' = rt'.take rt.length ++ [o] := by
      refine List.ext_getElem? fun j => ?_
      by_cases e : j < rt.length
      · rw [List.getElem?_append_left (by rw [List.length_take]; omega), List.getElem?_take_of_lt e]
      · rw [List.getElem?_append_right (by rw [List.length_take]; omega)]
        have e2 : (rt'.take rt.length).length = rt.length := by rw [List.length_take]; omega
        rw [e2]
        by_cases e3 : j = rt.length
        · subst e3
          rw [ho]
          simp
        · rw [List.getElem?_eq_none (by omega), List.getElem?_eq_none (by simp; omega)]
    have root := r'.root
    rw [hr] at root
    obtain ⟨fps0, fq, e1, h1, h2⟩ := root.unapp (by rw [List.length_take, hl]; omega)
    have nd := r'.nd
    have fl : fps'.flatten = fps0.flatten ++ fq := by rw [e1]; simp
    rw [fl] at nd
    have nd1 := List.nodup_append.mp nd
    have n2 := n0.trans n'
    refine q o _ fps0 fq G' H' ⟨r'.sub, h1, nd1.1, fun a ha => r'.fr a (by rw [fl]; simp [ha])⟩ (n2.less fun l hl => by rw [fl]; simp [hl]) ⟨h2, nd1.2.1, fun a ha z => nd1.2.2 a z a ha rfl, fun a ha => r'.fr a (by rw [fl]; simp [ha])⟩ (fun a ha => n2.new a (by rw [fl]; simp [ha])) hk
  · exact hk.elim
theorem sp_make {cw : CW} {xs : List Val} {vs : List V} {ts : List T} {c : Nat} {k : T → Roots → Prop} {Q : VK} {E : XK} {x dx : Addr} (r : RSt K C rt ρ fps G H) (v : VRs K C G H ρ xs vs) (hd3 : dst (plc (.ref rt.length [] :: xs)) = true) (hg3 : getR (rt ++ [.obj c []]) (plc (.ref rt.length [] :: xs)) = some ts)
    (w : cw (ren (.ref rt.length [] :: xs)) ts (fun t ts' => mkEnd rt.length k t (putR (rt ++ [.obj c []]) (plc (.ref rt.length [] :: xs)) ts')) fun _ _ => False) (hx : H x = none) (hdx : H dx = none) (ne : dx ≠ x)
    (q : ∀ t rt' fps' fp G' H', RSt K C rt' ρ fps' G' H' → Nx fps.flatten G H G' H' fps'.flatten → Own K C fps' G' H' t (.ref x) fp → (∀ a ∈ fp, a ∈ fps.flatten ∨ H a = none) → k t rt' → Q (.ref x) H') :
    spW K C cw (.ref x :: vs) (upd (upd H dx (.own x)) x (.ins (C.at_ c) dx [])) (fun v H2 => v = .non ∧ Q (.ref x) H2) E :=
  sp_makeG r v hd3 hg3 w (fun _ h => .obj h rfl .nil) hx hdx ne q
/-- C(..), its address told -/
def wMakeN (c : Nat) (cw : CW) (w : WA) : WO := fun sl rt k => w sl rt fun xs rt1 => ∀ x : Addr, dst (plc (.ref rt1.length [] :: xs)) = true ∧ match getR (rt1 ++ [.nm x (.obj c [])]) (plc (.ref rt1.length [] :: xs)) with
  | some ts => cw (ren (.ref rt1.length [] :: xs)) ts (fun t ts' => mkEnd rt1.length k t (putR (rt1 ++ [.nm x (.obj c [])]) (plc (.ref rt1.length [] :: xs)) ts')) fun _ _ => False
  | none => False
theorem o_makeN {c : Nat} {cw : CW} {w : WA} {E : XK} : ∀ σ H Q, tO K C U (wMakeN c cw w) σ H Q → tMake (C.at_ c) (spW K C cw) [] E (tA K C U w) σ H Q := fun σ H Q ⟨sl, rt, ρ, fps, G, k, s, xf, w, q⟩ =>
  ⟨sl, rt, ρ, fps, G, _, s, xf, w, fun xs rt1 fps1 G1 H1 vs r1 n1 v1 w1 => by
    intro x dx hx hdx ne
    obtain ⟨hd, w1⟩ := w1 x
    split at w1
    · rename_i ts ht
      rw [List.append_nil]
      exact sp_makeG r1 v1 hd ht w1 (fun _ h => .nm (.obj h rfl .nil)) hx hdx ne fun t rt' fps' fp G' H' r' n' o' new hk => q t rt' fps' fp G' H' _ r' (n1.trans n') o' (fun a ha => (new a ha).elim (fun y => n1.new a y) fun y => .inr (n1.dom a y)) hk
    · exact w1.elim⟩
theorem wo_makeN {c : Nat} {cw : CW} {w : WA} {E : XK} (h : PE X e (tMake (C.at_ c) (spW K C cw) [] E (tA K C U w))) : PE X e (tO K C U (wMakeN c cw w)) := pe_imp h o_makeN
theorem o_make {c : Nat} {cw : CW} {w : WA} {E : XK} : ∀ σ H Q, tO K C U (wMake c cw w) σ H Q → tMake (C.at_ c) (spW K C cw) [] E (tA K C U w) σ H Q := fun σ H Q ⟨sl, rt, ρ, fps, G, k, s, xf, w, q⟩ =>
  ⟨sl, rt, ρ, fps, G, _, s, xf, w, fun xs rt1 fps1 G1 H1 vs r1 n1 v1 ⟨hd, w1⟩ => by
    split at w1
    · rename_i ts ht
      intro x dx hx hdx ne
      rw [List.append_nil]
      exact sp_make r1 v1 hd ht w1 hx hdx ne fun t rt' fps' fp G' H' r' n' o' new hk => q t rt' fps' fp G' H' _ r' (n1.trans n') o' (fun a ha => (new a ha).elim (fun y => n1.new a y) fun y => .inr (n1.dom a y)) hk
    · exact w1.elim⟩
theorem wo_make {c : Nat} {cw : CW} {w : WA} {E : XK} (h : PE X e (tMake (C.at_ c) (spW K C cw) [] E (tA K C U w))) : PE X e (tO K C U (wMake c cw w)) := pe_imp h o_make

/-! ### fields -/
theorem look_at : ∀ {fs : List (Str × V)} {ns : List Str} {i : Nat} {f : Str} {v : V}, fs.map Prod.fst = ns.take fs.length → ns.Nodup → ns[i]? = some f → (fs.map Prod.snd)[i]? = some v → fs.lookup f = some v
  | [], _, _, _, _, _, _, _, h => by simp at h
  | (g, x) :: fs, n :: ns, 0, f, v, e, _, h1, h2 => by
    simp only [List.map_cons, List.length_cons, List.take_succ_cons, List.cons.injEq] at e
    cases Option.some.inj h1
    cases Option.some.inj h2
    rw [e.1]
    simp [List.lookup]
  | (g, x) :: fs, n :: ns, i + 1, f, v, e, nd, h1, h2 => by
    simp only [List.map_cons, List.length_cons, List.take_succ_cons, List.cons.injEq] at e
    have nd := List.nodup_cons.mp nd
    have h1 : ns[i]? = some f := h1
    have ne : f ≠ g := fun z => nd.1 (by rw [← e.1, ← z]; exact List.mem_of_getElem? h1)
    have : (f == g) = false := by simpa using ne
    simp only [List.lookup, this]
    exact look_at e.2 nd.2 h1 h2
  | _ :: _, [], _, _, _, e, _, _, _ => by simp at e
theorem look_no : ∀ {fs : List (Str × V)} {f : Str}, f ∉ fs.map Prod.fst → fs.lookup f = none
  | [], _, _ => rfl
  | (g, x) :: fs, f, h => by
    simp only [List.map_cons, List.mem_cons, not_or] at h
    have : (f == g) = false := by simpa using h.1
    simp only [List.lookup, this]
    exact look_no h.2
/-- f is a field of these classes, at these places -/
def FOk (K : PySem.W.Frag) (C : Cs) (F : Nat → Option Nat) (f : Str) : Prop := ∀ c i, F c = some i → Cls K (C.at_ c) ∧ NoAttr K (C.at_ c) f ∧ (C.ly c)[i]? = some f ∧ (C.ly c).Nodup
def wFld (F : Nat → Option Nat) (w : WE) : WE := fun sl rt k => w sl rt fun x rt1 => match x with
  | .dat (.obj c ds) => match F c with
    | some i => match ds[i]? with
      | some d => k (.dat d) rt1
      | none => False
    | none => False
  | .ref r p => match tat rt1 r p with
    | some (.obj c ts) => match F c with
      | some i => match ts[i]? with
        | some u => (match u with | .dat d => k (.dat d) rt1 | _ => False)
        | none => False
      | none => False
    | _ => False
  | _ => False
theorem e_fld {F : Nat → Option Nat} {f : Str} (hF : FOk K C F f) {w : WE} : ∀ σ H Q, tE K C U (wFld F w) σ H Q → tFld K (tE K C U w) f σ H Q := fun σ H Q ⟨sl, rt, ρ, fps, G, k, s, xf, w, q⟩ =>
  ⟨sl, rt, ρ, fps, G, _, s, xf, w, fun x rt1 fps1 G1 H1 v r1 n1 v1 w1 => by
    split at w1
    · split at w1
      · rename_i c ds i hi
        split at w1
        · rename_i d hd
          cases v1 with
          | obj h n r =>
            obtain ⟨z, z1, z2⟩ := r.get hd
            obtain ⟨f1, f2, f3, f4⟩ := hF _ _ hi
            exact ⟨_, _, _, _, z, rfl, r1.sub _ _ h, f1, f2, look_at n f4 f3 z1, q (.dat d) rt1 fps1 G1 H1 _ r1 n1 z2 w1⟩
        · exact w1.elim
      · exact w1.elim
    · rename_i r p
      split at w1
      · rename_i c ts ht
        split at w1
        · rename_i i hi
          split at w1
          · rename_i u hu
            obtain ⟨a, fu, k1, k2, k3, _⟩ := r1.get ht v1
            cases k3 with
            | obj h n tr =>
              obtain ⟨z, fz, z1, z2, _⟩ := tr.get hu
              obtain ⟨f1, f2, f3, f4⟩ := hF _ _ hi
              split at w1
              · exact ⟨_, _, _, _, z, rfl, h, f1, f2, look_at n f4 f3 z1, q _ rt1 fps1 G1 H1 z r1 n1 (VR.ofD z2) w1⟩
              · exact w1.elim
          · exact w1.elim
        · exact w1.elim
      · exact w1.elim
    · exact w1.elim⟩
theorem we_fld {F : Nat → Option Nat} {f : Str} (hF : FOk X.K C F f) {w : WE} (he : PE X e (tE X.K C U w)) (hb : attributeBase e f X.env (eval e X.env) = eval e X.env) : PE X (.Attribute e f pos) (tE X.K C U (wFld F w)) := pe_imp (pe_fld he hb) (e_fld hF)
/-- o.m(..) of a class -/
def isObj (c : Nat) (x : Val) (rt : Roots) : Prop := match x with
  | .dat (.obj c' _) => c' = c
  | .ref r p => match tat rt r p with
    | some (.obj c' _) => c' = c
    | _ => False
  | _ => False
theorem RSt.isObj (r1 : RSt K C rt ρ fps G H) {x : Val} {v : V} {c : Nat} (v1 : VR K C G H ρ x v) (hx : isObj c x rt) : ∃ a dx fs, v = .ref a ∧ H a = some (.ins (C.at_ c) dx fs) ∧ fs.map Prod.fst = (C.ly c).take fs.length := by
  unfold Wv.isObj at hx
  split at hx
  · cases v1 with
    | obj h n r =>
      subst hx
      exact ⟨_, _, _, rfl, r1.sub _ _ h, n⟩
  · split at hx
    · rename_i ht
      obtain ⟨a, fu, k1, k2, k3, _⟩ := r1.get ht v1
      cases k3 with
      | obj h n tr =>
        subst hx
        exact ⟨_, _, _, rfl, h, n⟩
    · exact hx.elim
  · exact hx.elim
def wMeth (c : Nat) (cw : CW) (wo : WE) (w : WA) : WO := fun sl rt k => wo sl rt fun x rt1 => isObj c x rt1 ∧ w sl rt1 fun xs rt2 => dst (plc (x :: xs)) = true ∧ match getR rt2 (plc (x :: xs)) with
  | some ts => cw (ren (x :: xs)) ts (fun t ts' => k t (putR rt2 (plc (x :: xs)) ts')) fun y ts' => sl.ex y sl.sl (putR rt2 (plc (x :: xs)) ts')
  | none => False
theorem o_meth {c : Nat} {cw : CW} {wo : WE} {w : WA} {m : Str} (hm : m ∉ C.ly c) : ∀ σ H Q, tO K C U (wMeth c cw wo w) σ H Q → tMethX (C.at_ c) m (spW K C cw) (fun σ cls d H => U cls d σ H) (tE K C U wo) (tA K C U w) σ H Q := fun σ H Q ⟨sl, rt, ρ, fps, G, k, s, xf, w, q⟩ =>
  ⟨sl, rt, ρ, fps, G, _, s, xf, w, fun x rt1 fps1 G1 H1 v r1 n1 v1 ⟨hx, w1⟩ => by
    obtain ⟨a, dx, fs, rfl, h, n⟩ := r1.isObj v1 hx
    refine ⟨a, dx, fs, rfl, h, look_no fun z => hm (List.mem_of_mem_take (by rw [← n]; exact z)), sl, rt1, ρ, fps1, G1, _, s.step r1 n1 fun _ _ e => e, xf.later n1 (Pre.refl _), w1, fun xs rt2 fps2 G2 H2 vs r2 n2 v2 ⟨hd, w2⟩ => ?_⟩
    split at w2
    · rename_i ts ht
      have n3 := n1.trans n2
      exact sp_use r2 (.cons (v1.up n2 fun _ _ e => e) v2) hd ht w2 (fun t rt' fps' fp G' H' v r' n' o' new hk => q t rt' fps' fp G' H' v r' (n3.trans n') o' (fun a ha => (new a ha).elim (fun y => n3.new a y) fun y => .inr (n3.dom a y)) hk)
        fun y rt' fps' G' H' cls d r' n' xr hk => xf y _ rt' σ ρ fps' G' H' cls d (s.step r' (n3.trans n') fun _ _ e => e) (n3.trans n') (Pre.refl _) (xr.early n3.dom) hk
    · exact w2.elim⟩
theorem o_meth0 {c : Nat} {cw : CW} {wo : WE} {m : Str} (hm : m ∉ C.ly c) {σ : L2.St} {H : Hp} {Q : VK} (h : tO K C U (wMeth c cw wo wNil) σ H Q) : tMethX (C.at_ c) m (spW K C cw) (fun σ cls d H => U cls d σ H) (tE K C U wo) tNil σ H Q := by
  have := o_meth hm σ H Q h
  obtain ⟨sl, rt, ρ, fps, G, k, s, xf, w, q⟩ := this
  refine ⟨sl, rt, ρ, fps, G, k, s, xf, w, fun x rt' fps' G' H' v r n vr hk => ?_⟩
  obtain ⟨a, dx, fs, h1, h2, h3, h4⟩ := q x rt' fps' G' H' v r n vr hk
  refine ⟨a, dx, fs, h1, h2, h3, ?_⟩
  obtain ⟨sl2, rt2, ρ2, fps2, G2, k2, s2, _, w2, q2⟩ := h4
  exact q2 [] rt2 fps2 G2 H' [] s2.toRSt (Nx.refl _ _ _) .nil w2
theorem wo_meth {c : Nat} {cw : CW} {wo : WE} {w : WA} {m : Str} (hm : m ∉ C.ly c) (h : PE X e (tMethX (C.at_ c) m (spW K C cw) (fun σ cls d H => U cls d σ H) (tE K C U wo) (tA K C U w))) : PE X e (tO K C U (wMeth c cw wo w)) := pe_imp h (o_meth hm)
theorem wo_meth0 {c : Nat} {cw : CW} {wo : WE} {m : Str} (hm : m ∉ C.ly c) (h : PE X e (tMethX (C.at_ c) m (spW K C cw) (fun σ cls d H => U cls d σ H) (tE K C U wo) tNil)) : PE X e (tO K C U (wMeth c cw wo wNil)) := pe_imp h fun σ H Q q => o_meth0 hm q
/-- o.f = e -/
theorem putF_new : ∀ {fs : List (Str × V)} {f : Str} {v : V}, f ∉ fs.map Prod.fst → putF f v fs = fs ++ [(f, v)]
  | [], _, _, _ => rfl
  | (g, x) :: fs, f, v, h => by
    simp only [List.map_cons, List.mem_cons, not_or] at h
    show (if g = f then (g, v) :: fs else (g, x) :: putF f v fs) = _
    rw [if_neg fun z => h.1 z.symm, putF_new h.2]
    rfl
theorem putF_old : ∀ {fs : List (Str × V)} {ns : List Str} {i : Nat} {f : Str} {v : V}, fs.map Prod.fst = ns.take fs.length → ns.Nodup → ns[i]? = some f → i < fs.length → putF f v fs = fs.set i (f, v)
  | [], _, _, _, _, _, _, _, h => by simp at h
  | (g, x) :: fs, n :: ns, 0, f, v, e, _, h1, _ => by
    simp only [List.map_cons, List.length_cons, List.take_succ_cons, List.cons.injEq] at e
    cases Option.some.inj h1
    have e1 : g = n := e.1
    show (if g = n then (g, v) :: fs else (g, x) :: putF n v fs) = _
    rw [if_pos e1, e1]
    rfl
  | (g, x) :: fs, n :: ns, i + 1, f, v, e, nd, h1, h2 => by
    simp only [List.map_cons, List.length_cons, List.take_succ_cons, List.cons.injEq] at e
    have nd := List.nodup_cons.mp nd
    have h1 : ns[i]? = some f := h1
    have ne : g ≠ f := fun z => nd.1 (by rw [← e.1, z]; exact List.mem_of_getElem? h1)
    show (if g = f then (g, v) :: fs else (g, x) :: putF f v fs) = _
    rw [if_neg ne, putF_old e.2 nd.2 h1 (by simpa using h2)]
    rfl
  | _ :: _, [], _, _, _, e, _, _, _ => by simp at e
theorem idn_ins {b c dx : Addr} {fs fs' : List (Str × V)} (hb : H b = some (.ins c dx fs)) (k : ∀ (i : Nat) x, (fs.map Prod.snd)[i]? = some x → False → (fs'.map Prod.snd)[i]? = some x) : Idn H (upd H b (.ins c dx fs')) := by
  refine Idn.of (fun w hw => ?_)
  · obtain ⟨a, rfl, h⟩ := hw
    refine ⟨a, rfl, ?_⟩
    by_cases z : a = b
    · exact .inr (.inl ⟨c, dx, fs', by rw [z, upd_same]⟩)
    · rw [upd_ne z]
      exact h
def wSetF (F : Nat → Option Nat) (w : WO) (wx : WE) : WS := fun Z sl rt => w ⟨sl, Z.ex⟩ rt fun t rt1 => wx ⟨sl, Z.ex⟩ rt1 fun x rt2 => match x with
  | .ref r p => match tat rt2 r p with
    | some (.obj c ts) => match F c with
      | some i => ts.length < 900 ∧ ((i = ts.length ∧ Z.nx sl (rt2.modify r (T.put (.obj c (ts ++ [t])) p))) ∨ ∃ d u, t = .dat d ∧ ts[i]? = some u ∧ leafT u = true ∧ Z.nx sl (rt2.modify r (T.put (.obj c (ts.set i (.dat d))) p)))
      | none => False
    | _ => False
  | _ => False
theorem noPassW {P : Program} {w : World} : Passes (L2N.CX P w) X (fun _ _ _ => False) := fun pins σ H s e s' I c => by
  obtain ⟨_, _, _, _, _, _, _, _, _, _, _, _, z⟩ := c
  exact z.elim
theorem takesNo : L2N.Takes X (fun _ _ _ _ => False) := fun u s' x => by
  obtain ⟨_, _, _, _, _, _, _, _, _, _, _, _, _, _, _, _, z⟩ := x
  exact z.elim
end
end Wv
end

section
set_option Elab.async false
set_option linter.all false
set_option maxRecDepth 100000
set_option maxHeartbeats 4000000
namespace Wv
open PySem PySem.Spec PyProof.Rows L2 Evl
section
variable {K : PySem.W.Frag} {C : Cs} {U U' : UX} {G H G' H' G1 H1 G2 H2 : Hp} {sl sl' : Slots} {rt rt' : Roots} {σ : L2.St} {ρ ρ' ρ1 : List Addr} {fps fps' fps1 : List (List Addr)}
variable {X : Cx} {CX : CXT} {a b c e o : Expr} {es rest : List Expr} {wa wb wc : WE} {pos p apos : Pos} {Z : WEnds} {E : Ends} {st : Stmt}
theorem s_setF {F : Nat → Option Nat} {f : Str} (hF : FOk K C F f) {w : WO} {wx : WE} : ∀ D σ H, tS K C U (wSetF F w wx) D σ H → sFld K (tE K C U wx) (tO K C U w) f D σ H := fun D σ H ⟨Z, sl, rt, ρ, fps, G, s, w, fn⟩ =>
  ⟨⟨sl, Z.ex⟩, rt, ρ, fps, G, _, s, fn.xf, w, fun t rt1 fps1 fp G1 H1 y r1 n1 o1 new w1 => ⟨⟨sl, Z.ex⟩, rt1, ρ, fps1, G1, _, s.step r1 n1 fun _ _ e => e, fn.xf.later n1 (Pre.refl _), w1, fun x rt2 fps2 G2 H2 v r2 n2 v2 w2 => by
    split at w2
    · rename_i r p
      split at w2
      · rename_i c ts ht
        split at w2
        · rename_i i hi
          obtain ⟨f1, f2, f3, f4⟩ := hF _ _ hi
          obtain ⟨a, fu, z1, z2, z3, _⟩ := r2.get ht v2
          have o2 := o1.past n2
          cases z3 with
          | @obj b dx fs _ _ fq hb nm tr =>
            have hlen : fs.length = ts.length := by
              have := TRs.len tr
              simpa using this
            obtain ⟨w0, w2⟩ := w2
            refine ⟨b, _, dx, fs, rfl, hb, f1, f2, by omega, ?_⟩
            rcases w2 with ⟨he, w2⟩ | ⟨d, u, rfl, hu, hlf, w2⟩
            · have hnew : f ∉ fs.map Prod.fst := fun z => by
                rw [nm] at z
                obtain ⟨j, hj⟩ := List.getElem?_of_mem z
                have hj2 : j < fs.length := by
                  have := (List.getElem?_eq_some_iff.mp hj).1
                  rw [List.length_take] at this
                  omega
                rw [List.getElem?_take_of_lt hj2] at hj
                obtain ⟨p1, p2⟩ := List.getElem?_eq_some_iff.mp hj
                obtain ⟨p3, p4⟩ := List.getElem?_eq_some_iff.mp f3
                have := (List.getElem_inj f4).mp (p2.trans p4.symm)
                omega
              have e0 : putF f y fs = fs ++ [(f, y)] := putF_new hnew
              rw [e0]
              have idn : Idn H2 (upd H2 b (.ins (C.at_ c) dx (fs ++ [(f, y)]))) := idn_ins hb fun i q hq _ => by
                rw [List.map_append, List.getElem?_append_left (List.getElem?_eq_some_iff.mp hq).1]
                exact hq
              obtain ⟨fps3, r3, mem, hbF⟩ := r2.write (t' := .obj c (ts ++ [t])) (fn := fp) ht z1 z2 (by intro d q; cases q) idn (fun fu hfu => by
                cases hfu with
                | @obj _ dx' fs' _ _ fq' hb' nm' tr' =>
                  rw [hb] at hb'
                  cases hb'
                  refine ⟨List.mem_cons_self, fun nd dis => ?_⟩
                  have nb := (List.nodup_cons.mp nd).1
                  refine ⟨b :: (fq' ++ (fp ++ [])), .obj upd_same ?_ ?_, ?_⟩
                  · rw [List.map_append, nm, List.length_append, List.length_cons, List.length_nil]
                    have : (C.ly c).take (fs.length + (0 + 1)) = (C.ly c).take fs.length ++ [f] := by
                      rw [Nat.zero_add, List.take_succ, hlen, ← he, f3]
                      rfl
                    rw [this]
                    rfl
                  · rw [List.map_append]
                    exact TRs.app (TRs.stay (Ex.refl _) _ _ _ tr' fun q hq => upd_ne fun z => nb (by rw [← z]; exact hq)) (.cons (TR.stay (Ex.refl _) _ _ _ o2.tr fun q hq => upd_ne fun z => dis q hq (by rw [z]; exact List.mem_cons_self)) .nil)
                  · rw [List.append_nil]
                    exact List.Perm.refl _) o2.nd o2.ap o2.fr
              have nW : Nx fps2.flatten G2 H2 G2 (upd H2 b (.ins (C.at_ c) dx (fs ++ [(f, y)]))) fps2.flatten := Nx.write (fps' := fps2) hbF (by rw [hb]; exact fun q => nomatch q) idn (fp := []) (fun _ q => nomatch q)
              have n3 := (n1.trans n2).trans nW
              have n4 : Nx fps.flatten G H G2 (upd H2 b (.ins (C.at_ c) dx (fs ++ [(f, y)]))) fps3.flatten := ⟨n3.g, n3.keep, n3.dom, fun l hl => by
                rcases mem l hl with q | q
                · exact n3.new l q
                · exact new l q, n3.idn⟩
              exact fn.nx sl _ σ ρ fps3 G2 _ (s.step r3 n4 fun _ _ e => e) n4 (Pre.refl _) w2
            · have hi2 : i < fs.length := by rw [hlen]; exact (List.getElem?_eq_some_iff.mp hu).1
              have e0 : putF f y fs = fs.set i (f, y) := putF_old nm f4 f3 hi2
              rw [e0]
              have hd : DR K C G2 y d := by
                cases o2.tr with
                | dat h => exact h
              obtain ⟨vo, fo, q1, q2, _⟩ := tr.get hu
              have ms : (fs.set i (f, y)).map Prod.snd = (fs.map Prod.snd).set i y := by rw [List.map_set]
              have mf : (fs.set i (f, y)).map Prod.fst = (C.ly c).take (fs.set i (f, y)).length := by
                rw [List.map_set, nm, List.length_set]
                refine List.ext_getElem? fun j => ?_
                rw [List.getElem?_set]
                split
                · rename_i e
                  subst e
                  split
                  · rw [List.getElem?_take_of_lt hi2, f3]
                  · rename_i h
                    exfalso
                    rw [List.length_take] at h
                    have := (List.getElem?_eq_some_iff.mp f3).1
                    omega
                · rfl
              have idn : Idn H2 (upd H2 b (.ins (C.at_ c) dx (fs.set i (f, y)))) := idn_ins hb fun j q hq nq => by
                rw [ms]
                by_cases z : i = j
                · subst z
                  rw [q1] at hq
                  cases hq
                  exact absurd nq ((leaf_ok hlf q2).2.2 _ r2.sub)
                · rw [List.getElem?_set_ne z]
                  exact hq
              obtain ⟨fps3, r3, mem, hbF⟩ := r2.write (t' := .obj c (ts.set i (.dat d))) (fn := []) ht z1 z2 (by intro d q; cases q) idn (fun fu hfu => by
                cases hfu with
                | @obj _ dx' fs' _ _ fq' hb' nm' tr' =>
                  rw [hb] at hb'
                  cases hb'
                  refine ⟨List.mem_cons_self, fun nd dis => ?_⟩
                  have nb := (List.nodup_cons.mp nd).1
                  refine ⟨b :: fq', .obj upd_same mf ?_, by rw [List.append_nil]⟩
                  rw [ms]
                  exact TRs.set (TRs.stay (Ex.refl _) _ _ _ tr' fun q hq => upd_ne fun z => nb (by rw [← z]; exact hq)) hu hlf hd) List.nodup_nil (fun _ q => nomatch q) (fun _ q => nomatch q)
              have nW : Nx fps2.flatten G2 H2 G2 (upd H2 b (.ins (C.at_ c) dx (fs.set i (f, y)))) fps2.flatten := Nx.write (fps' := fps2) hbF (by rw [hb]; exact fun q => nomatch q) idn (fp := []) (fun _ q => nomatch q)
              have n3 := (n1.trans n2).trans nW
              have n4 : Nx fps.flatten G H G2 (upd H2 b (.ins (C.at_ c) dx (fs.set i (f, y)))) fps3.flatten := n3.less fun l hl => by
                rcases mem l hl with q | q
                · exact q
                · cases q
              exact fn.nx sl _ σ ρ fps3 G2 _ (s.step r3 n4 fun _ _ e => e) n4 (Pre.refl _) w2
        · exact w2.elim
      · exact w2.elim
    · exact w2.elim⟩⟩
theorem ws_setF {F : Nat → Option Nat} {f : Str} (hF : FOk X.K C F f) {w : WO} {wx : WE} {pos' : Pos} (ha : PE X o (tE X.K C U wx)) (hv : PE X e (tO X.K C U w)) (hs : swapsWith e (some (.Attribute o f pos')) pos.line X.env = pure false) : PS X (.Assign [.Attribute o f pos'] e pos) (tS X.K C U (wSetF F w wx)) :=
  ps_imp (ps_fld ha hv hs) (s_setF hF)

/-! ### comprehensions -/
def wipeS : List Nat → Slots → Slots
  | [], sl => sl
  | v :: vs, sl => (wipeS vs sl).set v none
theorem St.wipe (s : St K C sl rt σ ρ fps G H) : ∀ vs : List Nat, St K C (wipeS vs sl) rt (L2.wipe σ vs) ρ fps G H
  | [] => s
  | v :: vs => by
    have s2 := St.wipe s vs
    refine ⟨s2.toRSt, ?_, fun i x e => ?_⟩
    · show ((L2.wipe σ vs).set v none).length = ((wipeS vs sl).set v none).length
      rw [List.length_set, List.length_set, s2.len]
    · rcases get_set (show ((wipeS vs sl).set v none)[i]? = some (some x) from e) with ⟨_, q⟩ | ⟨n, q⟩
      · cases q
      · obtain ⟨w, h1, h2⟩ := s2.slot i x q
        exact ⟨w, by show ((L2.wipe σ vs).set v none)[i]? = _; rw [List.getElem?_set_ne n]; exact h1, h2⟩
theorem wipe_set : ∀ (vs : List Nat) (σ : L2.St) (j : Nat) (x : Option V), j ∈ vs → L2.wipe (σ.set j x) vs = L2.wipe σ vs
  | v :: vs, σ, j, x, h => by
    show (L2.wipe (σ.set j x) vs).set v none = (L2.wipe σ vs).set v none
    by_cases e : j ∈ vs
    · rw [wipe_set vs σ j x e]
    · have ej : j = v := by
        rcases List.mem_cons.mp h with z | z
        · exact z
        · exact absurd z e
      subst ej
      have : ∀ (vs : List Nat) (σ : L2.St), j ∉ vs → L2.wipe (σ.set j x) vs = (L2.wipe σ vs).set j x := by
        intro vs
        induction vs with
        | nil => exact fun _ _ => rfl
        | cons u us ih =>
          intro σ h
          simp only [List.mem_cons, not_or] at h
          show (L2.wipe (σ.set j x) us).set u none = ((L2.wipe σ us).set u none).set j x
          rw [ih σ h.2, List.set_comm _ _ h.1]
      rw [this vs σ e, List.set_set]
theorem wipe_idem : ∀ (vs : List Nat) (σ : L2.St), L2.wipe (L2.wipe σ vs) vs = L2.wipe σ vs := by
  intro vs σ
  have : ∀ (us : List Nat), (∀ u ∈ us, u ∈ vs) → L2.wipe (L2.wipe σ us) vs = L2.wipe σ vs := by
    intro us
    induction us with
    | nil => exact fun _ => rfl
    | cons u us ih =>
      intro h
      show L2.wipe ((L2.wipe σ us).set u none) vs = _
      rw [wipe_set vs _ u none (h u (by simp)), ih fun x hx => h x (by simp [hx])]
  exact this vs fun _ h => h
/-- a target stores in the block's own slots alone -/
def TgW (g : TG) (vs : List Nat) : Prop := ∀ v σ H Q, g v σ H (fun σ2 H2 => L2.wipe σ2 vs = L2.wipe σ vs → Q σ2 H2) → g v σ H Q
theorem tgw_name {j : Nat} {vs : List Nat} (h : j ∈ vs) : TgW (gName j) vs := fun v σ H Q q => q (wipe_set vs σ j _ h)
theorem tgw_all {vs : List Nat} : ∀ {js : List Nat}, (∀ j ∈ js, j ∈ vs) → ∀ xs σ H Q, gAll js xs σ H (fun σ2 H2 => L2.wipe σ2 vs = L2.wipe σ vs → Q σ2 H2) → gAll js xs σ H Q
  | [], _, xs, σ, H, Q, ⟨e, q⟩ => ⟨e, q rfl⟩
  | j :: js, h, xs, σ, H, Q, ⟨v, r, e, q⟩ => ⟨v, r, e, by
    refine tgw_all (js := js) (fun x hx => h x (by simp [hx])) r (σ.set j (some v)) H Q ?_
    rw [wipe_set vs σ j _ (h j (by simp))]
    exact q⟩
theorem tgw_tup {js vs : List Nat} {n : Nat} (h : ∀ j ∈ js, j ∈ vs) : TgW (gTup K n (gAll js)) vs := fun v σ H Q ⟨a, xs, e, h1, h2, q⟩ => ⟨a, xs, e, h1, h2, tgw_all h xs σ H Q q⟩
def wYes : WT := fun _ rt k => k true rt
theorem t_yes : ∀ σ H Q, tT K C U wYes σ H Q → tYes σ H Q := fun σ H Q ⟨sl, rt, ρ, fps, G, k, s, xf, w, q⟩ => q true rt fps G H s.toRSt (Nx.refl _ _ _) w
/-- no error leaves a comprehension -/
abbrev noU : UX := fun _ _ _ _ => False
def blk (sl : Slots) : Cxt := ⟨sl, fun _ _ _ => False⟩
def wLc (it : WI) (tg : Tg) (vs : List Nat) (tt : WT) (elt : WO) : WO := fun sl rt k => it sl rt fun ds rt1 => ∃ I : Nat → List T → Roots → Prop, I 0 [] rt1 ∧
  (∀ i d acc rt', ds[i]? = some d → I i acc rt' → acc.length < 40000 ∧ tg d (wipeS vs sl.sl) fun sl2 => tt (blk sl2) rt' fun b rt2 => (b = true → elt (blk sl2) rt2 fun t rt3 => I (i + 1) (acc ++ [t]) rt3) ∧ (b = false → I (i + 1) acc rt2)) ∧
  ∀ acc rt', I ds.length acc rt' → k (.lst acc) rt'
theorem o_lc {it : WI} {tg : Tg} {g : TG} {vs : List Nat} {tt : WT} {elt : WO} (hg : TgOk K C g tg) (hw : TgW g vs) : ∀ σ H Q, tO K C U (wLc it tg vs tt elt) σ H Q → tLc (tI K C U it) g (tT K C U' tt) (tO K C U' elt) vs σ H Q := fun σ H Q ⟨sl, rt, ρ, fps, G, k, s, xf, w, q⟩ =>
  ⟨sl, rt, ρ, fps, G, _, s, xf, w, fun ds rt1 fps1 G1 H1 J r1 n1 ⟨Gd, Y, wk, hGd, hY⟩ ⟨I, i0, it, fin⟩ Dl hDl => by
    have sW := s.wipe vs
    have hD0 : H Dl = none := n1.dom Dl hDl
    obtain ⟨r2, o2⟩ := r1.newL hDl (TRs.nil (K := K) (C := C) (G := G1) (H := H1)) List.nodup_nil (fun _ z => nomatch z) (fun _ z => nomatch z) (fun _ z => nomatch z)
    refine lc_it wk (fun i H' => ∃ acc rt' fps' G' fpD, I i acc rt' ∧ RSt K C rt' ρ fps' G' H' ∧ Nx fps.flatten G H G' H' fps'.flatten ∧ Ex G1 G' ∧ Own K C fps' G' H' (.lst acc) (.ref Dl) fpD ∧ ∀ a ∈ fpD, a ∈ fps.flatten ∨ H a = none)
      ⟨[], rt1, fps1, G1, _, i0, r2, n1.trans (Nx.grow hDl), Ex.refl _, o2, fun a ha => by
        have : a = Dl := by simpa using ha
        exact .inr (by rw [this]; exact hD0)⟩ (fun i H' _ ⟨acc, rt', fps', G', fpD, _, r', _, e', _⟩ => hGd H' (e'.trans r'.sub)) (fun i v H' H3 hi ⟨acc, rt', fps', G', fpD, hI, r', n', e', oD, newD⟩ y => ?_) fun H' ⟨acc, rt', fps', G', fpD, hI, r', n', _, oD, newD⟩ => q (.lst acc) rt' fps' fpD G' H' _ r' n' oD newD (fin acc rt' hI)
    have hd : ds[i]? = some ds[i] := List.getElem?_eq_getElem hi
    have s' := sW.step r' n' fun _ _ e => e
    obtain ⟨G3, s3, n3, d3⟩ := YD.step (hY i _ H' v H3 hd (e'.trans r'.sub) y) s' e'
    obtain ⟨hlen, ht⟩ := it i _ acc rt' hd hI
    have oD3 := oD.past n3
    have fr1 : ∀ a ∈ fpD, a ∉ fps.flatten → H a = none := fun a ha z => (newD a ha).elim (fun y => absurd y z) fun y => y
    refine hw v _ _ _ (hg _ v _ rt' _ ρ fps' G3 H3 _ _ s3 d3 ht fun sl2 σ2 hb s2 he => ⟨by rw [he, wipe_idem], blk sl2, rt', ρ, fps', G3, _, s2, Xf.no, hb, fun b rt2 fps2 G4 H4 r4 n4 w4 => ?_⟩)
    have oD4 := oD3.past n4
    have n14 := n'.trans (n3.trans n4)
    cases b with
    | false =>
      show _
      simp only [Bool.false_eq_true, if_false]
      exact ⟨acc, rt2, fps2, G4, fpD, w4.2 rfl, r4, n14, e'.trans (n3.g.trans n4.g), oD4, newD⟩
    | true =>
      simp only [if_true]
      refine ⟨blk sl2, rt2, ρ, fps2, G4, _, s2.step r4 n4 fun _ _ e => e, Xf.no, w4.1 rfl, fun t rt3 fps3 fp G5 H5 y5 r5 n5 o5 new5 hI5 => ?_⟩
      have oD5 := oD4.past n5
      have inD4 := oD4.inH
      have dis : ∀ a ∈ fp, a ∉ fpD := fun a ha z => by
        rcases new5 a ha with q | q
        · exact oD4.ap a z q
        · exact inD4 a z q
      have n15 := n14.trans n5
      obtain ⟨otr, ond, oap, ofr⟩ := oD5
      cases otr with
      | @lst _ accV _ fq hD tr =>
        have idn : Idn H5 (upd H5 Dl (.lst (accV ++ [y5]))) := idn_lst hD fun i q hq _ => by
          rw [List.getElem?_append_left (List.getElem?_eq_some_iff.mp hq).1]
          exact hq
        have nq := List.nodup_cons.mp ond
        have out : ∀ a, a ∈ fps3.flatten → a ≠ Dl := fun a ha z => oap Dl List.mem_cons_self (by rw [← z]; exact ha)
        refine ⟨accV, hD, sz_lt (by rw [TRs.len tr]; omega), acc ++ [t], rt3, fps3, G5, Dl :: (fq ++ (fp ++ [])), hI5, ⟨fun a u e => ?_, r5.root.stay (Ex.refl _) (fun a ha => upd_ne (out a ha)), r5.nd, r5.fr⟩, ⟨n15.g, fun l u h z => ?_, fun l h => n15.dom l (upd_none h), n15.new, n15.idn.trans idn⟩, e'.trans (n3.g.trans (n4.g.trans n5.g)), ⟨.lst upd_same (TRs.app (TRs.stay (Ex.refl _) _ _ _ tr fun a ha => upd_ne fun z => nq.1 (by rw [← z]; exact ha)) (.cons (TR.stay (Ex.refl _) _ _ _ o5.tr fun a ha => upd_ne fun z => dis a ha (by rw [z]; exact List.mem_cons_self)) .nil)), ?_, ?_, ?_⟩, ?_⟩
        · have : a ≠ Dl := fun z => by rw [z, ofr Dl List.mem_cons_self] at e; cases e
          rw [upd_ne this]
          exact r5.sub a u e
        · obtain ⟨k1, k2⟩ := n15.keep l u h z
          refine ⟨?_, k2⟩
          rw [upd_ne fun y => by rw [y, hD0] at h; cases h]
          exact k1
        · rw [List.append_nil]
          refine List.nodup_cons.mpr ⟨fun z => ?_, List.nodup_append.mpr ⟨nq.2, o5.nd, fun a ha b hb e => dis b hb (by rw [← e]; exact List.mem_cons_of_mem _ ha)⟩⟩
          rcases List.mem_append.mp z with q | q
          · exact nq.1 q
          · exact dis Dl q List.mem_cons_self
        · intro a ha
          rw [List.append_nil] at ha
          rcases List.mem_cons.mp ha with q | q
          · rw [q]; exact oap Dl List.mem_cons_self
          · rcases List.mem_append.mp q with q | q
            · exact oap a (List.mem_cons_of_mem _ q)
            · exact o5.ap a q
        · intro a ha
          rw [List.append_nil] at ha
          rcases List.mem_cons.mp ha with q | q
          · rw [q]; exact ofr Dl List.mem_cons_self
          · rcases List.mem_append.mp q with q | q
            · exact ofr a (List.mem_cons_of_mem _ q)
            · exact o5.fr a q
        · intro a ha
          rw [List.append_nil] at ha
          rcases List.mem_cons.mp ha with q | q
          · rw [q]; exact .inr hD0
          · rcases List.mem_append.mp q with q | q
            · exact newD a (List.mem_cons_of_mem _ q)
            · rcases new5 a q with z | z
              · exact n14.new a z
              · exact .inr (n14.dom a z)⟩
theorem wo_lc {it : WI} {tg : Tg} {g : TG} {vs : List Nat} {tt : WT} {elt : WO} (hg : TgOk K C g tg) (hw : TgW g vs) (h : PE X e (tLc (tI K C U it) g (tT K C noU tt) (tO K C noU elt) vs)) : PE X e (tO K C U (wLc it tg vs tt elt)) := pe_imp h (o_lc hg hw)
theorem wts_nil : PTs X [] (tT K C U wYes) := ⟨fun pins s σ H Q I h => pts_nil.run pins s σ H Q I (t_yes σ H Q h)⟩
end
end Wv
end

section
set_option Elab.async false
set_option linter.all false
set_option maxRecDepth 100000
set_option maxHeartbeats 4000000
namespace Wv
open PySem PySem.Spec PyProof.Rows L2 Evl
section
variable {K : PySem.W.Frag} {C : Cs} {U U' : UX} {G H G' H' G1 H1 G2 H2 : Hp} {sl sl' : Slots} {rt rt' : Roots} {σ : L2.St} {ρ ρ' ρ1 : List Addr} {fps fps' fps1 : List (List Addr)}
variable {X : Cx} {CX : CXT} {a b c e o : Expr} {es rest : List Expr} {wa wb wc : WE} {pos p apos : Pos} {Z : WEnds} {E : Ends} {st : Stmt}
theorem s_lt : S2 K C sLt (rI0 fun i j => .bl (decide (i < j))) := s_int0 fun _ _ _ => .bool _
theorem s_le : S2 K C sLe (rI0 fun i j => .bl (decide (i ≤ j))) := s_int0 fun _ _ _ => .bool _
theorem s_gt : S2 K C sGt (rI0 fun i j => .bl (decide (j < i))) := s_int0 fun _ _ _ => .bool _
theorem s_ge : S2 K C sGe (rI0 fun i j => .bl (decide (j ≤ i))) := s_int0 fun _ _ _ => .bool _
theorem op_eqA (hu : X.A.units + 64 < cLine) : OpR X (compareOp .Eq) (fun x y H Q => rEq x y H Q ∨ rEqD X.K x y H Q) := OpR.or' op_eq (op_eqD hu)
theorem op_neA (hu : X.A.units + 64 < cLine) : OpR X (compareOp .NotEq) (fun x y H Q => rNe x y H Q ∨ rNeD X.K x y H Q) := OpR.or' op_ne (op_neD hu)
/-- a comprehension kept by a name -/
theorem s_setLc {i : Nat} {it : WI} {tg : Tg} {g : TG} {vs : List Nat} {tt : WT} {elt : WO} (hg : TgOk K C g tg) (hw : TgW g vs) (h : PS X st (tAsg (tLc (tI K C U it) g (tT K C noU tt) (tO K C noU elt) vs) (gName i))) : PS X st (tS K C U (wNew i (wLc it tg vs tt elt))) :=
  ps_imp h fun D σ H q => o_lc hg hw σ H _ (s_new D σ H q)
theorem s_setLcF {i : Nat} {it : WI} {tg : Tg} {g : TG} {vs : List Nat} {tt : WT} {elt : WO} (hg : TgOk K C g tg) (hw : TgW g vs) (h : PS X st (tAsg (tLc (tI K C U it) g (tT K C noU tt) (tO K C noU elt) vs) (gName i))) : PS X st (tS K C U (wAsg i (wFrz (wLc it tg vs tt elt)))) :=
  ps_imp h fun D σ H q => o_lc hg hw σ H _ (e_frz σ H _ (s_asg D σ H q))

/-! ### in -/
def D.flat : D → Bool
  | .non => true
  | .bool _ => true
  | .int _ => true
  | .str _ => true
  | _ => false
def D.v : D → V
  | .non => .non
  | .bool b => .bl b
  | .int i => .int i
  | .str s => .str s
  | _ => .non
theorem flat_v {d : D} {v : V} (h : DR K C G v d) (f : d.flat = true) : v = d.v ∧ flatV v = true := by
  cases h <;> first | exact ⟨rfl, rfl⟩ | cases f
theorem flats_v : ∀ {ds : List D} {vs : List V}, DRs K C G vs ds → ds.all D.flat = true → vs = ds.map D.v ∧ vs.all flatV = true
  | [], _, .nil, _ => ⟨rfl, rfl⟩
  | d :: ds, _, .cons h r, f => by
    simp only [List.all_cons, Bool.and_eq_true] at f
    obtain ⟨h1, h2⟩ := flat_v h f.1
    obtain ⟨h3, h4⟩ := flats_v r f.2
    refine ⟨by rw [h1, h3]; rfl, ?_⟩
    rw [List.all_cons, h2, h4]
    rfl
/-- x in a list or tuple of flat items -/
def sIn (neg : Bool) : Sem2 := fun x y rt k => match x with
  | .dat d => match seqOf y rt with
    | some ds => d.flat = true ∧ ds.all D.flat = true ∧ k (.bool (if neg then !inV d.v (ds.map D.v) else inV d.v (ds.map D.v)))
    | none => False
  | _ => False
theorem s_in {neg : Bool} : S2 K C (sIn neg) (rIn K neg) := fun rt ρ fps G H x y v u s a b k Q w q => by
  unfold sIn at w
  split at w
  · split at w
    · rename_i ds e
      obtain ⟨w1, w2, w3⟩ := w
      obtain ⟨p, xs, rfl, h2, h3⟩ := s.seqOf e b
      obtain ⟨z1, z2⟩ := flats_v h3 w2
      obtain ⟨z3, z4⟩ := flat_v (show DR K C G v _ from a) w1
      refine ⟨p, xs, rfl, h2, z4, z2, ?_⟩
      rw [z1, z3]
      exact q _ _ w3 (.bool _)
    · exact w.elim
  · exact w.elim
/-- x in a text -/
def sInS (neg : Bool) : Sem2 := fun x y rt k => match x, y with
  | .dat (.str i), .dat (.str j) => k (.bool (if neg then !(!(Builtin.Str.occurrences j i 0 j.length 1).isEmpty) else !(Builtin.Str.occurrences j i 0 j.length 1).isEmpty))
  | _, _ => False
theorem s_inS : S2 K C (sInS false) (fun x y H Q => ∃ i j, x = .str i ∧ y = .str j ∧ Q (.bl (!(Builtin.Str.occurrences j i 0 j.length 1).isEmpty)) H) := fun rt ρ fps G H x y v u s a b k Q w q => by
  unfold sInS at w
  split at w
  · cases a
    cases b
    exact ⟨_, _, rfl, rfl, q _ _ w (.bool _)⟩
  · exact w.elim
theorem s_ninS : S2 K C (sInS true) (fun x y H Q => ∃ i j, x = .str i ∧ y = .str j ∧ Q (.bl (!(!(Builtin.Str.occurrences j i 0 j.length 1).isEmpty))) H) := fun rt ρ fps G H x y v u s a b k Q w q => by
  unfold sInS at w
  split at w
  · cases a
    cases b
    exact ⟨_, _, rfl, rfl, q _ _ w (.bool _)⟩
  · exact w.elim
/-- x in a tuple (or list) of data of any depth -/
def rInT (K : PySem.W.Frag) (neg : Bool) : R2 := fun x y H Q => ∃ d ds, Dp K H x d ∧ Dp K H y (.tuple ds) ∧ SeqAt.shaped d = true ∧ d.depth ≤ 32 ∧ SeqAt.shaped (.tuple ds) = true ∧ Q (.bl (if neg then !(ds.any fun z => PyData.eqv z d) else ds.any fun z => PyData.eqv z d)) H
theorem op_inT (hu : X.A.units + 64 < cLine) : OpR X (compareOp .In) (rInT X.K false) := by
  intro pins s σ H x y v u Q I rx ry h
  obtain ⟨d, ds, hd, he, sd, dep, se, q⟩ := h
  obtain ⟨as, r1⟩ := Dp.reads I d x v hd rx
  obtain ⟨bs, r2⟩ := Dp.reads I (.tuple ds) y u he ry
  exact SeqAt.in_tuple_reads r2 r1 (SeqAt.canLay_of_shaped se) (SeqAt.canLay_of_shaped sd) (by omega) ⟨.bl _, H, I, rfl, q⟩
def sInT : Sem2 := fun x y _ k => match x, y with
  | .dat d, .dat (.tup ds) => ∃ px ps, d.py = some px ∧ D.pys ds = some ps ∧ SeqAt.shaped px = true ∧ px.depth ≤ 32 ∧ SeqAt.shaped (.tuple ps) = true ∧ k (.bool (ps.any fun z => PyData.eqv z px))
  | _, _ => False
theorem s_inT : S2 K C sInT (rInT K false) := fun rt ρ fps G H x y v u s a b k Q w q => by
  unfold sInT at w
  split at w
  · obtain ⟨px, ps, h1, h2, h3, h5, h4, w⟩ := w
    exact ⟨px, ps, DR.py s.sub _ _ _ a h1, DR.py s.sub _ _ _ b (by simp [D.py, h2]), h3, h5, h4, q _ _ w (.bool _)⟩
  · exact w.elim

/-! ### lists and tuples made of others -/
theorem DRs.drop : ∀ {ds : List D} {vs : List V} (n : Nat), DRs K C G vs ds → DRs K C G (vs.drop n) (ds.drop n)
  | _, _, 0, h => h
  | [], _, n + 1, .nil => .nil
  | _ :: _, _, n + 1, .cons _ r => DRs.drop n r
theorem DRs.take : ∀ {ds : List D} {vs : List V} (n : Nat), DRs K C G vs ds → DRs K C G (vs.take n) (ds.take n)
  | _, _, 0, _ => .nil
  | [], _, n + 1, .nil => .nil
  | _ :: _, _, n + 1, .cons h r => .cons h (DRs.take n r)
def cutD (ds : List D) (lo hi : Option Int) : List D := (ds.drop (HT.sIx ds.length 0 lo)).take (HT.sIx ds.length ds.length hi - HT.sIx ds.length 0 lo)
theorem DRs.cut {ds : List D} {vs : List V} (h : DRs K C G vs ds) (lo hi : Option Int) : DRs K C G (cutV vs lo hi) (cutD ds lo hi) := by
  unfold cutV cutD
  rw [h.len]
  exact DRs.take _ (DRs.drop _ h)
/-- a slice's part -/
abbrev WP := Cxt → Roots → (Option Int → Roots → Prop) → Prop
def wNo : WP := fun _ rt k => k none rt
def wPart (w : WE) : WP := fun sl rt k => w sl rt fun x rt1 => match x with
  | .dat (.int i) => k (some i) rt1
  | _ => False
def tP (K : PySem.W.Frag) (C : Cs) (U : UX) (w : WP) : TO := fun σ H Q => ∃ sl rt ρ fps G k, St K C sl.sl rt σ ρ fps G H ∧ Xf K C U ρ fps G H sl.ex ∧ w sl rt k ∧ ∀ o rt' fps' G' H', RSt K C rt' ρ fps' G' H' → Nx fps.flatten G H G' H' fps'.flatten → k o rt' → Q o H'
theorem po_imp {e : Option Expr} {t t' : TO} (h : PO X e t) (i : ∀ σ H Q, t' σ H Q → t σ H Q) : PO X e t' := ⟨fun pins s σ H Q I q => h.run pins s σ H Q I (i σ H Q q)⟩
theorem wp_none : PO X none (tP K C U wNo) := po_imp po_none fun σ H Q ⟨sl, rt, ρ, fps, G, k, s, xf, w, q⟩ => q none rt fps G H s.toRSt (Nx.refl _ _ _) w
theorem wp_some {w : WE} (h : PE X e (tE K C U w)) : PO X (some e) (tP K C U (wPart w)) := po_imp (po_some h) fun σ H Q ⟨sl, rt, ρ, fps, G, k, s, xf, w, q⟩ =>
  ⟨sl, rt, ρ, fps, G, _, s, xf, w, fun x rt1 fps1 G1 H1 v r1 n1 v1 w1 => by
    split at w1
    · cases v1
      exact ⟨_, rfl, q _ rt1 fps1 G1 H1 r1 n1 w1⟩
    · exact w1.elim⟩
/-- xs[lo:hi], a new list -/
def wSlL (w : WE) (lo hi : WP) : WO := fun sl rt k => w sl rt fun x rt1 => lo sl rt1 fun l rt2 => hi sl rt2 fun h rt3 => ∃ ds, listOf x rt3 = some ds ∧ k (.lst ((cutD ds l h).map .dat)) rt3
theorem o_slL {w : WE} {lo hi : WP} : ∀ σ H Q, tO K C U (wSlL w lo hi) σ H Q → tSl (rSlL K) (tE K C U w) (tP K C U lo) (tP K C U hi) σ H Q := fun σ H Q ⟨sl, rt, ρ, fps, G, k, s, xf, w, q⟩ =>
  ⟨sl, rt, ρ, fps, G, _, s, xf, w, fun x rt1 fps1 G1 H1 v r1 n1 v1 w1 => ⟨sl, rt1, ρ, fps1, G1, _, s.step r1 n1 fun _ _ e => e, xf.later n1 (Pre.refl _), w1, fun l rt2 fps2 G2 H2 r2 n2 w2 =>
    ⟨sl, rt2, ρ, fps2, G2, _, s.step r2 (n1.trans n2) fun _ _ e => e, xf.later (n1.trans n2) (Pre.refl _), w2, fun h rt3 fps3 G3 H3 r3 n3 w3 => by
      obtain ⟨ds, e, w3⟩ := w3
      · obtain ⟨a, xs, rfl, h2, h3⟩ := r3.listOf e ((v1.up n2 fun _ _ e => e).up n3 fun _ _ e => e)
        refine ⟨a, xs, rfl, h2, fun p hp => ?_⟩
        have n := n1.trans (n2.trans n3)
        obtain ⟨r4, o4⟩ := r3.newL hp ((h3.cut l h).trs (H := H3)) List.nodup_nil (fun _ z => nomatch z) (fun _ z => nomatch z) (fun _ z => nomatch z)
        exact q _ rt3 fps3 _ G3 _ _ r4 (n.trans (Nx.grow hp)) o4 (fun b hb => by
          have : b = p := by simpa using hb
          rw [this]
          exact .inr (n.dom p hp)) w3⟩⟩⟩
theorem wo_slL {w : WE} {lo hi : WP} {l h : Option Expr} {p2 : Pos} (he : PE X e (tE X.K C U w)) (hl : PO X l (tP X.K C U lo)) (hh : PO X h (tP X.K C U hi)) : PE X (.Subscript e (.Slice l h none p2) pos) (tO X.K C U (wSlL w lo hi)) := pe_imp (pe_slice sl_list he hl hh) o_slL
/-- a tuple's slice: data -/
def wSlT (w : WE) (lo hi : WP) : WE := fun sl rt k => w sl rt fun x rt1 => lo sl rt1 fun l rt2 => hi sl rt2 fun h rt3 => match x with
  | .dat (.tup ds) => k (.dat (.tup (cutD ds l h))) rt3
  | _ => False
theorem cut_whole {ds : List D} {l h : Option Int} (e : HT.sIx ds.length 0 l = 0 ∧ HT.sIx ds.length ds.length h = ds.length) : cutD ds l h = ds := by
  unfold cutD
  rw [e.1, e.2]
  simp
theorem e_slT {w : WE} {lo hi : WP} : ∀ σ H Q, tE K C U (wSlT w lo hi) σ H Q → tSl (rSlA K) (tE K C U w) (tP K C U lo) (tP K C U hi) σ H Q := fun σ H Q ⟨sl, rt, ρ, fps, G, k, s, xf, w, q⟩ =>
  ⟨sl, rt, ρ, fps, G, _, s, xf, w, fun x rt1 fps1 G1 H1 v r1 n1 v1 w1 => ⟨sl, rt1, ρ, fps1, G1, _, s.step r1 n1 fun _ _ e => e, xf.later n1 (Pre.refl _), w1, fun l rt2 fps2 G2 H2 r2 n2 w2 =>
    ⟨sl, rt2, ρ, fps2, G2, _, s.step r2 (n1.trans n2) fun _ _ e => e, xf.later (n1.trans n2) (Pre.refl _), w2, fun h rt3 fps3 G3 H3 r3 n3 w3 => by
      have n := n1.trans (n2.trans n3)
      split at w3
      · rename_i ds
        have v3 := (v1.up n2 fun _ _ e => e).up n3 fun _ _ e => e
        cases v3 with
        | @tup a xs _ h2 r =>
          refine ⟨_, _, rfl, ex_t r3.sub h2, fun hw => ?_, fun hw p hp => ?_⟩
          · rw [r.len] at hw
            rw [cut_whole hw] at w3
            exact q (.dat (.tup ds)) rt3 fps3 G3 H3 _ r3 n (.tup h2 r) w3
          · refine q (.dat (.tup (cutD ds l h))) rt3 fps3 _ _ _ (r3.laid hp) (n.trans (Nx.laid r3.sub hp _)) ?_ w3
            exact .tup (st_of upd_same) (DRs.up (Ex.new (fresh_back r3.sub hp)) _ _ (r.cut l h))
      · exact w3.elim⟩⟩⟩
theorem we_slT {w : WE} {lo hi : WP} {l h : Option Expr} {p2 : Pos} (he : PE X e (tE X.K C U w)) (hl : PO X l (tP X.K C U lo)) (hh : PO X h (tP X.K C U hi)) : PE X (.Subscript e (.Slice l h none p2) pos) (tE X.K C U (wSlT w lo hi)) := pe_imp (pe_slice sl_tupA he hl hh) e_slT
/-- a tracked list of data -/
def lstOf (x : Val) (rt : Roots) : Option (List D) := match x with
  | .dat (.lst ds) => some ds
  | .ref r p => match tat rt r p with
    | some (.lst ts) => dats ts
    | _ => none
  | _ => none
theorem RSt.lstOf (s : RSt K C rt ρ fps G H) {x : Val} {v : V} {ds : List D} (h : lstOf x rt = some ds) (hv : VR K C G H ρ x v) : ∃ a xs, v = .ref a ∧ H a = some (.lst xs) ∧ DRs K C G xs ds := by
  unfold Wv.lstOf at h
  split at h
  · cases h
    cases hv with
    | lst h r => exact ⟨_, _, rfl, s.sub _ _ h, r⟩
  · split at h
    · rename_i ts ht
      obtain ⟨a, fu, _, _, k, _⟩ := s.get ht hv
      cases k with
      | lst h2 r =>
        have e := dats_map h
        rw [e] at r
        exact ⟨_, _, rfl, h2, (TRs.dats r).1⟩
    · cases h
  · cases h
/-- xs + ys, a new list -/
def wCatL (wa wb : WE) : WO := fun sl rt k => wa sl rt fun x rt1 => wb sl rt1 fun y rt2 => ∃ ds es, lstOf x rt2 = some ds ∧ lstOf y rt2 = some es ∧ ds.length + es.length ≤ 40000 ∧ k (.lst ((ds ++ es).map .dat)) rt2
theorem o_catL : ∀ σ H Q, tO K C U (wCatL wa wb) σ H Q → tOp rCat (tE K C U wa) (tE K C U wb) σ H Q := fun σ H Q ⟨sl, rt, ρ, fps, G, k, s, xf, w, q⟩ =>
  ⟨sl, rt, ρ, fps, G, _, s, xf, w, fun x rt1 fps1 G1 H1 v r1 n1 v1 w1 => ⟨sl, rt1, ρ, fps1, G1, _, s.step r1 n1 fun _ _ e => e, xf.later n1 (Pre.refl _), w1, fun y rt2 fps2 G2 H2 u r2 n2 v2 w2 => by
    obtain ⟨ds, es, e1, e2, w2⟩ := w2
    · obtain ⟨a, xs, rfl, h1, d1⟩ := r2.lstOf e1 (v1.up n2 fun _ _ e => e)
      obtain ⟨b, ys, rfl, h2, d2⟩ := r2.lstOf e2 v2
      refine ⟨a, b, xs, ys, rfl, rfl, h1, h2, sz_le (by rw [d1.len, d2.len]; exact w2.1), fun p hp => ?_⟩
      have n := n1.trans n2
      obtain ⟨r4, o4⟩ := r2.newL hp ((d1.app d2).trs (H := H2)) List.nodup_nil (fun _ z => nomatch z) (fun _ z => nomatch z) (fun _ z => nomatch z)
      exact q _ rt2 fps2 _ G2 _ _ r4 (n.trans (Nx.grow hp)) o4 (fun b hb => by
        have : b = p := by simpa using hb
        rw [this]
        exact .inr (n.dom p hp)) w2.2⟩⟩
theorem wo_catL (ha : PE X a (tE K C U wa)) (hb : PE X b (tE K C U wb)) : PE X (.BinOp a .Add b pos) (tO K C U (wCatL wa wb)) := pe_imp (pe_op op_cat ha hb) o_catL
/-- [x, ..] * n -/
def wRepL (wa wb : WE) : WO := fun sl rt k => wa sl rt fun x rt1 => wb sl rt1 fun y rt2 => match lstOf x rt2, y with
  | some ds, .dat (.int n) => (-100000 ≤ n ∧ n ≤ 100000) ∧ ds.length * n.toNat ≤ 100000 ∧ k (.lst (((List.replicate n.toNat ds).flatten).map .dat)) rt2
  | _, _ => False
theorem DRs.rep {ds : List D} {vs : List V} (h : DRs K C G vs ds) : ∀ n : Nat, DRs K C G (List.replicate n vs).flatten (List.replicate n ds).flatten
  | 0 => .nil
  | n + 1 => by
    rw [List.replicate_succ, List.replicate_succ, List.flatten_cons, List.flatten_cons]
    exact h.app (DRs.rep h n)
theorem o_repL : ∀ σ H Q, tO K C U (wRepL wa wb) σ H Q → tOp rRep (tE K C U wa) (tE K C U wb) σ H Q := fun σ H Q ⟨sl, rt, ρ, fps, G, k, s, xf, w, q⟩ =>
  ⟨sl, rt, ρ, fps, G, _, s, xf, w, fun x rt1 fps1 G1 H1 v r1 n1 v1 w1 => ⟨sl, rt1, ρ, fps1, G1, _, s.step r1 n1 fun _ _ e => e, xf.later n1 (Pre.refl _), w1, fun y rt2 fps2 G2 H2 u r2 n2 v2 w2 => by
    split at w2
    · rename_i ds n e1
      obtain ⟨a, xs, rfl, h1, d1⟩ := r2.lstOf e1 (v1.up n2 fun _ _ e => e)
      cases v2
      refine ⟨a, n, xs, rfl, rfl, h1, by omega, by omega, sz_of (by rw [d1.len]; exact w2.2.1), fun p hp => ?_⟩
      have nn := n1.trans n2
      obtain ⟨r4, o4⟩ := r2.newL hp ((d1.rep n.toNat).trs (H := H2)) List.nodup_nil (fun _ z => nomatch z) (fun _ z => nomatch z) (fun _ z => nomatch z)
      exact q _ rt2 fps2 _ G2 _ _ r4 (nn.trans (Nx.grow hp)) o4 (fun b hb => by
        have : b = p := by simpa using hb
        rw [this]
        exact .inr (nn.dom p hp)) w2.2.2
    · exact w2.elim⟩⟩
theorem wo_repL (ha : PE X a (tE K C U wa)) (hb : PE X b (tE K C U wb)) : PE X (.BinOp a .Mult b pos) (tO K C U (wRepL wa wb)) := pe_imp (pe_op op_rep ha hb) o_repL
/-- t + u -/
def wCatT (wa wb : WE) : WE := fun sl rt k => wa sl rt fun x rt1 => wb sl rt1 fun y rt2 => match x, y with
  | .dat (.tup ds), .dat (.tup es) => ds.length + es.length ≤ 40000 ∧ k (.dat (.tup (ds ++ es))) rt2
  | _, _ => False
theorem e_catT : ∀ σ H Q, tE K C U (wCatT wa wb) σ H Q → tOp (rCatA K) (tE K C U wa) (tE K C U wb) σ H Q := fun σ H Q ⟨sl, rt, ρ, fps, G, k, s, xf, w, q⟩ =>
  ⟨sl, rt, ρ, fps, G, _, s, xf, w, fun x rt1 fps1 G1 H1 v r1 n1 v1 w1 => ⟨sl, rt1, ρ, fps1, G1, _, s.step r1 n1 fun _ _ e => e, xf.later n1 (Pre.refl _), w1, fun y rt2 fps2 G2 H2 u r2 n2 v2 w2 => by
    have v1 := v1.up n2 fun _ _ e => e
    have n := n1.trans n2
    split at w2
    · rename_i ds es _
      cases v1 with
      | @tup a xs _ h1 d1 =>
        cases v2 with
        | @tup b ys _ h2 d2 =>
          refine ⟨a, b, xs, ys, rfl, rfl, ex_t r2.sub h1, ex_t r2.sub h2, sz_le (by rw [d1.len, d2.len]; exact w2.1), fun e => ?_, fun _ e => ?_, fun _ _ p hp => ?_⟩
          · subst e
            cases d1
            exact q (.dat (.tup es)) rt2 fps2 G2 H2 _ r2 n (.tup h2 d2) w2.2
          · subst e
            cases d2
            have := w2.2
            rw [List.append_nil] at this
            exact q (.dat (.tup ds)) rt2 fps2 G2 H2 _ r2 n (.tup h1 d1) this
          · exact q (.dat (.tup (ds ++ es))) rt2 fps2 _ _ _ (r2.laid hp) (n.trans (Nx.laid r2.sub hp _)) (.tup (st_of upd_same) (DRs.up (Ex.new (fresh_back r2.sub hp)) _ _ (d1.app d2))) w2.2
    · exact w2.elim⟩⟩
theorem we_catT (ha : PE X a (tE X.K C U wa)) (hb : PE X b (tE X.K C U wb)) : PE X (.BinOp a .Add b pos) (tE X.K C U (wCatT wa wb)) := pe_imp (pe_op op_catA ha hb) e_catT
/-- divmod -/
def wDivmod (w : WA) : WE := fun sl rt k => w sl rt fun xs rt1 => match xs with
  | [.dat (.int i), .dat (.int j)] => CDiv i j ∧ k (.dat (.tup [.int (i / j), .int (i % j)])) rt1
  | _ => False
theorem e_divmod {w : WA} : ∀ σ H Q, tE K C U (wDivmod w) σ H Q → tCB (fun xs H Q => ∃ i j, xs = [.int i, .int j] ∧ CDiv i j ∧ ∀ p, H p = none → Q (.ref p) (upd H p (.tup [.int (i / j), .int (i % j)]))) (tA K C U w) σ H Q := fun σ H Q ⟨sl, rt, ρ, fps, G, k, s, xf, w, q⟩ =>
  ⟨sl, rt, ρ, fps, G, _, s, xf, w, fun xs rt1 fps1 G1 H1 vs r1 n1 v1 w1 => by
    split at w1
    · rename_i i j
      cases v1 with
      | cons h r =>
        cases r with
        | cons h' r =>
          cases r
          cases h
          cases h'
          refine ⟨i, j, rfl, w1.1, fun p hp => q (.dat (.tup [.int (i / j), .int (i % j)])) rt1 fps1 _ _ _ (r1.laid hp) (n1.trans (Nx.laid r1.sub hp _)) ?_ w1.2⟩
          exact .tup (st_of upd_same) (.cons (.int _) (.cons (.int _) .nil))
    · exact w1.elim⟩
/-- enumerate(list), the pairs new -/
def wEnum (w : WA) : WI := fun sl rt k => w sl rt fun xs rt1 => match xs with
  | [.dat (.lst ds)] => k (ds.zipIdx.map fun q => .tup [.int (q.2 : Nat), q.1]) rt1
  | _ => False
theorem i_enum {w : WA} : ∀ σ H Q, tI K C U (wEnum w) σ H Q → iEnum K (tA K C U w) σ H Q := fun σ H Q ⟨sl, rt, ρ, fps, G, k, s, xf, w, q⟩ =>
  ⟨sl, rt, ρ, fps, G, _, s, xf, w, fun xs rt1 fps1 G1 H1 vs r1 n1 v1 w1 => by
    split at w1
    · rename_i ds
      cases v1 with
      | cons h r =>
        cases r
        cases h with
        | @lst a xs _ h2 r =>
          refine ⟨a, xs, rfl, sq_of (r1.sub _ _ h2), q _ rt1 fps1 G1 H1 _ r1 n1 ⟨fun H => SqL K H a xs, YPair (fun i => some (.int (i : Nat))) (fun i => xs[i]?), ?_, fun H2 e2 => sq_of (e2 _ _ h2), fun i d H2 v H3 hd _ y => ?_⟩ w1⟩
          · rw [List.length_map, List.length_zipIdx, ← r.len]
            exact walk_enum
          · obtain ⟨T, x, y', rfl, hT, rfl, e1, e2⟩ := y
            cases e1
            rw [List.getElem?_map, List.getElem?_zipIdx] at hd
            cases z : ds[i]? with
            | none => rw [z] at hd; cases hd
            | some d0 =>
              rw [z] at hd
              cases hd
              obtain ⟨u, z1, z2⟩ := r.get z
              have e3 : some u = some y' := z1.symm.trans e2
              cases e3
              refine .inr ⟨T, _, _, hT, rfl, rfl, rfl, .cons ?_ (.cons z2 .nil)⟩
              show DR K C G1 (.int (i : Nat)) (.int ((0 + i : Nat) : Int))
              rw [Nat.zero_add]
              exact .int _
    · exact w1.elim⟩
end
end Wv
end

section
set_option Elab.async false
set_option linter.all false
set_option maxRecDepth 100000
set_option maxHeartbeats 4000000
namespace Wv
open PySem PySem.Spec PyProof.Rows L2 Evl
section
variable {K : PySem.W.Frag} {C : Cs} {U : UX} {G H G' H' G1 H1 G2 H2 : Hp} {sl sl' : Slots} {rt rt' : Roots} {σ : L2.St} {ρ ρ' ρ1 : List Addr} {fps fps' fps1 : List (List Addr)}
variable {X : Cx} {CX : CXT} {a b c e o : Expr} {es rest : List Expr} {wa wb wc : WE} {pos p apos cpos : Pos} {Z : WEnds} {E : L2.St → XK} {st : Stmt} {k : Nat} {f Ca : Addr} {fd : FuncData} {ps : List Str} {sp : Sp} {x m name : Str} {ta to : TE} {t : TA} {ds : List Value}
/-! ### a tuple whose object is known -/
def tTupX (t : TA) : TE := fun σ H Q => t σ H fun xs H1 => xs.length ≤ sizeLine ∧ ∀ p ob, ob.dict = none → H1 p = none → Q (.ref p) (upd H1 p (.frz ob (.tup xs)))
theorem pe_tupX {x1} (h : PA X es t) : PE X (.Tuple es x1 pos) (tTupX t) := by
  refine ⟨fun pins s σ H Q I hq => ?_⟩
  refine wpAny_Tuple_spliced (thn (h.run pos pins s σ H _ I hq) fun us s1 ⟨xs, H1, I1, r, z, q⟩ => ⟨by rw [← r.length]; exact z, ?_⟩)
  have hf : H1 s1.heap.objs.size = none := I1.hok.fresh (Nat.le_refl _)
  refine ⟨.ref s1.heap.objs.size, upd H1 s1.heap.objs.size (.frz { cls := .type "tuple", data := .seq us.toArray } (.tup xs)), I1.laid (t' := s1.toks) (fun b u e => Heap.get?_push_of_some _ e) (Nat.le_refl _) ?_, rfl, q _ _ rfl hf⟩
  exact ⟨Heap.get?_push_size _ rfl, z, us, r, ⟨_, Heap.get?_push_size _ rfl, rfl, _, rfl⟩⟩
def wTupX (w : WA) : WE := fun sl rt k => w sl rt fun xs rt1 => match datsV xs with
  | some ds => ds.length ≤ 1000 ∧ k (.dat (.tpx ds)) rt1
  | none => False
theorem we_tupX {x1} {w : WA} (h : PA X es (tA K C U w)) : PE X (.Tuple es x1 pos) (tE K C U (wTupX w)) := pe_imp (pe_tupX h) fun σ H Q ⟨sl, rt, ρ, fps, G, k, s, xf, w, q⟩ =>
  ⟨sl, rt, ρ, fps, G, _, s, xf, w, fun xs rt1 fps1 G1 H1 vs r1 n1 v1 w1 => by
    split at w1
    · rename_i ds e
      have dr := v1.dats e
      refine ⟨sz_le (by rw [dr.len]; exact w1.1), fun p ob ho hp => q (.dat (.tpx ds)) rt1 fps1 _ _ _ (r1.laid hp) (n1.trans (Nx.laid r1.sub hp _)) ?_ w1.2⟩
      exact .tpx upd_same ho (DRs.up (Ex.new (fresh_back r1.sub hp)) _ _ dr)
    · exact w1.elim⟩

/-! ### index of a flat thing in a list of flat things -/
def flatD : D → Bool
  | .int _ => true
  | .str _ => true
  | .bool _ => true
  | .non => true
  | _ => false
theorem flatD_ok {d : D} {v : V} (h : flatD d = true) (r : DR K C G v d) : flatV v = true := by
  cases r <;> first | rfl | cases h
/-- j is the first place of y in ds -/
def firstAt (ds : List D) (y : D) (j : Nat) : Prop := (∃ z, ds[j]? = some z ∧ D.sc z y = some true) ∧ ∀ (m : Nat) z, m < j → ds[m]? = some z → D.sc z y = some false
theorem sc_eqV {x y : D} {v u : V} {b : Bool} (h : D.sc x y = some b) (hx : DR K C G v x) (hy : DR K C G u y) : eqV v u = b := by
  unfold D.sc at h
  split at h
  case h_15 => cases h
  all_goals
    cases hx; cases hy; cases h
    first
      | rfl
      | (unfold eqV; simp)
theorem flats_ok : ∀ {ds : List D} {xs : List V}, ds.all flatD = true → DRs K C G xs ds → xs.all flatV = true
  | _, _, _, .nil => rfl
  | _, _, h, .cons r rs => by
    rw [List.all_cons, Bool.and_eq_true] at h ⊢
    exact ⟨flatD_ok h.1 r, flats_ok h.2 rs⟩
def wIxL (wo : WE) (w : WA) : WE := fun sl rt k => wo sl rt fun x rt1 => match x with
  | .dat (.lst ds) => w sl rt1 fun ys rt2 => match ys with
    | [.dat y] => flatD y = true ∧ ds.all flatD = true ∧ ∃ j, firstAt ds y j ∧ k (.dat (.int (j : Nat))) rt2
    | _ => False
  | _ => False
theorem e_ixL {wo : WE} {w : WA} : ∀ σ H Q, tE K C U (wIxL wo w) σ H Q → tBM K "list" (rIndex K) (tE K C U wo) (tA K C U w) σ H Q := fun σ H Q ⟨sl, rt, ρ, fps, G, k, s, xf, w, q⟩ =>
  ⟨sl, rt, ρ, fps, G, _, s, xf, w, fun x rt1 fps1 G1 H1 v r1 n1 v1 w1 => by
    split at w1
    · rename_i ds
      have v1' := v1
      cases v1 with
      | @lst a xs _ h r =>
        refine ⟨.inl ⟨rfl, xs, sq_of (r1.sub _ _ h)⟩, sl, rt1, ρ, fps1, G1, _, s.step r1 n1 fun _ _ e => e, xf.later n1 (Pre.refl _), w1, fun ys rt2 fps2 G2 H2 us r2 n2 v2 w2 => ?_⟩
        split at w2
        · rename_i y
          cases v2 with
          | cons hy rr =>
            cases rr
            obtain ⟨f1, f2, j, ⟨⟨z, z1, z2⟩, z3⟩, w2⟩ := w2
            have h' := n2.g _ _ h
            have r' := DRs.up n2.g _ _ r
            obtain ⟨u, u1, u2⟩ := r'.get z1
            refine ⟨a, xs, _, j, u, rfl, rfl, sq_of (r2.sub _ _ h'), flatD_ok f1 hy, flats_ok f2 r', u1, sc_eqV z2 u2 hy, fun m z' hm hz' => ?_, q (.dat (.int j)) rt2 fps2 G2 H2 _ r2 (n1.trans n2) (DR.int _) w2⟩
            have hl : m < ds.length := by
              have := (List.getElem?_eq_some_iff.mp hz').1
              rw [r'.len] at this
              exact this
            obtain ⟨u', k1, k2⟩ := r'.get (List.getElem?_eq_getElem hl)
            rw [k1] at hz'
            cases hz'
            exact sc_eqV (z3 m _ hm (List.getElem?_eq_getElem hl)) k2 hy
        · exact w2.elim
    · exact w1.elim⟩
theorem we_ixL {wo : WE} {w : WA} (h : PE X e (tBM X.K "list" (rIndex X.K) (tE X.K C U wo) (tA X.K C U w))) : PE X e (tE X.K C U (wIxL wo w)) := pe_imp h e_ixL
/-- t.index(x), t a tuple whose object is known -/
def rIndexT : V → List V → Hp → VK → Prop := fun x xs H Q => ∃ (a : Addr) (ob : Obj) (ys : List V) (y : V) (j : Nat) (z : V), x = V.ref a ∧ xs = [y] ∧ H a = some (.frz ob (.tup ys)) ∧ flatV y = true ∧ ys.all flatV = true ∧ ys[j]? = some z ∧ eqV z y = true ∧
  (∀ (m : Nat) (z' : V), m < j → ys[m]? = some z' → eqV z' y = false) ∧ Q (.int (j : Nat)) H
theorem mt_indexT : MtR X "tuple.index" rIndexT := by
  intro pins s σ H x xs v us Q I rx rxs h
  obtain ⟨a, ob, ys, y, j, z, rfl, rfl, hs, fy, fys, hz, hzj, hno, q⟩ := h
  cases rx
  cases rxs with
  | cons ry rt =>
    rename_i uy ut
    cases rt
    obtain ⟨its, rv, pl, hlen⟩ := I.tuple (.inl (.inr ⟨ob, hs⟩))
    obtain ⟨⟨cls, dd, dt, sl⟩, ho, hc, n, hd⟩ := pl
    simp only at hc hd
    subst hc hd
    obtain ⟨u, hu, ru⟩ := rv.get hz
    obtain ⟨hjl, hje⟩ := List.getElem?_eq_some_iff.mp hu
    have hvl := rv.length
    have hj : j < its.toArray.size := by simpa using hjl
    refine call_meets PySem.F.slot_tuple_index ⟨_, ho, rfl⟩ PySem.F.entry_tuple_index (PySem.F.args_tuple_index_2 _ _)
      (TI.tuple_indexAt a its.toArray n dd sl uy (eqU y) j hj ?_ ?_) ⟨ho, fun u' hu' => mem_eqAt ry fy rv fys u' (by simpa using hu'), ?_⟩
    · have e1 : its.toArray[j] = u := by simpa using hje
      rw [e1, eqU_of ru (flat_at fys hz)]
      exact hzj
    · intro m hm hmj
      have hml : m < its.length := by simpa using hm
      have hmy : m < ys.length := by omega
      have hy' : ys[m]? = some ys[m] := List.getElem?_eq_getElem hmy
      obtain ⟨u2, hu2, ru2⟩ := rv.get hy'
      obtain ⟨_, hme⟩ := List.getElem?_eq_some_iff.mp hu2
      have e1 : its.toArray[m] = u2 := by simpa using hme
      rw [e1, eqU_of ru2 (flat_at fys hy')]
      exact hno m _ hmj hy'
    · exact ⟨.int (j : Nat), H, I.tok _, ⟨_, rfl⟩, q⟩
def tBMT (r : V → List V → Hp → VK → Prop) (to : TE) (t : TA) : TE := fun σ H Q => to σ H fun x H1 => (∃ a ob xs, x = .ref a ∧ H1 a = some (.frz ob (.tup xs)) ∧ ob.dict = none) ∧ t σ H1 fun xs H2 => r x xs H2 Q
theorem pe_bmT {T id : String} {r : V → List V → Hp → VK → Prop} (hT : T = "tuple") (pa : PlainAttrs T) (slot : Slot T name id) (hty : typeOf (.builtin id) = pure (.type "method_descriptor")) (hm : MtR X id r) (ho : PE X o to) (ha : PA X (e :: es) t)
    (hbase : attributeBase o name X.env (eval o X.env) = eval o X.env := by rfl)
    (hfew : ((backTo cpos (starEach (e :: es) X.env)).all (fun x => !x.1) && (backToKw cpos (keywordEach [] X.env)).all (fun x => x.1.isSome)
      && decide ((e :: es).length + ([] : List Keyword).length + (if ([] : List Keyword).isEmpty then 0 else 1) < 30)) = true := by rfl)
    (hline : (apos.endLine == cpos.line) = true := by rfl) (hs : starEach (e :: es) X.env = (false, eval e X.env) :: starEach es X.env := by rfl) (hplain : (backTo cpos (starEach es X.env)).any (·.1) = false := by rfl) :
    PE X (.Call (.Attribute o name apos) (e :: es) [] cpos) (tBMT r to t) := by
  refine ⟨fun pins s σ H Q I h => ?_⟩
  refine wpAny_Call_method_late hbase hfew hline rfl (thn (ho.run pins s σ H _ I h) fun v s1 ⟨x, H1, I1, r1, ⟨a, ob, xs, ea, hx, hd⟩, q1⟩ => ?_)
  subst ea
  obtain rfl : v = Value.ref a := r1
  obtain ⟨h0, _, _, _, o', h1, h2, _⟩ := (show ObjOk X.prog X.w H1 s1.heap a (.frz ob (.tup xs)) from I1.hok a _ hx)
  have e : o' = ob := by rw [h0] at h1; exact (Option.some.inj h1).symm
  subst e
  subst hT
  refine ⟨_, id, pa, slot, hty, ⟨_, h0, h2⟩, fun a' e' => by cases e'; exact ⟨_, h0, hd⟩, ?_⟩
  have hA := ha.run cpos pins s1 σ H1 _ I1 q1
  rw [hs] at hA ⊢
  refine Calls.callWith_builtin (by show (false || (backTo cpos (starEach es X.env)).any (·.1)) = false; rw [hplain] <;> rfl) (Calls.evalArgs_plain ?_)
  exact thn hA fun us s2 ⟨vs, H2, I2, r2, q2⟩ => hm pins s2 σ H2 (.ref a) vs _ us Q I2 rfl r2 q2
def wIxT (wo : WE) (w : WA) : WE := fun sl rt k => wo sl rt fun x rt1 => match x with
  | .dat (.tpx ds) => w sl rt1 fun ys rt2 => match ys with
    | [.dat y] => flatD y = true ∧ ds.all flatD = true ∧ ∃ j, firstAt ds y j ∧ k (.dat (.int (j : Nat))) rt2
    | _ => False
  | _ => False
theorem e_ixT {wo : WE} {w : WA} : ∀ σ H Q, tE K C U (wIxT wo w) σ H Q → tBMT rIndexT (tE K C U wo) (tA K C U w) σ H Q := fun σ H Q ⟨sl, rt, ρ, fps, G, k, s, xf, w, q⟩ =>
  ⟨sl, rt, ρ, fps, G, _, s, xf, w, fun x rt1 fps1 G1 H1 v r1 n1 v1 w1 => by
    split at w1
    · rename_i ds
      cases v1 with
      | @tpx a ob xs _ h hd r =>
        refine ⟨⟨a, ob, xs, rfl, r1.sub _ _ h, hd⟩, sl, rt1, ρ, fps1, G1, _, s.step r1 n1 fun _ _ e => e, xf.later n1 (Pre.refl _), w1, fun ys rt2 fps2 G2 H2 us r2 n2 v2 w2 => ?_⟩
        split at w2
        · rename_i y
          cases v2 with
          | cons hy rr =>
            cases rr
            obtain ⟨f1, f2, j, ⟨⟨z, z1, z2⟩, z3⟩, w2⟩ := w2
            have h' := n2.g _ _ h
            have r' := DRs.up n2.g _ _ r
            obtain ⟨u, u1, u2⟩ := r'.get z1
            refine ⟨a, ob, xs, _, j, u, rfl, rfl, r2.sub _ _ h', flatD_ok f1 hy, flats_ok f2 r', u1, sc_eqV z2 u2 hy, fun m z' hm hz' => ?_, q (.dat (.int j)) rt2 fps2 G2 H2 _ r2 (n1.trans n2) (DR.int _) w2⟩
            have hl : m < ds.length := by
              have := (List.getElem?_eq_some_iff.mp hz').1
              rw [r'.len] at this
              exact this
            obtain ⟨u', k1, k2⟩ := r'.get (List.getElem?_eq_getElem hl)
            rw [k1] at hz'
            cases hz'
            exact sc_eqV (z3 m _ hm (List.getElem?_eq_getElem hl)) k2 hy
        · exact w2.elim
    · exact w1.elim⟩
theorem we_ixT {wo : WE} {w : WA} (h : PE X e (tBMT rIndexT (tE K C U wo) (tA K C U w))) : PE X e (tE K C U (wIxT wo w)) := pe_imp h e_ixT

/-! ### sorted of fewer than 64 integers -/
def intsD : List D → Option (List Int)
  | [] => some []
  | .int i :: ds => (intsD ds).map (i :: ·)
  | _ :: _ => none
theorem intsD_ok : ∀ (ds : List D) (xs : List V) (ns : List Int), intsD ds = some ns → DRs K C G xs ds → xs = ns.map V.int
  | [], _, ns, h, r => by cases r; cases h; rfl
  | d :: ds, _, ns, h, r => by
    cases r with
    | cons r rs =>
      cases d with
      | int i =>
        cases r
        obtain ⟨ms, h1, rfl⟩ := Option.map_eq_some_iff.mp (show (intsD ds).map (i :: ·) = some ns from h)
        rw [intsD_ok ds _ ms h1 rs]
        rfl
      | _ => cases h
theorem trs_ints : ∀ (ns : List Int), TRs K C G H (ns.map V.int) (ns.map fun i => .dat (.int i)) []
  | [] => .nil
  | i :: ns => .cons (fp := []) (fq := []) (.dat (.int i)) (trs_ints ns)
def wSorted (w : WA) : WO := fun sl rt k => w sl rt fun xs rt1 => match xs with
  | [x] => match listOf x rt1 with
    | some ds => ∃ ns, intsD ds = some ns ∧ ns.length < 64 ∧ ∀ ns' : List Int, ns'.Perm ns → ns'.Pairwise (· ≤ ·) → k (.lst (ns'.map fun i => .dat (.int i))) rt1
    | none => False
  | _ => False
theorem o_sorted {w : WA} : ∀ σ H Q, tO K C U (wSorted w) σ H Q → tCB (rSorted K) (tA K C U w) σ H Q := fun σ H Q ⟨sl, rt, ρ, fps, G, k, s, xf, w, q⟩ =>
  ⟨sl, rt, ρ, fps, G, _, s, xf, w, fun xs rt1 fps1 G1 H1 vs r1 n1 v1 w1 => by
    split at w1
    · split at w1
      · rename_i ds e
        cases v1 with
        | cons h r =>
          cases r
          obtain ⟨a, xs, rfl, h2, h3⟩ := r1.listOf e h
          obtain ⟨ns, i1, i2, w1⟩ := w1
          have hx := intsD_ok _ _ _ i1 h3
          subst hx
          refine ⟨a, ns, rfl, h2, i2, fun ns' p hp hs hn => ?_⟩
          obtain ⟨r2, o2⟩ := r1.newL hn (trs_ints (H := H1) ns') List.nodup_nil (fun _ z => nomatch z) (fun _ z => nomatch z) (fun _ z => nomatch z)
          exact q _ rt1 fps1 _ G1 _ _ r2 (n1.trans (Nx.grow hn)) o2 (fun b hb => by
            have : b = p := by simpa using hb
            rw [this]
            exact .inr (n1.dom p hn)) (w1 ns' hp hs)
      · exact w1.elim
    · exact w1.elim⟩

/-! ### isinstance of an own instance or an int; an own == -/
structure IsK (K : PySem.W.Frag) (C : Addr) : Prop where
  cl : Cls K C
  ha : PySem.W.findIn K (.ref C) "__class__" = some (some (.builtin "object.__class__"))
  hn : PySem.W.specialIn K (.builtin "object.__class__") "__get__" = some (some (.builtin "getset_descriptor.__get__"))
  htk : PySem.W.takesIn K (.builtin "object.__class__") = some true
  hm : PySem.W.mroIn K C (.type "object") = some true
  me : PySem.W.kitOne K (.ref C) (.ref C) = some true
  int : PySem.W.kitOne K (.type "int") (.ref C) = some false
def wIsC (c : Nat) (w : WE) : WE := fun sl rt k => w sl rt fun x rt1 => match x with
  | .dat (.obj c' _) => c' = c ∧ k (.dat (.bool true)) rt1
  | .dat (.int _) => k (.dat (.bool false)) rt1
  | _ => False
theorem e_isC {c : Nat} {w : WE} (hc : IsK K (C.at_ c)) : ∀ σ H Q, tE K C U (wIsC c w) σ H Q → tCB (rIsi K) (tCons (tE K C U w) (tCons (tC (.ref (C.at_ c))) tNil)) σ H Q := fun σ H Q ⟨sl, rt, ρ, fps, G, k, s, xf, w, q⟩ =>
  ⟨sl, rt, ρ, fps, G, _, s, xf, w, fun x rt1 fps1 G1 H1 v r1 n1 v1 w1 => by
    split at w1
    · obtain ⟨e, w1⟩ := w1
      subst e
      cases v1 with
      | obj h n r => exact ⟨_, _, _, _, true, rfl, .own _, .base (.ins (r1.sub _ _ h) hc.cl hc.ha hc.hn hc.htk hc.hm), hc.me, q (.dat (.bool true)) rt1 fps1 G1 H1 _ r1 n1 (DR.bool _) w1⟩
    · cases v1 with
      | int i => exact ⟨_, _, _, _, false, rfl, .own _, .base (.int _), hc.int, q (.dat (.bool false)) rt1 fps1 G1 H1 _ r1 n1 (DR.bool _) w1⟩
    · exact w1.elim⟩
theorem we_isC {c : Nat} {w : WE} (hc : IsK X.K (C.at_ c)) (h : PE X e (tCB (rIsi X.K) (tCons (tE X.K C U w) (tCons (tC (.ref (C.at_ c))) tNil)))) : PE X e (tE X.K C U (wIsC c w)) := pe_imp h (e_isC hc)
end
end Wv
end

section
set_option Elab.async false
set_option linter.all false
set_option maxRecDepth 100000
set_option maxHeartbeats 4000000
namespace Wv
open PySem PySem.Spec PyProof.Rows L2 Evl
section
variable {K : PySem.W.Frag} {C : Cs} {U : UX} {G H G' H' G1 H1 G2 H2 : Hp} {sl sl' : Slots} {rt rt' : Roots} {σ : L2.St} {ρ ρ' ρ1 : List Addr} {fps fps' fps1 : List (List Addr)}
variable {X : Cx} {CX : CXT} {a b c e o : Expr} {es rest : List Expr} {wa wb wc : WE} {pos p apos cpos : Pos} {Z : WEnds} {E : XK} {st : Stmt} {k : Nat} {f Ca : Addr} {fd : FuncData} {ps : List Str} {sp : Sp} {x m name : Str} {ta to : TE} {t : TA} {ds : List Value}
/-! ### an own ==, both answers -/
/-- a def called from below -/
theorem run_at {A : Around} {pins : List (Addr × Obj)} {H : Hp} {s : Shared} {Q : VK} {us : List Value} {vs : List V} (sb : Sub X k A) (F : FnOk X.prog X.w X.K X.mg X.base CX k f fd ps sp) (hb : Binds X.K fd ps []) (hx : Passes CX X E)
    (I : Inv X pins σ H s) (r : Vals vs us) (h : sp vs H Q E) : wpAny (model X.prog X.w) A (call (.ref f) us) (EP X pins σ Q) X.xe s := by
  have e0 : Env0 X.prog X.w X.K X.mg X.base A X.stack s H := by
    have e := I.env0
    exact ⟨by rw [sb.fr]; exact e.frames, e.mod, e.bs, e.bsz, e.funs, e.frf, e.hok, e.bare⟩
  have hl := F.len _ _ _ _ h
  refine wpAny_call (codeAny_mono (F.run A X.stack s H ⟨us, []⟩ us vs Q E sb.room e0 (by
    have := hb s us I.kIn (by rw [← hl, r.length]; simp)
    simpa using this) r h) fun z s' hq => ?_)
  cases z with
  | error e => exact hx pins σ H s e s' I hq
  | ok fl =>
    cases fl with
    | ret w => exact I.after hq
    | next => exact False.elim hq
    | brk => exact False.elim hq
    | cont => exact False.elim hq
def rOwn (Ca : Addr) (sp : Sp) (neg : Bool) : R2 := fun x y H Q => ∃ a dx fs, x = .ref a ∧ H a = some (.ins Ca dx fs) ∧ ((∃ i, y = .int i) ∨ ∃ b dy gs, y = .ref b ∧ H b = some (.ins Ca dy gs)) ∧
  sp [x, y] H (fun v H' => ∃ b, v = .bl b ∧ Q (.bl (neg != b)) H') fun _ _ _ => False
structure EqK (K : PySem.W.Frag) (Ca f : Addr) : Prop where
  eq : PySem.W.findIn K (.ref Ca) "__eq__" = some (some (.ref f))
  ne : PySem.W.findIn K (.ref Ca) "__ne__" = some (some (.builtin "object.__ne__"))
  fn : PySem.W.isFn K (.ref f) = true
  hm : PySem.W.mroIn K Ca (.type "object") = some true
theorem not_int {K : PySem.W.Frag} {C : Addr} : PySem.W.notFirst K C (.type "int") = true := by
  have e : fastBuiltinMro "int" = some [.type "int", .type "object"] := by decide +kernel
  have : PySem.W.subIn K (.type "int") (.ref C) = some false := by
    show (fastBuiltinMro "int").map (·.contains (.ref C)) = some false
    rw [e]
    first
      | rfl
      | simp
  unfold PySem.W.notFirst
  rw [this]
  simp
theorem op_ownEq (F : FnOk X.prog X.w X.K X.mg X.base CX k f fd ps sp) (hr : Room k X.A) (hk : EqK X.K Ca f) (hb : Binds X.K fd ps []) (hx : Passes CX X fun _ _ _ => False) : OpR X (compareOp .Eq) (rOwn Ca sp false) := by
  intro pins s σ H x y v u Q I rx ry ⟨a, dx, fs, ex, ha, hy, h⟩
  subst ex
  obtain rfl : v = Value.ref a := rx
  obtain ⟨mA, J, _⟩ := ins_get I.hok ha
  obtain ⟨od, J, _⟩ := J.look
  obtain ⟨m, hF⟩ := I.fr
  have r2 : Vals [V.ref a, y] [Value.ref a, u] := .cons rfl (.cons ry .nil)
  have hcall := run_at ⟨hr, rfl⟩ F hb hx I r2 h
  have back : wpAny (model X.prog X.w) X.A (call (.ref f) [.ref a, u]) (PySem.W.CmpBack (EP X pins σ Q)) X.xe s := wpAny_mono hcall (fun w s' hw => by
    obtain ⟨z, H', I', rz, b, ez, q⟩ := hw
    subst ez
    cases rz
    exact ⟨.bl b, H', I', rfl, by simpa using q⟩) fun _ _ z => z
  show wpAny (model X.prog X.w) X.A (richCompare .Eq (.ref a) u) (EP X pins σ Q) X.xe s
  rcases hy with ⟨i, rfl⟩ | ⟨b, dy, gs, rfl, hb'⟩
  · obtain ⟨t, rfl⟩ := ry
    exact PySem.W.cmp_K (op := .Eq) (tb := .type "int") hr.units0 hF I.ok.mod.kin J (PySem.W.Looks.of_pure rfl) not_int hk.eq hk.fn back
  · obtain rfl : u = Value.ref b := ry
    obtain ⟨mB, J', _⟩ := ins_get I.hok hb'
    obtain ⟨od', J', _⟩ := J'.look
    exact PySem.W.cmp_K (op := .Eq) (tb := .ref Ca) hr.units0 hF I.ok.mod.kin J J'.type (by simp [PySem.W.notFirst]) hk.eq hk.fn back
section
variable {A : Around} {EV : Value → Shared → Prop} {s : Shared} {ax : Addr} {ox : Obj} {od : Option Obj}
theorem ifBound_ne {args : List Value} {Q : Option Value → Shared → Prop} (hX : K.In s.heap) (I : PySem.W.InstAt s.heap ax ox Ca od) (hs : PySem.W.findIn K (.ref Ca) "__ne__" = some (some (.builtin "object.__ne__")))
    (h : wpAny (model X.prog X.w) A (call (.builtin "object.__ne__") (.ref ax :: args)) (fun v => Q (some v)) EV s) : wpAny (model X.prog X.w) A (callSpecialIfBound? (.ref ax) "__ne__" args) Q EV s := by
  simp only [callSpecialIfBound?, bindSpecialIfBound?]
  refine wpAny_holding (wpAny_bind (wpAny_bind (wpAny_bind (I.type.here ((PySem.W.looks_findIn hX hs).here ?_)))))
  refine wpAny_bind (wpAny_askSetting (wpAny_ite ?_))
  have fin : wpAny (model X.prog X.w) A (call (.builtin "object.__ne__") ([.ref ax] ++ args) >>= fun v => pure (some v)) Q EV s := wpAny_bind (wpAny_mono h (fun v s' h' => wpAny_pure h') fun _ _ h' => h')
  split
  · exact wpAny_bind (wpAny_of_eq (F.cmp_object.ne.bind _) (wpAny_pure (by exact fin)))
  · exact wpAny_tryCatch (wpAny_bind (wpAny_of_eq (F.cmp_object.ne.bind _) (wpAny_pure (by exact fin))))
theorem entry_ne {y : Value} {Q : PySem.Fin → Shared → Prop} (hX : K.In s.heap) (I : PySem.W.InstAt s.heap ax ox Ca od) (hk : EqK K Ca f) (hu : A.units < cLine)
    (h : wpAny (model X.prog X.w) A (call (.ref f) [.ref ax, y]) (fun v s' => ∃ b, v = .bool b ∧ Q (.done (.ret (.bool (!b)))) s') EV s) : wpAny (model X.prog X.w) A (Builtin.«object.__ne__» ⟨[.ref ax, y], []⟩) Q EV s := by
  unfold Builtin.«object.__ne__»
  repeat (first
    | with_reducible refine wpAny_cRoomFor hu ?_
    | (refine wpAny_bind (m := callSpecialIfBound? (.ref ax) (Str.ofString "__eq__") [y])
        (PySem.W.ifBound_K hX I hk.eq hk.fn (wpAny_mono h (fun r s' hr => by
          obtain ⟨b, rfl, hq⟩ := hr
          repeat (first | exact hq | exact wpAny_pure hq | exact wpAny_truthy_bool hq | (refine wpAny_bind (m := truthy (.bool _)) (wpAny_truthy_bool ?_)) | wp_step)) fun _ _ e => e)))
    | wp_step)
theorem rc_ne {y tb : Value} {Q : Value → Shared → Prop} (hX : K.In s.heap) (I : PySem.W.InstAt s.heap ax ox Ca od) (hk : EqK K Ca f) (hu : A.units + 1 < cLine) (hb : PySem.W.Looks (model X.prog X.w) s.heap (typeOf y) tb) (hn : PySem.W.notFirst K Ca tb = true)
    (h : wpAny (model X.prog X.w) A.in1 (call (.ref f) [.ref ax, y]) (fun v s' => ∃ b, v = .bool b ∧ Q (.bool (!b)) s') EV s) : wpAny (model X.prog X.w) A (richCompare .NotEq (.ref ax) y) Q EV s := by
  have one : wpAny (model X.prog X.w) A (tryCompare (.ref ax) (cmpInfo .NotEq).2.1 y) (fun r s' => ∃ v, r = some v ∧ Q v s') EV s := by
    unfold tryCompare
    refine wpAny_bind (ifBound_ne hX I hk.ne (wpAny_call (codeAny_call_builtin F.cmp_object.ne.plain F.cmpEntry_ne
      (PySem.W.check_slot F.cmpKind_ne F.cmpSplit_ne (I.type.andThen (PySem.W.looks_mroIn hX hk.hm)) (F.cmpArgs_ne _ _) (entry_ne (A := A.in1) hX I hk hu (wpAny_mono h (fun v s' hv => ?_) fun _ _ e => e))))))
    obtain ⟨b, rfl, hq⟩ := hv
    first
      | exact ⟨b, rfl, wpAny_pure ⟨_, rfl, hq⟩⟩
      | exact ⟨b, rfl, wpAny_pure (wpAny_pure ⟨_, rfl, hq⟩)⟩
  unfold richCompare
  simp only [oneThing_ref]
  refine wpAny_holding (wpAny_bind (wpAny_cRoomFor (Nat.lt_of_succ_lt hu) ?_))
  refine wpAny_bind (I.type.here (wpAny_bind (hb.here ?_)))
  split
  · rename_i q
    have e : PySem.W.subIn K tb (.ref Ca) = some false := by
      rcases Bool.or_eq_true_iff.mp hn with e | e
      · rw [beq_iff_eq.mp e] at q; simp at q
      · exact beq_iff_eq.mp e
    refine wpAny_bind ((PySem.W.looks_subIn hX e).here ?_)
    simp only [Bool.false_eq_true, if_false]
    refine wpAny_bind (wpAny_mono one (fun r s' z => ?_) fun _ _ e => e)
    obtain ⟨v, rfl, hq⟩ := z
    exact wpAny_pure hq
  · refine wpAny_bind (wpAny_pure ?_)
    simp only [Bool.false_eq_true, if_false]
    refine wpAny_bind (wpAny_mono one (fun r s' z => ?_) fun _ _ e => e)
    obtain ⟨v, rfl, hq⟩ := z
    exact wpAny_pure hq
end
theorem op_ownNe (F : FnOk X.prog X.w X.K X.mg X.base CX k f fd ps sp) (hr : Room (k + 1) X.A) (hk : EqK X.K Ca f) (hb : Binds X.K fd ps []) (hx : Passes CX X fun _ _ _ => False) : OpR X (compareOp .NotEq) (rOwn Ca sp true) := by
  intro pins s σ H x y v u Q I rx ry ⟨a, dx, fs, ex, ha, hy, h⟩
  subst ex
  obtain rfl : v = Value.ref a := rx
  obtain ⟨mA, J, _⟩ := ins_get I.hok ha
  obtain ⟨od, J, _⟩ := J.look
  have r2 : Vals [V.ref a, y] [Value.ref a, u] := .cons rfl (.cons ry .nil)
  have sb : Sub X (k + 1) X.A := ⟨hr, rfl⟩
  have hcall := run_at sb.in1 F hb hx I r2 h
  have back : wpAny (model X.prog X.w) X.A.in1 (call (.ref f) [.ref a, u]) (fun v s' => ∃ b, v = .bool b ∧ EP X pins σ Q (.bool (!b)) s') X.xe s := wpAny_mono hcall (fun w s' hw => by
    obtain ⟨z, H', I', rz, b, ez, q⟩ := hw
    subst ez
    cases rz
    exact ⟨b, rfl, .bl (!b), H', I', rfl, by simpa using q⟩) fun _ _ z => z
  have hu : X.A.units + 1 < cLine := by have := hr.un; omega
  show wpAny (model X.prog X.w) X.A (richCompare .NotEq (.ref a) u) (EP X pins σ Q) X.xe s
  rcases hy with ⟨i, rfl⟩ | ⟨b, dy, gs, rfl, hb'⟩
  · obtain ⟨t, rfl⟩ := ry
    exact rc_ne (tb := .type "int") I.kIn J hk hu (PySem.W.Looks.of_pure rfl) not_int back
  · obtain rfl : u = Value.ref b := ry
    obtain ⟨mB, J', _⟩ := ins_get I.hok hb'
    obtain ⟨od', J', _⟩ := J'.look
    exact rc_ne (tb := .ref Ca) I.kIn J hk hu J'.type (by simp [PySem.W.notFirst]) back
/-- a == b, a != b of an own instance and an instance of its class, or an int -/
def wOwn (c : Nat) (cw : CW) (neg : Bool) (wa wb : WE) : WE := fun sl rt k => wa sl rt fun x rt1 => wb sl rt1 fun y rt2 => match x, y with
  | .dat (.obj c1 d1), .dat (.obj c2 d2) => c1 = c ∧ c2 = c ∧ cw [x, y] [] (fun t _ => match t with
      | .dat (.bool b) => k (.dat (.bool (neg != b))) rt2
      | _ => False) fun _ _ => False
  | .dat (.obj c1 d1), .dat (.int i) => c1 = c ∧ cw [x, y] [] (fun t _ => match t with
      | .dat (.bool b) => k (.dat (.bool (neg != b))) rt2
      | _ => False) fun _ _ => False
  | _, _ => False
theorem e_own {c : Nat} {cw : CW} {neg : Bool} : ∀ σ H Q, tE K C U (wOwn c cw neg wa wb) σ H Q → tOp (rOwn (C.at_ c) (spW K C cw) neg) (tE K C U wa) (tE K C U wb) σ H Q := fun σ H Q ⟨sl, rt, ρ, fps, G, k, s, xf, w, q⟩ =>
  ⟨sl, rt, ρ, fps, G, _, s, xf, w, fun x rt1 fps1 G1 H1 v r1 n1 v1 w1 => ⟨sl, rt1, ρ, fps1, G1, _, s.step r1 n1 fun _ _ e => e, xf.later n1 (Pre.refl _), w1, fun y rt2 fps2 G2 H2 u r2 n2 v2 w2 => by
    have v1 := v1.up n2 fun _ _ e => e
    have n3 := n1.trans n2
    have main : ∀ d1 d2, x = .dat d1 → y = .dat d2 → (cw [x, y] [] (fun t _ => match t with
        | .dat (.bool b) => k (.dat (.bool (neg != b))) rt2
        | _ => False) fun _ _ => False) → spW K C cw [v, u] H2 (fun v H' => ∃ b, v = .bl b ∧ Q (.bl (neg != b)) H') fun _ _ _ => False := fun d1 d2 e1 e2 w => by
      subst e1 e2
      refine sp_use (k := fun t rt' => match t with
        | .dat (.bool b) => k (.dat (.bool (neg != b))) rt'
        | _ => False) (kx := fun _ _ => False) r2 (.cons v1 (.cons v2 .nil)) rfl rfl w (fun t rt' fps' fp G' H' v r' n' o' new hk => ?_) fun _ _ _ _ _ _ _ _ _ _ z => z.elim
      split at hk
      · rename_i b
        cases o'.tr with
        | dat h =>
          cases h
          exact ⟨b, rfl, q (.dat (.bool (neg != b))) rt' fps' G' H' _ r' (n3.trans n') (DR.bool _) hk⟩
      · exact hk.elim
    split at w2
    · obtain ⟨e1, e2, w2⟩ := w2
      subst e1
      have w3 := main _ _ rfl rfl w2
      cases v1 with
      | obj h n r =>
        cases v2 with
        | obj h' n' r' =>
          subst e2
          exact ⟨_, _, _, rfl, r2.sub _ _ h, .inr ⟨_, _, _, rfl, r2.sub _ _ h'⟩, w3⟩
    · obtain ⟨e1, w2⟩ := w2
      subst e1
      have w3 := main _ _ rfl rfl w2
      cases v1 with
      | obj h n r =>
        cases v2
        exact ⟨_, _, _, rfl, r2.sub _ _ h, .inl ⟨_, rfl⟩, w3⟩
    · exact w2.elim⟩⟩
theorem we_own {c : Nat} {cw : CW} {op : CmpOp} {neg : Bool} (ho : OpR X (compareOp op) (rOwn (C.at_ c) (spW K C cw) neg)) (ha : PE X a (tE K C U wa)) (hb : PE X b (tE K C U wb)) (hm : behindInMarks op b = false) : PE X (.Compare a [op] [b] pos) (tE K C U (wOwn c cw neg wa wb)) := pe_imp (pe_cmpR ho ha hb hm) e_own
theorem wt_own {c : Nat} {cw : CW} {op : CmpOp} {neg : Bool} (ho : OpR X (compareOp op) (rOwn (C.at_ c) (spW K C cw) neg)) (ha : PE X a (tE K C U wa)) (hb : PE X b (tE K C U wb)) (hm : behindInMarks op b = false) : PT X (.Compare a [op] [b] pos) (tT K C U (wB (wOwn c cw neg wa wb))) :=
  pt_imp (pt_cmpR ho ha hb hm) fun σ H Q h => e_own σ H _ (t_test σ H Q h)
end
end Wv
end

section
set_option Elab.async false
set_option linter.all false
set_option maxRecDepth 100000
set_option maxHeartbeats 4000000
namespace Wv
open PySem PySem.Spec PyProof.Rows L2 Evl
open PySem (Sem.wp)
theorem meets_enumerate_newT (l : Addr) (items : Array Value) (n : Nat) (dct : Option Addr) (sl : Array (Option Value)) :
    Meets (Builtin.«enumerate.__new__» ⟨[.type "enumerate", .ref l], []⟩) (fun _ R s => s.heap.get? l = some { cls := .type "tuple", dict := dct, data := .seq items n, slots := sl } ∧
      R (.ok (.ret (.ref (s.heap.push { cls := .type "tuple_iterator", data := .fields #[.ref l, .int 0 0] }).objs.size)))
        { s with heap := (s.heap.push { cls := .type "tuple_iterator", data := .fields #[.ref l, .int 0 0] }).push { cls := .type "enumerate", data := .fields #[.none, .bool false, .ref s.heap.objs.size, rawInt 0, .none, .none] } }) :=
  .of_wp fun prog w A R s h => by
    obtain ⟨hp, g, d, tk, os⟩ := s; obtain ⟨hl, h⟩ := h
    have hsub := sub_enumerate
    have hL : Heap.IsTuple (Shared.heap ⟨hp, g, d, tk, os⟩) l items := ⟨_, hl, rfl, n, rfl⟩
    wp_walk using AutoSeq1.wpAny_loadPart' hl
    refine wpAny_stack_any fun st => wpAny_pure ?_
    split
    · rename_i c _ _ _ _ _
      cases (c == Value.type "enumerate")
      · wp_walk using AutoSeq1.wpAny_loadPart' hl, wpAny_pyIter_tuple hL
        exact ⟨_, rfl, h⟩
      · wp_walk using AutoSeq1.wpAny_loadPart' hl, wpAny_pyIter_tuple hL
        exact ⟨_, rfl, h⟩
    · wp_walk using AutoSeq1.wpAny_loadPart' hl, wpAny_pyIter_tuple hL
      exact ⟨_, rfl, h⟩
theorem call_enumerate_tuple {prog : Program} {w : World} {A : Around} {E : Value → Shared → Prop} {s : Shared} {l : Addr} {items : Array Value} {Q : Value → Shared → Prop} (hL : s.heap.IsTuple l items)
    (h : ∀ h', IsEnum h' (s.heap.objs.size + 1) s.heap.objs.size 0 .none → h'.IsTupleIter s.heap.objs.size l 0 → h'.objs.size = s.heap.objs.size + 2 →
      (∀ b o, s.heap.get? b = some o → h'.get? b = some o) → Q (.ref (s.heap.objs.size + 1)) { s with heap := h' }) :
    wpAny (model prog w) A (call (.type "enumerate") [.ref l]) Q E s := by
  obtain ⟨⟨c, dct, dt, sl⟩, hl, hc, n, hd⟩ := hL
  replace hc : c = .type "tuple" := hc
  replace hd : dt = .seq items n := hd
  subst hc hd
  refine callType_new F.called_enumerate (by decide) (F.typeCall_enumerate_1 _) (F.newCall_enumerate_1 _) (fun obj => F.args_object_init_2 obj _) F.entry_enumerate_new
    (meets_enumerate_newT l items n dct sl) ⟨hl, ?_⟩
  have hz : (s.heap.push { cls := .type "tuple_iterator", data := .fields #[.ref l, .int 0 0] }).objs.size = s.heap.objs.size + 1 := Heap.size_push ..
  show _ ∧ _
  rw [hz]
  have he : IsEnum ((s.heap.push { cls := .type "tuple_iterator", data := .fields #[.ref l, .int 0 0] }).push
      { cls := .type "enumerate", data := .fields #[.none, .bool false, .ref s.heap.objs.size, rawInt 0, .none, .none] }) (s.heap.objs.size + 1) s.heap.objs.size 0 .none := by
    have := Heap.get?_push_size (s.heap.push { cls := .type "tuple_iterator", data := .fields #[.ref l, .int 0 0] })
      (o := { cls := .type "enumerate", data := .fields #[.none, .bool false, .ref s.heap.objs.size, rawInt 0, .none, .none] }) rfl
    rw [hz] at this; exact this
  refine ⟨⟨_, he, rfl⟩, h _ he ⟨_, Heap.get?_push_of_some _ (Heap.get?_push_size _ rfl), rfl, rfl⟩ (by rw [Heap.size_push, hz]) fun b o x => Heap.get?_push_of_some _ (Heap.get?_push_of_some _ x)⟩
/-! ### enumerate(tuple) -/
def ItTe (K : PySem.W.Frag) (a : Addr) : It :=
  ⟨fun i H => ∃ (xs : List V) (x : V), SqT K H a xs ∧ xs[i]? = some x, fun i H v H' => ∃ T x, v = .ref T ∧ H T = none ∧ H' = upd H T (.tup [.int (i : Nat), x]) ∧ ∀ xs, SqT K H a xs → xs[i]? = some x, fun i H => ∃ xs : List V, SqT K H a xs ∧ xs.length ≤ i⟩
theorem enum_apart {h : Heap} {e it a : Addr} {c : Int} {old : Value} {items : Array Value} (he : IsEnum h e it c old) (p : Heap.IsTuple h a items) : e ≠ a := fun z => by
  obtain ⟨o, ho, hc, _⟩ := p
  rw [← z, show h.get? e = some _ from he] at ho
  cases ho
  injection hc with y
  exact absurd y (by decide)
theorem iter_apart {h : Heap} {it a b : Addr} {i : Nat} {items : Array Value} (he : h.IsTupleIter it b i) (p : Heap.IsTuple h a items) : a ≠ it := fun z => by
  obtain ⟨o, ho, hc, _⟩ := p
  obtain ⟨o', ho', hc', _⟩ := he
  rw [z, ho'] at ho
  cases ho
  rw [hc] at hc'
  injection hc' with y
  exact absurd y (by decide)
theorem turn_enumT {P : Program} {w : World} {K : PySem.W.Frag} {elts : List Expr} {kk : Nat} {tpos : Pos} (a e it : Addr) :
    Turn P w K (.Tuple elts kk tpos) (ItTe K a) [e, it] e (fun i h => (∃ old, IsEnum h e it ((i : Nat) : Int) old) ∧ h.IsTupleIter it a i ∧ e ≠ it) where
  mem := by simp
  obj := fun i h st b hb => by
    obtain ⟨⟨old, he⟩, ⟨o, ho, hc, hd⟩, _⟩ := st
    have e' : b = e ∨ b = it := by simpa using hb
    rcases e' with z | z
    · rw [z]; exact ⟨_, he, fun v q => nomatch q⟩
    · rw [z]; exact ⟨o, ho, fun v q => by rw [hd] at q; cases q⟩
  keep := fun i h h' st k => let ⟨⟨old, he⟩, hi, hne⟩ := st; ⟨⟨old, k e (by simp) _ he⟩, hi.at fun o q => k it (by simp) o q, hne⟩
  item := by
    intro X hP hw hK hc i pins s σ H E I hf st hg
    subst hP hw hK
    obtain ⟨⟨old, he⟩, hit, hne⟩ := st
    obtain ⟨xs, x, hq, hx⟩ := hg
    obtain ⟨its, rv, p, hz⟩ := I.tuple hq
    obtain ⟨u, hu, ru⟩ := rv.get hx
    have pT : Heap.IsTuple s.heap a its.toArray := p
    have hel : e < s.heap.objs.size := Heap.lt_size he
    have hil : it < s.heap.objs.size := by obtain ⟨_, q, _⟩ := hit; exact Heap.lt_size q
    have ha := iter_apart hit pT
    have hea := enum_apart he pT
    have hlt : i < its.toArray.size := by
      have := (List.getElem?_eq_some_iff.mp hu).1
      simpa using this
    refine wpAny_pyNext_enum_itemD (Draws.tuple (A := X.A.in1) (I.ok.hd hc) it a ha its.toArray) he ⟨hit, pT⟩ hlt hne (by simp [hne, hea]) fun u2 h' tk hP ho hit2 hT hsz hk => ?_
    have hit' := hit2.1
    have eu : u2 = u := by
      have h1 : its.toArray[i]? = some u2 := hP
      have h2 : its.toArray[i]? = some u := by simpa using hu
      rw [h1] at h2
      exact Option.some.inj h2
    subst eu
    refine ⟨_, rfl, wpAny_letOwnedTupleGo_enum (s := { s with heap := h', toks := tk + 1 }) ho fun h'' he' sb => ?_⟩
    have hT2 : h''.get? s.heap.objs.size = some { cls := .type "tuple", data := .seq #[.int i tk, u2] } := (sb.2 _ (Nat.ne_of_gt hel)).trans hT
    have new : ObjOk X.prog X.w (upd H s.heap.objs.size (.tup [.int (i : Nat), x])) h'' s.heap.objs.size (.tup [.int (i : Nat), x]) :=
      ⟨by show 2 ≤ sizeLine; decide, [.int i tk, u2], .cons ⟨_, rfl⟩ (.cons ru .nil), ⟨_, hT2, rfl, _, rfl⟩⟩
    have I1 : Inv X pins σ (upd H s.heap.objs.size (.tup [.int (i : Nat), x])) { s with heap := h'', toks := tk + 1 } :=
      I.turnedNew (ch := [e, it]) (fun b ob hb q => (sb.2 b (fun z => hb (by simp [z]))).trans (hk b ob (fun z => hb (by simp [z])) (fun z => hb (by simp [z])) q)) hf (Nat.le_refl _) new
    refine ⟨.ref s.heap.objs.size, _, I1, rfl, ⟨_, x, rfl, I.hok.fresh (Nat.le_refl _), rfl, fun ys hy => by rw [I.tuple_inj hy hq]; exact hx⟩, ⟨⟨u2, ?_⟩, hit'.at fun o q => (sb.2 it (Ne.symm hne)).trans q, hne⟩, fun b hb => ?_⟩
    · have e1 : ((i + 1 : Nat) : Int) = (i : Int) + 1 := by omega
      rw [e1]; exact he'
    · have hb' : b < s.heap.objs.size := by
        have e' : b = e ∨ b = it := by simpa using hb
        rcases e' with z | z
        · rw [z]; exact hel
        · rw [z]; exact hil
      rw [upd_ne (Nat.ne_of_lt hb')]
      exact (hf b hb).1
  done := by
    intro X hP hw hK hc i pins s σ H E I hf st hg
    subst hP hw hK
    obtain ⟨⟨old, he⟩, hit, hne⟩ := st
    obtain ⟨xs, hq, hx⟩ := hg
    obtain ⟨its, rv, p, hz⟩ := I.tuple hq
    have hl := rv.length
    obtain ⟨f0, f1, f2, f3, f4, f5⟩ := hf it (by simp)
    have pT : Heap.IsTuple s.heap a its.toArray := p
    have he' := he
    have hT : s.TypeIs (.ref e) "enumerate" := ⟨_, he, rfl⟩
    have hd : X.A.handled = none := I.ok.hd hc
    unfold pyNext
    refine wpAny_bind (wpAny_attempt (wpAny_callSpecial?_slot (name := Str.ofString "__next__") hT F.slot_enumerate_next
      (wpAny_call_entry F.slot_enumerate_next hT F.entry_enumerate_next ?_ (F.args_enumerate_next_1 _))))
    show wpAny _ _ (field (.ref e) 2 >>= _) _ _ _
    refine wpAny_bind (wpAny_field he rfl (x := .ref it) rfl ?_)
    refine wpAny_bind (wpAny_nextOf_tuple_end hd hit pT (by simp; omega) fun h' x eb hx' => ?_)
    obtain ⟨o, ho, hcl⟩ := hx'
    refine wpAny_bind (wpAny_isInstance (T := "StopIteration") (b := true) ⟨o, ho, hcl⟩ isSubtype_stop ?_)
    exact wpAny_pure ⟨rfl, I.turned (t' := s.toks) (fun b o hb q => eb b o hb q) f0 f1 f3 f4 f5⟩
  self := fun A i s Q E st h => let ⟨⟨_, he⟩, _⟩ := st; wpAny_pyIter_enum he h
def iEnumT (K : PySem.W.Frag) (ta : TA) : TI := fun σ H R => ta σ H fun vs H1 => ∃ a xs, vs = [.ref a] ∧ SqT K H1 a xs ∧ R (ItTe K a) H1
theorem pi_enumT {X : Cx} {e : Expr} {ta : TA} {p pos tpos : Pos} {elts : List Expr} {kk : Nat} (hg : Gl X "enumerate") (hm : X.mg "enumerate" = none) (ha : PA X [e] ta) (hs : starEach [e] X.env = [(false, eval e X.env)] := by rfl) :
    PI X (.Tuple elts kk tpos) (.Call (.Name "enumerate" p) [e] [] pos) (iEnumT X.K ta) := by
  refine ⟨fun pins s σ H R I h => ?_⟩
  refine Call_ (ld_blt I hg hm boot_enumerate (PyProof.Rows.callWith_type1 (thn (ha.run pos pins s σ H _ I h) fun us s1 ⟨vs, H1, I1, r1, q1⟩ => ?_) hs rfl))
  obtain ⟨a, xs, ex, hq, q⟩ := q1
  subst ex
  cases r1 with
  | cons r rr =>
    cases rr
    cases r
    obtain ⟨its, rv, p', hz⟩ := I1.tuple hq
    refine call_enumerate_tuple p' fun h' he hit hsz hk => wpAny_pyIter_enum he ?_
    have I2 : Inv X pins σ H1 { s1 with heap := h' } := I1.kept (t' := s1.toks) hk
    refine ⟨s1.heap.objs.size + 1, [s1.heap.objs.size + 1, s1.heap.objs.size], _, _, H1, rfl, I2, turn_enumT a (s1.heap.objs.size + 1) s1.heap.objs.size, ⟨⟨.none, he⟩, hit, Nat.succ_ne_self _⟩, fun b hb => ?_, q⟩
    have e' : b = s1.heap.objs.size + 1 ∨ b = s1.heap.objs.size := by simpa using hb
    have hle : s1.heap.objs.size ≤ b := by
      rcases e' with z | z
      · rw [z]; exact Nat.le_add_right _ _
      · rw [z]; exact Nat.le_refl _
    exact I1.fpOk hle (I1.hok.fresh hle)
section
variable {K : PySem.W.Frag} {C : Cs} {U : UX} {a : Addr} {xs : List V}
theorem walk_enumT : Walk (ItTe K a) xs.length (fun H => SqT K H a xs) (YPair (fun i => some (.int (i : Nat))) (fun i => xs[i]?)) := by
  refine ⟨fun i _ hi q => ⟨xs, xs[i], q, by simp [hi]⟩, fun _ q => ⟨xs, q, Nat.le_refl _⟩, fun i H v H' _ q y => ?_⟩
  obtain ⟨T, x, h1, h2, h3, h4⟩ := y
  exact ⟨T, .int (i : Nat), x, h1, h2, h3, rfl, h4 xs q⟩
def wEnumT (w : WA) : WI := fun sl rt k => w sl rt fun xs rt1 => match xs with
  | [.dat (.tup ds)] => k (ds.zipIdx.map fun q => .tup [.int (q.2 : Nat), q.1]) rt1
  | _ => False
theorem i_enumT {w : WA} : ∀ σ H Q, tI K C U (wEnumT w) σ H Q → iEnumT K (tA K C U w) σ H Q := fun σ H Q ⟨sl, rt, ρ, fps, G, k, s, xf, w, q⟩ =>
  ⟨sl, rt, ρ, fps, G, _, s, xf, w, fun xs rt1 fps1 G1 H1 vs r1 n1 v1 w1 => by
    split at w1
    · rename_i ds
      cases v1 with
      | cons h r =>
        cases r
        cases h with
        | @tup a xs _ h2 r =>
          refine ⟨a, xs, rfl, ex_t r1.sub h2, q _ rt1 fps1 G1 H1 _ r1 n1 ⟨fun H => SqT K H a xs, YPair (fun i => some (.int (i : Nat))) (fun i => xs[i]?), ?_, fun H2 e2 => ex_t e2 h2, fun i d H2 v H3 hd _ y => ?_⟩ w1⟩
          · rw [List.length_map, List.length_zipIdx, ← r.len]
            exact walk_enumT
          · obtain ⟨T, x, y', rfl, hT, rfl, e1, e2⟩ := y
            cases e1
            rw [List.getElem?_map, List.getElem?_zipIdx] at hd
            cases z : ds[i]? with
            | none => rw [z] at hd; cases hd
            | some d0 =>
              rw [z] at hd
              cases hd
              obtain ⟨u, z1, z2⟩ := r.get z
              have e3 : some u = some y' := z1.symm.trans e2
              cases e3
              refine .inr ⟨T, _, _, hT, rfl, rfl, rfl, .cons ?_ (.cons z2 .nil)⟩
              show DR K C G1 (.int (i : Nat)) (.int ((0 + i : Nat) : Int))
              rw [Nat.zero_add]
              exact .int _
    · exact w1.elim⟩
end
end Wv
end

section
set_option Elab.async false
set_option linter.all false
set_option maxRecDepth 100000
set_option maxHeartbeats 4000000
namespace Wv
open PySem PySem.Spec PyProof.Rows L2 Evl
section
open PySem.SeqAt
variable {prog : Program} {w : World} {A : Around} {R : Result → Shared → Prop}
theorem tuple_eqB (l b : Addr) (items items2 : Array Value) (n n2 : Nat) (dd dd2 : Option Addr) (sl sl2 : Array (Option Value)) (I : Nat → Shared → Prop)
    (turn : ∀ i (h1 : i < items.size) (h2 : i < items2.size) s, I i s → wpAny (model prog w) A.in1 (eqBool items[i] items2[i]) (fun r s' => (r = true ∧ I (i + 1) s') ∨ (r = false ∧ R (.ok (.ret (.bool false))) s')) (fun e s' => R (.error e) s') s)
    (fin : ∀ s, I (min items.size items2.size) s → R (.ok (.ret (.bool (items.size == items2.size)))) s) {s : Shared} (hl1 : s.heap.get? l = some { cls := .type "tuple", dict := dd, data := .seq items n, slots := sl }) (hb1 : s.heap.get? b = some { cls := .type "tuple", dict := dd2, data := .seq items2 n2, slots := sl2 }) (h : I 0 s) :
    wpAny (model prog w) A.in1 (Builtin.«tuple.__eq__» ⟨[.ref l, .ref b], []⟩) (GQ.FinOf prog w A R) (fun e s' => R (.error e) s') s := by
  have f2 := AutoSeq1.sub_tuple_tuple
  have hZ : (items.toList.zip items2.toList).length = min items.size items2.size := by simp
  have h0 := h
  obtain ⟨hp, g, d, tk, os⟩ := s
  wp_walk using AutoSeq1.wpAny_loadPart' hl1, AutoSeq1.wpAny_loadPart' hb1, wpAny_forIn_list _ (fun rest b s' => b.1 = none ∧ ∃ i, rest = (items.toList.zip items2.toList).drop i ∧ i ≤ min items.size items2.size ∧ I i s') _
  case turn =>
    rintro ⟨y, x⟩ rest b s' ⟨hb', i, hz, hi, hI⟩
    have hlt : i < (items.toList.zip items2.toList).length := by
      rcases Nat.lt_or_ge i (items.toList.zip items2.toList).length with h' | h'
      · exact h'
      · rw [List.drop_of_length_le h'] at hz; cases hz
    have hm : i < min items.size items2.size := hZ ▸ hlt
    have h1 : i < items.size := Nat.lt_of_lt_of_le hm (Nat.min_le_left _ _)
    have h2 : i < items2.size := Nat.lt_of_lt_of_le hm (Nat.min_le_right _ _)
    rw [List.drop_eq_getElem_cons hlt] at hz
    injection hz with hyx hrest
    have hy : y = items[i] := by have := congrArg Prod.fst hyx; simpa using this
    have hx : x = items2[i] := by have := congrArg Prod.snd hyx; simpa using this
    subst hy hx
    refine wpAny_bind (wpAny_mono (turn i h1 h2 s' hI) (fun r s2 q2 => ?_) fun _ _ x => x)
    rcases q2 with ⟨hr, q2⟩ | ⟨hr, q2⟩
    · subst hr
      wp_walk
      exact ⟨rfl, i + 1, hrest, hm, q2⟩
    · subst hr
      wp_walk
      exact q2
  case fin =>
    rintro ⟨b1, b2⟩ s' ⟨hb', i, hz, hi, hI⟩
    simp only at hb'
    subst hb'
    have hge : min items.size items2.size ≤ i := by
      rcases Nat.lt_or_ge i (items.toList.zip items2.toList).length with h' | h'
      · rw [List.drop_eq_getElem_cons h'] at hz; cases hz
      · exact hZ ▸ h'
    have hi' : i = min items.size items2.size := by omega
    have hR := fin s' (hi' ▸ hI)
    wp_walk
    simpa [Builtin.Tuple.tupleCompareSizes] using hR
  case h =>
    exact ⟨rfl, 0, rfl, Nat.zero_le _, h0⟩
theorem tuple_neB (l b : Addr) (items items2 : Array Value) (n n2 : Nat) (dd dd2 : Option Addr) (sl sl2 : Array (Option Value)) (I : Nat → Shared → Prop)
    (turn : ∀ i (h1 : i < items.size) (h2 : i < items2.size) s, I i s → wpAny (model prog w) A.in1 (eqBool items[i] items2[i]) (fun r s' => (r = true ∧ I (i + 1) s') ∨ (r = false ∧ R (.ok (.ret (.bool true))) s')) (fun e s' => R (.error e) s') s)
    (fin : ∀ s, I (min items.size items2.size) s → R (.ok (.ret (.bool (items.size != items2.size)))) s) {s : Shared} (hl1 : s.heap.get? l = some { cls := .type "tuple", dict := dd, data := .seq items n, slots := sl }) (hb1 : s.heap.get? b = some { cls := .type "tuple", dict := dd2, data := .seq items2 n2, slots := sl2 }) (h : I 0 s) :
    wpAny (model prog w) A.in1 (Builtin.«tuple.__ne__» ⟨[.ref l, .ref b], []⟩) (GQ.FinOf prog w A R) (fun e s' => R (.error e) s') s := by
  have f2 := AutoSeq1.sub_tuple_tuple
  have hZ : (items.toList.zip items2.toList).length = min items.size items2.size := by simp
  have h0 := h
  obtain ⟨hp, g, d, tk, os⟩ := s
  wp_walk using AutoSeq1.wpAny_loadPart' hl1, AutoSeq1.wpAny_loadPart' hb1, wpAny_forIn_list _ (fun rest b s' => b.1 = none ∧ ∃ i, rest = (items.toList.zip items2.toList).drop i ∧ i ≤ min items.size items2.size ∧ I i s') _
  case turn =>
    rintro ⟨y, x⟩ rest b s' ⟨hb', i, hz, hi, hI⟩
    have hlt : i < (items.toList.zip items2.toList).length := by
      rcases Nat.lt_or_ge i (items.toList.zip items2.toList).length with h' | h'
      · exact h'
      · rw [List.drop_of_length_le h'] at hz; cases hz
    have hm : i < min items.size items2.size := hZ ▸ hlt
    have h1 : i < items.size := Nat.lt_of_lt_of_le hm (Nat.min_le_left _ _)
    have h2 : i < items2.size := Nat.lt_of_lt_of_le hm (Nat.min_le_right _ _)
    rw [List.drop_eq_getElem_cons hlt] at hz
    injection hz with hyx hrest
    have hy : y = items[i] := by have := congrArg Prod.fst hyx; simpa using this
    have hx : x = items2[i] := by have := congrArg Prod.snd hyx; simpa using this
    subst hy hx
    refine wpAny_bind (wpAny_mono (turn i h1 h2 s' hI) (fun r s2 q2 => ?_) fun _ _ x => x)
    rcases q2 with ⟨hr, q2⟩ | ⟨hr, q2⟩
    · subst hr
      wp_walk
      exact ⟨rfl, i + 1, hrest, hm, q2⟩
    · subst hr
      wp_walk
      exact q2
  case fin =>
    rintro ⟨b1, b2⟩ s' ⟨hb', i, hz, hi, hI⟩
    simp only at hb'
    subst hb'
    have hge : min items.size items2.size ≤ i := by
      rcases Nat.lt_or_ge i (items.toList.zip items2.toList).length with h' | h'
      · rw [List.drop_eq_getElem_cons h'] at hz; cases hz
      · exact hZ ▸ h'
    have hi' : i = min items.size items2.size := by omega
    have hR := fin s' (hi' ▸ hI)
    wp_walk
    simpa [Builtin.Tuple.tupleCompareSizes] using hR
  case h =>
    exact ⟨rfl, 0, rfl, Nat.zero_le _, h0⟩
end
section
variable {prog : Program} {w : World} {A : Around} {E : Value → Shared → Prop} {s : Shared}
theorem rc_tupB {l b : Addr} {items items2 : Array Value} {neg : Bool} {Q : Value → Shared → Prop} (hu : A.units < cLine) (I : Nat → Shared → Prop)
    (hl : s.heap.IsTuple l items) (hb : s.heap.IsTuple b items2)
    (turn : ∀ i (h1 : i < items.size) (h2 : i < items2.size) s, I i s → wpAny (model prog w) A.in1 (eqBool items[i] items2[i]) (fun r s' => (r = true ∧ I (i + 1) s') ∨ (r = false ∧ Q (.bool neg) s')) E s)
    (fin : ∀ s, I (min items.size items2.size) s → Q (.bool (neg != (items.size == items2.size))) s) (h : I 0 s) : wpAny (model prog w) A (richCompare (if neg then .NotEq else .Eq) (.ref l) (.ref b)) Q E s := by
  obtain ⟨⟨cls, dd, data, sl⟩, ho, hc, n, hd⟩ := id hl
  obtain ⟨⟨cls2, dd2, data2, sl2⟩, ho2, hc2, n2, hd2⟩ := id hb
  simp only at hc hd hc2 hd2
  subst hc hd hc2 hd2
  cases neg with
  | false =>
    refine wpAny_richCompare_same_room (op := .Eq) ⟨_, ho, rfl⟩ ⟨_, ho2, rfl⟩ F.slot_tuple_eq (GQ.call_here F.slot_tuple_eq ⟨_, ho, rfl⟩ F.entry_tuple_eq (F.args_tuple_eq_2 _ _) ?_) hu
    refine tuple_eqB (R := wants (fun v s' => v ≠ .notImplemented ∧ Q v s') E) l b items items2 n n2 dd dd2 sl sl2 I (fun i h1 h2 s q => wpAny_mono (turn i h1 h2 s q) (fun r s' q => ?_) fun _ _ x => x) (fun s' q => ⟨(fun x => nomatch x), by simpa using fin s' q⟩) ho ho2 h
    rcases q with q | ⟨q1, q2⟩
    · exact .inl q
    · exact .inr ⟨q1, (fun x => nomatch x), q2⟩
  | true =>
    refine wpAny_richCompare_same_room (op := .NotEq) ⟨_, ho, rfl⟩ ⟨_, ho2, rfl⟩ F.slot_tuple_ne (GQ.call_here F.slot_tuple_ne ⟨_, ho, rfl⟩ F.entry_tuple_ne (F.args_tuple_ne_2 _ _) ?_) hu
    refine tuple_neB (R := wants (fun v s' => v ≠ .notImplemented ∧ Q v s') E) l b items items2 n n2 dd dd2 sl sl2 I (fun i h1 h2 s q => wpAny_mono (turn i h1 h2 s q) (fun r s' q => ?_) fun _ _ x => x) (fun s' q => ⟨(fun x => nomatch x), by have z := fin s' q; simpa [bne] using z⟩) ho ho2 h
    rcases q with q | ⟨q1, q2⟩
    · exact .inl q
    · exact .inr ⟨q1, (fun x => nomatch x), q2⟩
end

/-! ### == of data with own instances in it -/
mutual
def D.deep : D → Nat
  | .tup ds => D.deeps ds + 1
  | .tpx ds => D.deeps ds + 1
  | _ => 0
def D.deeps : List D → Nat
  | [] => 0
  | d :: ds => max d.deep (D.deeps ds)
end
/-- ok c: the number of fields of a class whose own == compares them as a tuple of plain data -/
def noOk : Nat → Option Nat := fun _ => none
mutual
def eqD : (Nat → Option Nat) → D → D → Option Bool
  | ok, .tup ds, .tup es => eqDs ok ds es
  | ok, .tup ds, .tpx es => eqDs ok ds es
  | ok, .tpx ds, .tup es => eqDs ok ds es
  | ok, .tpx ds, .tpx es => eqDs ok ds es
  | ok, .obj c ds, .obj c' es => if c = c' ∧ ok c = some ds.length ∧ es.length = ds.length ∧ D.deeps ds ≤ 4 then eqDs noOk ds es else none
  | _, d, e => D.sc d e
def eqDs : (Nat → Option Nat) → List D → List D → Option Bool
  | _, [], [] => some true
  | _, [], _ :: _ => some false
  | _, _ :: _, [] => some false
  | ok, d :: ds, e :: es => match eqD ok d e with
    | some true => eqDs ok ds es
    | some false => some false
    | none => none
end
section
variable {C : Cs} {X : Cx} {CX : CXT} {k n : Nat} {ok : Nat → Option Nat}
/-- what a comparison leaves -/
def Lp (X : Cx) (pins : List (Addr × Obj)) (σ : L2.St) (G H : Hp) (s' : Shared) : Prop := ∃ G' H', Inv X pins σ H' s' ∧ Ex G' H' ∧ Nx [] G H G' H' []
def EqP (X : Cx) (C : Cs) (n : Nat) (d e : D) (b : Bool) : Prop :=
  ∀ (A : Around) (pins : List (Addr × Obj)) (s : Shared) (σ : L2.St) (G H : Hp) (x y : V) (u v : Value), Sub X n A → Inv X pins σ H s → Ex G H → RelV x u → RelV y v → DR X.K C G x d → DR X.K C G y e →
    wpAny (model X.prog X.w) A (eqBool u v) (fun r s' => r = b ∧ Lp X pins σ G H s') X.xe s
def RcP (X : Cx) (C : Cs) (n : Nat) (neg : Bool) (d e : D) (b : Bool) : Prop :=
  ∀ (A : Around) (pins : List (Addr × Obj)) (s : Shared) (σ : L2.St) (G H : Hp) (x y : V) (u v : Value), Sub X n A → Inv X pins σ H s → Ex G H → RelV x u → RelV y v → DR X.K C G x d → DR X.K C G y e →
    wpAny (model X.prog X.w) A (richCompare (if neg then .NotEq else .Eq) u v) (fun r s' => r = .bool (neg != b) ∧ Lp X pins σ G H s') X.xe s
/-- the class's own == says what eqDs says -/
structure OwnQ (X : Cx) (CX : CXT) (C : Cs) (n k c : Nat) : Prop where
  ex : ∃ f fd ps cw, FnOk X.prog X.w X.K X.mg X.base CX k f fd ps (spW X.K C cw) ∧ EqK X.K (C.at_ c) f ∧ Binds X.K fd ps [] ∧ ∀ ds es b, ds.length = n → es.length = n → D.deeps ds ≤ 4 → eqDs noOk ds es = some b → ∀ (kk : T → Roots → Prop) kx, kk (.dat (.bool b)) [] → cw [.dat (.obj c ds), .dat (.obj c es)] [] kk kx
theorem Lp.refl {pins : List (Addr × Obj)} {σ : L2.St} {G H : Hp} {s : Shared} (I : Inv X pins σ H s) (e : Ex G H) : Lp X pins σ G H s := ⟨G, H, I, e, Nx.refl _ _ _⟩
theorem same_true {pins : List (Addr × Obj)} {σ : L2.St} {G H : Hp} {s : Shared} (I : Inv X pins σ H s) (eg : Ex G H) :
    (∀ (d : D) (ok : Nat → Option Nat) (e : D) (v : V) (b : Bool), eqD ok d e = some b → DR X.K C G v d → DR X.K C G v e → b = true) := by
  have sc : ∀ {d e : D} {v : V} {b : Bool}, D.sc d e = some b → DR X.K C G v d → DR X.K C G v e → b = true := fun h h1 h2 => by
    have := (sc_ok h h1 h2).2
    simpa using this.symm
  have inj : ∀ {a : Addr} {xs ys : List V}, SqT X.K G a xs → SqT X.K G a ys → xs = ys := fun h h' => I.tuple_inj (ex_t eg h) (ex_t eg h')
  refine D.rec (motive_1 := fun d => ∀ (ok : Nat → Option Nat) (e : D) (v : V) (b : Bool), eqD ok d e = some b → DR X.K C G v d → DR X.K C G v e → b = true)
    (motive_2 := fun ds => ∀ (ok : Nat → Option Nat) (es : List D) (vs : List V) (b : Bool), eqDs ok ds es = some b → DRs X.K C G vs ds → DRs X.K C G vs es → b = true) ?_ ?_ ?_ ?_ ?_ ?_ ?_ ?_ ?_ ?_ ?_ ?_ ?_ ?_ ?_ ?_ ?_
  · intro ok e v b h h1 h2; exact sc (by simpa [eqD] using h) h1 h2
  · intro _ ok e v b h h1 h2; exact sc (by simpa [eqD] using h) h1 h2
  · intro _ ok e v b h h1 h2; exact sc (by simpa [eqD] using h) h1 h2
  · intro _ ok e v b h h1 h2; exact sc (by simpa [eqD] using h) h1 h2
  · intro _ _ ok e v b h h1 h2; exact sc (by simpa [eqD] using h) h1 h2
  · intro _ _ ok e v b h h1 h2; exact sc (by simpa [eqD] using h) h1 h2
  · intro ds ih ok e v b h h1 h2
    cases h1 with
    | tup a1 r1 =>
      cases e with
      | tup es =>
        cases h2 with
        | tup a2 r2 =>
          cases inj a1 a2
          exact ih ok es _ b (by simpa [eqD] using h) r1 r2
      | tpx es =>
        cases h2 with
        | tpx a2 _ r2 =>
          cases inj a1 (.inl (.inr ⟨_, a2⟩))
          exact ih ok es _ b (by simpa [eqD] using h) r1 r2
      | _ => simp [eqD, D.sc] at h
  · intro ds ih ok e v b h h1 h2
    cases h1 with
    | tpx a1 _ r1 =>
      cases e with
      | tup es =>
        cases h2 with
        | tup a2 r2 =>
          cases inj (.inl (.inr ⟨_, a1⟩)) a2
          exact ih ok es _ b (by simpa [eqD] using h) r1 r2
      | tpx es =>
        cases h2 with
        | tpx a2 _ r2 =>
          rw [a1] at a2
          cases a2
          exact ih ok es _ b (by simpa [eqD] using h) r1 r2
      | _ => simp [eqD, D.sc] at h
  · intro _ _ ok e v b h h1 h2; exact sc (by simpa [eqD] using h) h1 h2
  · intro c ds ih ok e v b h h1 h2
    cases h1 with
    | obj a1 n1 r1 =>
      cases e with
      | obj c' es =>
        cases h2 with
        | obj a2 n2 r2 =>
          have h : (if c = c' ∧ ok c = some ds.length ∧ es.length = ds.length ∧ D.deeps ds ≤ 4 then eqDs noOk ds es else none) = some b := by simpa [eqD] using h
          split at h
          · have z := Option.some.inj (a1.symm.trans a2)
            injection z with z1 z2 z3
            subst z3
            exact ih noOk es _ b h r1 r2
          · cases h
      | _ => simp [eqD, D.sc] at h
  · intro _ _ _ ok e v b h h1 h2; exact sc (by simpa [eqD] using h) h1 h2
  · intro _ ok e v b h h1 h2; exact sc (by simpa [eqD] using h) h1 h2
  · intro _ _ _ _ _ ok e v b h h1 h2; exact sc (by simpa [eqD] using h) h1 h2
  · intro _ ok e v b h h1 h2; exact sc (by simpa [eqD] using h) h1 h2
  · intro ok e v b h h1 h2; exact sc (by simpa [eqD] using h) h1 h2
  · intro ok es vs b h h1 h2
    cases h1
    cases h2
    simpa [eqDs] using h.symm
  · intro d ds ihd ihs ok es vs b h h1 h2
    cases h1 with
    | cons p1 r1 =>
      cases h2 with
      | cons p2 r2 =>
        rename_i e es
        have h : (match eqD ok d e with | some true => eqDs ok ds es | some false => some false | none => none) = some b := by simpa [eqDs] using h
        split at h
        · exact ihs ok es _ b h r1 r2
        · rename_i z
          exact absurd (ihd ok e _ _ z p1 p2) (by simp)
        · cases h
end
end Wv
end

section
set_option Elab.async false
set_option linter.all false
set_option maxRecDepth 100000
set_option maxHeartbeats 4000000
namespace Wv
open PySem PySem.Spec PyProof.Rows L2 Evl
section
variable {C : Cs} {X : Cx} {CX : CXT} {k n : Nat} {ok : Nat → Option Nat} {ds es : List D} {b : Bool}
theorem DRs.at {K : PySem.W.Frag} {G : Hp} {xs : List V} {i : Nat} {d : D} (r : DRs K C G xs ds) (h : ds[i]? = some d) : ∃ v, xs[i]? = some v ∧ DR K C G v d := r.get h
theorem rc_items (hit : ∀ (i : Nat) (d e : D) (b' : Bool), ds[i]? = some d → es[i]? = some e → eqD ok d e = some b' → EqP X C n d e b') (h : eqDs ok ds es = some b) {A : Around} {pins : List (Addr × Obj)} {s : Shared} {σ : L2.St} {G H : Hp} {a1 a2 : Addr} {xs ys : List V}
    (sb : Sub X (n + 1) A) (I : Inv X pins σ H s) (eg : Ex G H) (h1 : SqT X.K G a1 xs) (h2 : SqT X.K G a2 ys) (r1 : DRs X.K C G xs ds) (r2 : DRs X.K C G ys es) (neg : Bool) :
    wpAny (model X.prog X.w) A (richCompare (if neg then .NotEq else .Eq) (.ref a1) (.ref a2)) (fun r s' => r = .bool (neg != b) ∧ Lp X pins σ G H s') X.xe s := by
  obtain ⟨its, rv, e, z⟩ := I.tuple (ex_t eg h1)
  obtain ⟨its2, rv2, e2, z2⟩ := I.tuple (ex_t eg h2)
  have l1 : its.toArray.size = ds.length := by rw [List.size_toArray, ← rv.length, r1.len]
  have l2 : its2.toArray.size = es.length := by rw [List.size_toArray, ← rv2.length, r2.len]
  refine rc_tupB sb.room.units0 (fun i s' => Lp X pins σ G H s' ∧ eqDs ok (ds.drop i) (es.drop i) = some b) e e2 (fun i h1 h2 s' ⟨lp, hr⟩ => ?_) (fun s' ⟨lp, hr⟩ => ?_) ⟨.refl I eg, by simpa using h⟩
  · obtain ⟨G1, H1, I1, eg1, n1⟩ := lp
    have k1 : i < ds.length := by omega
    have k2 : i < es.length := by omega
    have d1 : ds[i]? = some ds[i] := List.getElem?_eq_getElem k1
    have d2 : es[i]? = some es[i] := List.getElem?_eq_getElem k2
    obtain ⟨v1, p1, q1⟩ := r1.get d1
    obtain ⟨v2, p2, q2⟩ := r2.get d2
    obtain ⟨u1, w1, t1⟩ := rv.get p1
    obtain ⟨u2, w2, t2⟩ := rv2.get p2
    have x1 : its.toArray[i] = u1 := by
      have := (List.getElem?_eq_some_iff.mp w1).2
      simpa using this
    have x2 : its2.toArray[i] = u2 := by
      have := (List.getElem?_eq_some_iff.mp w2).2
      simpa using this
    rw [x1, x2]
    rw [List.drop_eq_getElem_cons k1, List.drop_eq_getElem_cons k2] at hr
    simp only [eqDs] at hr
    cases hq : eqD ok ds[i] es[i] with
    | none => rw [hq] at hr; cases hr
    | some b' =>
      rw [hq] at hr
      refine wpAny_mono (hit i _ _ b' d1 d2 hq A.in1 pins s' σ G1 H1 v1 v2 u1 u2 sb.in1 I1 eg1 t1 t2 (DR.up n1.g _ _ q1) (DR.up n1.g _ _ q2)) (fun r s2 q => ?_) fun _ _ x => x
      obtain ⟨er, G2, H2, I2, eg2, n2⟩ := q
      have lp2 : Lp X pins σ G H s2 := ⟨G2, H2, I2, eg2, n1.trans n2⟩
      cases b' with
      | true => exact .inl ⟨er, lp2, hr⟩
      | false =>
        cases hr
        exact .inr ⟨er, by simp, lp2⟩
  · refine ⟨?_, lp⟩
    have : (its.toArray.size == its2.toArray.size) = b := by
      rw [l1, l2] at hr ⊢
      rcases Nat.lt_trichotomy ds.length es.length with c | c | c
      · have m : min ds.length es.length = ds.length := by omega
        rw [m, List.drop_length, List.drop_eq_getElem_cons c] at hr
        have : some false = some b := by simpa [eqDs] using hr
        cases this
        simp; omega
      · have m : min ds.length es.length = ds.length := by omega
        rw [m, List.drop_length, c, List.drop_length] at hr
        have : some true = some b := by simpa [eqDs] using hr
        cases this
        simp [c]
      · have m : min ds.length es.length = es.length := by omega
        rw [m, List.drop_length, List.drop_eq_getElem_cons c] at hr
        have : some false = some b := by simpa [eqDs] using hr
        cases this
        simp; omega
    rw [this]
theorem rc_own {c : Nat} (own : OwnQ X CX C n k c) (hx : Passes CX X fun _ _ _ => False) (hn1 : ds.length = n) (hn2 : es.length = n) (hn3 : D.deeps ds ≤ 4) (h : eqDs noOk ds es = some b) {A : Around} {pins : List (Addr × Obj)} {s : Shared} {σ : L2.St} {G H : Hp} {a1 a2 : Addr}
    (sb : Sub X k A) (I : Inv X pins σ H s) (eg : Ex G H) (r1 : DR X.K C G (.ref a1) (.obj c ds)) (r2 : DR X.K C G (.ref a2) (.obj c es)) :
    wpAny (model X.prog X.w) A (richCompare .Eq (.ref a1) (.ref a2)) (fun r s' => r = .bool b ∧ Lp X pins σ G H s') X.xe s := by
  obtain ⟨f, fd, ps, cw, F, hk, hb, hc⟩ := own.ex
  have p1 : ∃ dx fs, H a1 = some (.ins (C.at_ c) dx fs) := by
    cases r1 with
    | obj h n r => exact ⟨_, _, eg _ _ h⟩
  have p2 : ∃ dx fs, H a2 = some (.ins (C.at_ c) dx fs) := by
    cases r2 with
    | obj h n r => exact ⟨_, _, eg _ _ h⟩
  obtain ⟨dx, fs, ha⟩ := p1
  obtain ⟨dy, gs, hb'⟩ := p2
  obtain ⟨mA, J, _⟩ := ins_get I.hok ha
  obtain ⟨mB, J', _⟩ := ins_get I.hok hb'
  obtain ⟨od, J, _⟩ := J.look
  obtain ⟨od', J', _⟩ := J'.look
  obtain ⟨m, hF⟩ := I.fr
  have sp : spW X.K C cw [V.ref a1, V.ref a2] H (fun v H' => v = .bl b ∧ ∃ G', Ex G' H' ∧ Nx [] G H G' H' []) fun _ _ _ => False :=
    ⟨G, [], [], [.dat (.obj c ds), .dat (.obj c es)], [], fun t _ => t = .dat (.bool b), fun _ _ => False, ⟨eg, .nil, List.nodup_nil, fun _ z => nomatch z⟩, .cons r1 (.cons r2 .nil), hc ds es b hn1 hn2 hn3 h _ _ rfl, fun t rt' fps' fp G' H' v r' n' o' new hk => by
      subst hk
      cases o'.tr with
      | dat h =>
        cases h
        exact ⟨rfl, G', r'.sub, n'.less fun _ z => nomatch z⟩, fun _ _ _ _ _ _ _ _ _ _ z => z.elim⟩
  have r3 : Vals [V.ref a1, V.ref a2] [Value.ref a1, Value.ref a2] := .cons rfl (.cons rfl .nil)
  refine PySem.W.cmp_K (op := .Eq) (tb := .ref (C.at_ c)) sb.room.units0 hF I.ok.mod.kin J J'.type (by simp [PySem.W.notFirst]) hk.eq hk.fn (wpAny_mono (run_at sb F hb hx I r3 sp) (fun w s' hw => ?_) fun _ _ z => z)
  obtain ⟨z, H', I', rz, ez, G', eg', n'⟩ := hw
  subst ez
  cases rz
  exact ⟨rfl, G', H', I', eg', n'⟩
theorem sc_flat {x y : D} (h : D.sc x y = some b) : flatD x = true ∧ flatD y = true := by
  unfold D.sc at h
  split at h <;> first | exact ⟨rfl, rfl⟩ | cases h
theorem deep_mem : ∀ {ds : List D} {i : Nat} {d : D}, ds[i]? = some d → d.deep ≤ D.deeps ds
  | [], _, _, h => by simp at h
  | d :: ds, 0, _, h => by
    cases Option.some.inj h
    exact Nat.le_max_left _ _
  | d :: ds, i + 1, _, h => Nat.le_trans (deep_mem (i := i) (show ds[i]? = some _ from h)) (Nat.le_max_right _ _)
theorem eqP_all (own : ∀ c n, ok c = some n → OwnQ X CX C n k c) (hx : Passes CX X fun _ _ _ => False) : ∀ (m : Nat) (d e : D) (b : Bool), d.deep ≤ m → eqD ok d e = some b → EqP X C (m + k) d e b := by
  have scal : ∀ {m : Nat} {d e : D} {b : Bool}, D.sc d e = some b → EqP X C (m + k) d e b := fun h A pins s σ G H x y u v sb I eg rx ry r1 r2 => by
    obtain ⟨f1, f2⟩ := sc_flat h
    have q := eqAt_V (A := A) (s := s) rx ry (flatD_ok f1 r1) (flatD_ok f2 r2)
    rw [sc_eqV h r1 r2] at q
    exact q X.prog X.w X.xe _ ⟨rfl, .refl I eg⟩
  have tups : ∀ {m : Nat} {d e : D} {b : Bool} {ds es : List D}, (∀ (i : Nat) (d e : D) (b' : Bool), ds[i]? = some d → es[i]? = some e → eqD ok d e = some b' → EqP X C (m + k) d e b') → eqDs ok ds es = some b → eqD ok d e = some b →
      (∀ G v, DR X.K C G v d → ∃ a xs, v = .ref a ∧ SqT X.K G a xs ∧ DRs X.K C G xs ds) → (∀ G v, DR X.K C G v e → ∃ a xs, v = .ref a ∧ SqT X.K G a xs ∧ DRs X.K C G xs es) → EqP X C (m + 1 + k) d e b := fun {m d e b ds es} hit h hd k1 k2 A pins s σ G H x y u v sb I eg rx ry r1 r2 => by
    obtain ⟨a1, xs, rfl, s1, t1⟩ := k1 _ _ r1
    obtain ⟨a2, ys, rfl, s2, t2⟩ := k2 _ _ r2
    cases rx
    cases ry
    by_cases hab : a1 = a2
    · subst hab
      have := same_true I eg _ ok _ _ _ hd r1 r2
      subst this
      exact SeqAt.EqAt.same (A := A) (s := s) (.ref a1) X.prog X.w X.xe _ ⟨rfl, .refl I eg⟩
    · have sb2 : Sub X (m + k + 1) A := by
        have e : m + 1 + k = m + k + 1 := by omega
        rw [← e]; exact sb
      refine GQ.eqBool_refG hab (wpAny_mono (rc_items hit h sb2 I eg s1 s2 t1 t2 false) (fun r s' q => ?_) fun _ _ x => x)
      obtain ⟨er, lp⟩ := q
      exact ⟨b, by simpa using er, rfl, lp⟩
  have ex1 : ∀ (ds : List D) G v, DR X.K C G v (.tup ds) → ∃ a xs, v = .ref a ∧ SqT X.K G a xs ∧ DRs X.K C G xs ds := fun ds G v h => by
    cases h with
    | tup h r => exact ⟨_, _, rfl, h, r⟩
  have ex2 : ∀ (ds : List D) G v, DR X.K C G v (.tpx ds) → ∃ a xs, v = .ref a ∧ SqT X.K G a xs ∧ DRs X.K C G xs ds := fun ds G v h => by
    cases h with
    | tpx h _ r => exact ⟨_, _, rfl, .inl (.inr ⟨_, h⟩), r⟩
  have objs : ∀ {m c : Nat} {ds es : List D} {b : Bool}, ok c = some ds.length → es.length = ds.length → D.deeps ds ≤ 4 → eqDs noOk ds es = some b → eqD ok (.obj c ds) (.obj c es) = some b → EqP X C (m + k) (.obj c ds) (.obj c es) b := fun {m c ds es b} hc hl h4 h hd A pins s σ G H x y u v sb I eg rx ry r1 r2 => by
    obtain ⟨a1, e1⟩ : ∃ a, x = .ref a := by cases r1 with | obj h n r => exact ⟨_, rfl⟩
    obtain ⟨a2, e2⟩ : ∃ a, y = .ref a := by cases r2 with | obj h n r => exact ⟨_, rfl⟩
    subst e1 e2
    cases rx
    cases ry
    by_cases hab : a1 = a2
    · subst hab
      have := same_true I eg _ ok _ _ _ hd r1 r2
      subst this
      exact SeqAt.EqAt.same (A := A) (s := s) (.ref a1) X.prog X.w X.xe _ ⟨rfl, .refl I eg⟩
    · refine GQ.eqBool_refG hab (wpAny_mono (rc_own (own c _ hc) hx rfl hl h4 h (sb.mono (by omega)) I eg r1 r2) (fun r s' q => ?_) fun _ _ x => x)
      obtain ⟨er, lp⟩ := q
      exact ⟨b, er, rfl, lp⟩
  intro m
  induction m with
  | zero =>
    intro d e b hm h
    cases d with
    | tup ds => exact absurd hm (by simp [D.deep])
    | tpx ds => exact absurd hm (by simp [D.deep])
    | obj c ds =>
      cases e with
      | obj c' es =>
        have h' : (if c = c' ∧ ok c = some ds.length ∧ es.length = ds.length ∧ D.deeps ds ≤ 4 then eqDs noOk ds es else none) = some b := by simpa [eqD] using h
        split at h'
        · rename_i z
          obtain ⟨z1, z2, z3, z4⟩ := z
          subst z1
          exact objs z2 z3 z4 h' h
        · cases h'
      | _ => simp [eqD, D.sc] at h
    | _ => exact scal (by simpa [eqD] using h)
  | succ m ih =>
    intro d e b hm h
    have hit : ∀ ds es : List D, D.deeps ds ≤ m → ∀ (i : Nat) (d e : D) (b' : Bool), ds[i]? = some d → es[i]? = some e → eqD ok d e = some b' → EqP X C (m + k) d e b' := fun ds es hd i d e b' h1 h2 h3 => ih d e b' (Nat.le_trans (deep_mem h1) hd) h3
    cases d with
    | tup ds =>
      have hd : D.deeps ds ≤ m := by simpa [D.deep] using hm
      cases e with
      | tup es => exact tups (hit ds es hd) (by simpa [eqD] using h) h (ex1 ds) (ex1 es)
      | tpx es => exact tups (hit ds es hd) (by simpa [eqD] using h) h (ex1 ds) (ex2 es)
      | _ => simp [eqD, D.sc] at h
    | tpx ds =>
      have hd : D.deeps ds ≤ m := by simpa [D.deep] using hm
      cases e with
      | tup es => exact tups (hit ds es hd) (by simpa [eqD] using h) h (ex2 ds) (ex1 es)
      | tpx es => exact tups (hit ds es hd) (by simpa [eqD] using h) h (ex2 ds) (ex2 es)
      | _ => simp [eqD, D.sc] at h
    | obj c ds =>
      cases e with
      | obj c' es =>
        have h' : (if c = c' ∧ ok c = some ds.length ∧ es.length = ds.length ∧ D.deeps ds ≤ 4 then eqDs noOk ds es else none) = some b := by simpa [eqD] using h
        split at h'
        · rename_i z
          obtain ⟨z1, z2, z3, z4⟩ := z
          subst z1
          exact objs z2 z3 z4 h' h
        · cases h'
      | _ => simp [eqD, D.sc] at h
    | _ => exact scal (by simpa [eqD] using h)
def rEqO (K : PySem.W.Frag) (C : Cs) (ok : Nat → Option Nat) (m : Nat) (neg : Bool) : R2 := fun x y H Q => ∃ G ds es b a1 a2 xs ys, x = .ref a1 ∧ y = .ref a2 ∧ Ex G H ∧ SqT K G a1 xs ∧ SqT K G a2 ys ∧ DRs K C G xs ds ∧ DRs K C G ys es ∧ D.deeps ds ≤ m ∧ eqDs ok ds es = some b ∧
  ∀ G' H', Ex G' H' → Nx [] G H G' H' [] → Q (.bl (neg != b)) H'
theorem op_eqO {m : Nat} (neg : Bool) (own : ∀ c n, ok c = some n → OwnQ X CX C n k c) (hx : Passes CX X fun _ _ _ => False) (hr : Room (m + k + 1) X.A) : OpR X (compareOp (if neg then .NotEq else .Eq)) (rEqO X.K C ok m neg) := by
  intro pins s σ H x y v u Q I rx ry ⟨G, ds, es, b, a1, a2, xs, ys, e1, e2, eg, s1, s2, t1, t2, hd, h, q⟩
  subst e1 e2
  cases rx
  cases ry
  have go := rc_items (A := X.A) (fun i d e b' h1 h2 h3 => eqP_all own hx m d e b' (Nat.le_trans (deep_mem h1) hd) h3) h ⟨hr, rfl⟩ I eg s1 s2 t1 t2 neg
  have fin : wpAny (model X.prog X.w) X.A (richCompare (if neg then .NotEq else .Eq) (.ref a1) (.ref a2)) (EP X pins σ Q) X.xe s := wpAny_mono go (fun r s' hq => by
    obtain ⟨er, G', H', I', eg', n'⟩ := hq
    subst er
    exact ⟨.bl (neg != b), H', I', rfl, q G' H' eg' n'⟩) fun _ _ z => z
  cases neg with
  | false => exact fin
  | true => exact fin
def tupD : Val → Option (List D)
  | .dat (.tup ds) => some ds
  | .dat (.tpx ds) => some ds
  | _ => none
theorem tupD_ok {K : PySem.W.Frag} {G H : Hp} {ρ : List Addr} {x : Val} {v : V} (h : tupD x = some ds) (r : VR K C G H ρ x v) : ∃ a xs, v = .ref a ∧ SqT K G a xs ∧ DRs K C G xs ds := by
  unfold tupD at h
  split at h
  · cases h
    cases r with
    | tup h r => exact ⟨_, _, rfl, h, r⟩
  · cases h
    cases r with
    | tpx h _ r => exact ⟨_, _, rfl, .inl (.inr ⟨_, h⟩), r⟩
  · cases h
/-- a == b, a != b of tuples with own instances in them -/
def wEqO (ok : Nat → Option Nat) (m : Nat) (neg : Bool) (wa wb : WE) : WE := fun sl rt k => wa sl rt fun x rt1 => wb sl rt1 fun y rt2 => match tupD x with
  | some ds => match tupD y with
    | some es => D.deeps ds ≤ m ∧ ∃ b, eqDs ok ds es = some b ∧ k (.dat (.bool (neg != b))) rt2
    | none => False
  | none => False
variable {K : PySem.W.Frag} {U : UX} {wa wb : WE} {e1 e2 : Expr} {pos : Pos}
theorem RSt.free {rt : Roots} {ρ : List Addr} {fps : List (List Addr)} {G H G' H' : Hp} (r : RSt K C rt ρ fps G H) (eg : Ex G' H') (n : Nx [] G H G' H' []) : ∃ fps', RSt K C rt ρ fps' G' H' ∧ Nx fps.flatten G H G' H' fps'.flatten := by
  obtain ⟨bs, fpsc, b1, b2, b3, b4⟩ := borrowed (xs := []) (vs := []) (ts := []) r .nil rfl rfl
  obtain ⟨l1, l2⟩ := b1.root.lens
  have e1 : bs = [] := List.length_eq_zero_iff.mp l1
  have e2 : fpsc = [] := List.length_eq_zero_iff.mp l2
  subst e1 e2
  obtain ⟨fps', z1, z2, _⟩ := b4 [] [] G' H' ⟨eg, .nil, List.nodup_nil, fun _ z => nomatch z⟩ n
  exact ⟨fps', z1, z2⟩
theorem e_eqO {m : Nat} {neg : Bool} : ∀ σ H Q, tE K C U (wEqO ok m neg wa wb) σ H Q → tOp (rEqO K C ok m neg) (tE K C U wa) (tE K C U wb) σ H Q := fun σ H Q ⟨sl, rt, ρ, fps, G, k, s, xf, w, q⟩ =>
  ⟨sl, rt, ρ, fps, G, _, s, xf, w, fun x rt1 fps1 G1 H1 v r1 n1 v1 w1 => ⟨sl, rt1, ρ, fps1, G1, _, s.step r1 n1 fun _ _ e => e, xf.later n1 (Pre.refl _), w1, fun y rt2 fps2 G2 H2 u r2 n2 v2 w2 => by
    have v1 := v1.up n2 fun _ _ e => e
    split at w2
    · rename_i ds h1
      split at w2
      · rename_i es h2
        obtain ⟨hd, b, hb, w2⟩ := w2
        obtain ⟨a1, xs, rfl, s1, t1⟩ := tupD_ok h1 v1
        obtain ⟨a2, ys, rfl, s2, t2⟩ := tupD_ok h2 v2
        refine ⟨G2, ds, es, b, a1, a2, xs, ys, rfl, rfl, r2.sub, s1, s2, t1, t2, hd, hb, fun G' H' eg n => ?_⟩
        obtain ⟨fps', r3, n3⟩ := r2.free eg n
        exact q (.dat (.bool (neg != b))) rt2 fps' G' H' _ r3 ((n1.trans n2).trans n3) (DR.bool _) w2
      · exact w2.elim
    · exact w2.elim⟩⟩
theorem we_eqO {m : Nat} {neg : Bool} {op : CmpOp} (ho : OpR X (compareOp op) (rEqO K C ok m neg)) (ha : PE X e1 (tE K C U wa)) (hb : PE X e2 (tE K C U wb)) (hm : behindInMarks op e2 = false) : PE X (.Compare e1 [op] [e2] pos) (tE K C U (wEqO ok m neg wa wb)) := pe_imp (pe_cmpR ho ha hb hm) e_eqO
theorem wt_eqO {m : Nat} {neg : Bool} {op : CmpOp} (ho : OpR X (compareOp op) (rEqO K C ok m neg)) (ha : PE X e1 (tE K C U wa)) (hb : PE X e2 (tE K C U wb)) (hm : behindInMarks op e2 = false) : PT X (.Compare e1 [op] [e2] pos) (tT K C U (wB (wEqO ok m neg wa wb))) :=
  pt_imp (pt_cmpR ho ha hb hm) fun σ H Q h => e_eqO σ H _ (t_test σ H Q h)
end
end Wv
end

section
set_option Elab.async false
set_option linter.all false
set_option maxRecDepth 100000
set_option maxHeartbeats 4000000
namespace Wv
open PySem PySem.Spec PyProof.Rows L2 Evl
section
variable {K : PySem.W.Frag} {C : Cs} {U : UX} {X : Cx} {CX : CXT} {k n : Nat} {ds es : List D} {b : Bool} {G H : Hp} {f : Addr} {fd : FuncData} {ps : List Str} {cw : CW}
/-! ### in a list of data of any depth -/
def rInL (K : PySem.W.Frag) : R2 := fun x y H Q => ∃ d ds, Dp K H x d ∧ Dp K H y (.list ds) ∧ SeqAt.shaped d = true ∧ d.depth ≤ 32 ∧ SeqAt.shaped (.list ds) = true ∧ Q (.bl (ds.any fun z => PyData.eqv z d)) H
theorem op_inL (hu : X.A.units + 64 < cLine) : OpR X (compareOp .In) (rInL X.K) := by
  intro pins s σ H x y v u Q I rx ry h
  obtain ⟨d, ds, hd, he, sd, dep, se, q⟩ := h
  obtain ⟨as, r1⟩ := Dp.reads I d x v hd rx
  obtain ⟨bs, r2⟩ := Dp.reads I (.list ds) y u he ry
  exact SeqAt.in_list_reads r2 r1 (SeqAt.canLay_of_shaped se) (SeqAt.canLay_of_shaped sd) (by omega) ⟨.bl _, H, I, rfl, q⟩
def sInL : Sem2 := fun x y rt k => match x with
  | .dat d => match listOf y rt with
    | some ds => ∃ px ps, d.py = some px ∧ D.pys ds = some ps ∧ SeqAt.shaped px = true ∧ px.depth ≤ 32 ∧ SeqAt.shaped (.list ps) = true ∧ k (.bool (ps.any fun z => PyData.eqv z px))
    | none => False
  | _ => False
theorem s_inL : S2 K C sInL (rInL K) := fun rt ρ fps G H x y v u s a b k Q w q => by
  unfold sInL at w
  split at w
  · split at w
    · rename_i ds e
      obtain ⟨px, ps, h1, h2, h3, h5, h4, w⟩ := w
      obtain ⟨p, xs, rfl, z1, z2⟩ := s.listOf e b
      exact ⟨px, ps, DR.py s.sub _ _ _ a h1, .lst z1 (DRs.py s.sub _ _ _ z2 h2), h3, h5, h4, q _ _ w (.bool _)⟩
    · exact w.elim
  · exact w.elim
/-- one class whose own == compares n fields -/
def ok1 (c0 n0 : Nat) : Nat → Option Nat := fun c => if c = c0 then some n0 else none
theorem own1 {c0 n0 : Nat} (F : FnOk X.prog X.w X.K X.mg X.base CX k f fd ps (spW X.K C cw)) (hk : EqK X.K (C.at_ c0) f) (hb : Binds X.K fd ps [])
    (hs : ∀ ds es b, ds.length = n0 → es.length = n0 → D.deeps ds ≤ 4 → eqDs noOk ds es = some b → ∀ (kk : T → Roots → Prop) kx, kk (.dat (.bool b)) [] → cw [.dat (.obj c0 ds), .dat (.obj c0 es)] [] kk kx) : ∀ c n, ok1 c0 n0 c = some n → OwnQ X CX C n k c := fun c n h => by
  unfold ok1 at h
  split at h
  · rename_i e
    cases h
    subst e
    exact ⟨f, fd, ps, cw, F, hk, hb, hs⟩
  · cases h
theorem own0 : ∀ c n, noOk c = some n → OwnQ X CX C n 0 c := fun _ _ h => nomatch h
/-! ### and, or whose second part may change what is owned -/
variable {ta tb : WT} {wa wb : WE} {ea eb : Expr} {rest : List Expr} {pos : Pos}
def wAndD (ta tb : WT) : WT := fun sl rt k => ta sl rt fun a rt1 => (a = true → tb sl rt1 k) ∧ (a = false → k false rt1)
def wOrD (ta tb : WT) : WT := fun sl rt k => ta sl rt fun a rt1 => (a = false → tb sl rt1 k) ∧ (a = true → k true rt1)
theorem t_andD : ∀ σ H Q, tT K C U (wAndD ta tb) σ H Q → tAnd (tT K C U ta) (tT K C U tb) σ H Q := fun σ H Q ⟨sl, rt, ρ, fps, G, k, s, xf, w, q⟩ =>
  ⟨sl, rt, ρ, fps, G, _, s, xf, w, fun a rt1 fps1 G1 H1 r1 n1 w1 => by
    cases a with
    | true => exact ⟨sl, rt1, ρ, fps1, G1, k, s.step r1 n1 fun _ _ e => e, xf.later n1 (Pre.refl _), w1.1 rfl, fun b' rt2 fps2 G2 H2 r2 n2 hk => q b' rt2 fps2 G2 H2 r2 (n1.trans n2) hk⟩
    | false => exact q false rt1 fps1 G1 H1 r1 n1 (w1.2 rfl)⟩
theorem t_orD : ∀ σ H Q, tT K C U (wOrD ta tb) σ H Q → tOr (tT K C U ta) (tT K C U tb) σ H Q := fun σ H Q ⟨sl, rt, ρ, fps, G, k, s, xf, w, q⟩ =>
  ⟨sl, rt, ρ, fps, G, _, s, xf, w, fun a rt1 fps1 G1 H1 r1 n1 w1 => by
    cases a with
    | false => exact ⟨sl, rt1, ρ, fps1, G1, k, s.step r1 n1 fun _ _ e => e, xf.later n1 (Pre.refl _), w1.1 rfl, fun b' rt2 fps2 G2 H2 r2 n2 hk => q b' rt2 fps2 G2 H2 r2 (n1.trans n2) hk⟩
    | true => exact q true rt1 fps1 G1 H1 r1 n1 (w1.2 rfl)⟩
theorem ww_andD (ha : PT X ea (tT K C U ta)) (hb : PW X (.BoolOp .And (eb :: rest) pos) (tT K C U tb)) : PW X (.BoolOp .And (ea :: eb :: rest) pos) (tT K C U (wAndD ta tb)) := pw_imp (pw_and ha hb) t_andD
theorem ww_orD (ha : PT X ea (tT K C U ta)) (hb : PW X (.BoolOp .Or (eb :: rest) pos) (tT K C U tb)) : PW X (.BoolOp .Or (ea :: eb :: rest) pos) (tT K C U (wOrD ta tb)) := pw_imp (pw_or ha hb) t_orD
def wAndE (wa wb : WE) : WE := fun sl rt k => wa sl rt fun x rt1 => match x with
  | .dat (.bool a) => (a = true → wb sl rt1 k) ∧ (a = false → k (.dat (.bool false)) rt1)
  | _ => False
def wOrE (wa wb : WE) : WE := fun sl rt k => wa sl rt fun x rt1 => match x with
  | .dat (.bool a) => (a = false → wb sl rt1 k) ∧ (a = true → k (.dat (.bool true)) rt1)
  | _ => False
theorem e_andE : ∀ σ H Q, tE K C U (wAndE wa wb) σ H Q → tAndV (tE K C U wa) (tE K C U wb) σ H Q := fun σ H Q ⟨sl, rt, ρ, fps, G, k, s, xf, w, q⟩ =>
  ⟨sl, rt, ρ, fps, G, _, s, xf, w, fun x rt1 fps1 G1 H1 v r1 n1 v1 w1 => by
    split at w1
    · rename_i a
      cases v1
      refine ⟨a, rfl, ?_⟩
      cases a with
      | true => exact ⟨sl, rt1, ρ, fps1, G1, k, s.step r1 n1 fun _ _ e => e, xf.later n1 (Pre.refl _), w1.1 rfl, fun y rt2 fps2 G2 H2 u r2 n2 v2 hk => q y rt2 fps2 G2 H2 u r2 (n1.trans n2) v2 hk⟩
      | false => exact q (.dat (.bool false)) rt1 fps1 G1 H1 _ r1 n1 (DR.bool _) (w1.2 rfl)
    · exact w1.elim⟩
theorem e_orE : ∀ σ H Q, tE K C U (wOrE wa wb) σ H Q → tOrV (tE K C U wa) (tE K C U wb) σ H Q := fun σ H Q ⟨sl, rt, ρ, fps, G, k, s, xf, w, q⟩ =>
  ⟨sl, rt, ρ, fps, G, _, s, xf, w, fun x rt1 fps1 G1 H1 v r1 n1 v1 w1 => by
    split at w1
    · rename_i a
      cases v1
      refine ⟨a, rfl, ?_⟩
      cases a with
      | false => exact ⟨sl, rt1, ρ, fps1, G1, k, s.step r1 n1 fun _ _ e => e, xf.later n1 (Pre.refl _), w1.1 rfl, fun y rt2 fps2 G2 H2 u r2 n2 v2 hk => q y rt2 fps2 G2 H2 u r2 (n1.trans n2) v2 hk⟩
      | true => exact q (.dat (.bool true)) rt1 fps1 G1 H1 _ r1 n1 (DR.bool _) (w1.2 rfl)
    · exact w1.elim⟩
theorem we_andE (ha : PE X ea (tE K C U wa)) (hb : PE X (.BoolOp .And (eb :: rest) pos) (tE K C U wb)) : PE X (.BoolOp .And (ea :: eb :: rest) pos) (tE K C U (wAndE wa wb)) := pe_imp (pe_and ha hb) e_andE
theorem we_orE (ha : PE X ea (tE K C U wa)) (hb : PE X (.BoolOp .Or (eb :: rest) pos) (tE K C U wb)) : PE X (.BoolOp .Or (ea :: eb :: rest) pos) (tE K C U (wOrE wa wb)) := pe_imp (pe_or ha hb) e_orE
end
end Wv
end

section
set_option Elab.async false
set_option linter.all false
set_option maxRecDepth 100000
set_option maxHeartbeats 4000000
namespace Wv
open PySem PySem.Spec PyProof.Rows L2 Evl
section
variable {K : PySem.W.Frag} {C : Cs} {U : UX} {G H G' H' G1 H1 G2 H2 : Hp} {sl sl' : Slots} {rt rt' : Roots} {σ : L2.St} {ρ ρ' ρ1 : List Addr} {fps fps' fps1 : List (List Addr)}
variable {X : Cx} {CX : CXT} {a b c e o : Expr} {es rest : List Expr} {wa wb wc : WE} {pos p apos cpos : Pos} {Z : WEnds} {E : L2.St → XK} {st : Stmt} {k : Nat} {f Ca : Addr} {fd : FuncData} {ps : List Str} {sp : Sp} {x m name : Str} {ta to : TE} {t : TA} {ds : List Value}
/-! ### what never comes to pass -/
def wNever : WS := fun _ _ _ => False
theorem ws_never : PS X st (tS K C U wNever) := ⟨fun _ _ _ _ _ _ h => by
  obtain ⟨_, _, _, _, _, _, _, z, _⟩ := h
  exact z.elim⟩
def cNever : CW := fun _ _ _ _ => False
theorem ok_never {P : Program} {w : World} {mg : Str → Option Value} {base : Heap} {CX : CXT} : FnOk P w K mg base CX k f fd ps (spW K C cNever) :=
  ⟨fun vs H Q E h => by obtain ⟨_, _, _, _, _, _, _, _, _, z, _⟩ := h; exact z.elim, fun A outer s H args us vs Q E hr he hb hv h => by obtain ⟨_, _, _, _, _, _, _, _, _, z, _⟩ := h; exact z.elim⟩
/-! ### try whose body raises nothing -/
def wTry0 (u : WS) : WS := fun Z sl rt => u { Z with ex := fun _ _ _ => False } sl rt
theorem s_try0 {u : WS} : ∀ D σ H, tS K C U (wTry0 u) D σ H → tS K C (fun _ _ _ _ => False) u D σ H := fun D σ H ⟨Z, sl, rt, ρ, fps, G, s, w, f⟩ =>
  ⟨{ Z with ex := fun _ _ _ => False }, sl, rt, ρ, fps, G, s, w, { f with xf := Xf.no }⟩
theorem ws_try0 {u : WS} {body : List Stmt} {h₀ : ExceptHandler} {hs : List ExceptHandler} (hb : PSs X.nox body (tS K C (fun _ _ _ _ => False) u)) : PS X (.Try body (h₀ :: hs) [] [] pos) (tS K C U (wTry0 u)) := ps_imp (ps_try_thru0 hb) s_try0
/-! ### a place as data, and back -/
def wBk (w : WE) : WO := fun sl rt k => w sl rt fun x rt1 => match x with
  | .ref r p => match tatN rt1 r p with
    | some (.nm a _) => k (.dat (.cst (.ref a))) rt1
    | _ => False
  | _ => False
theorem o_bk {w : WE} : ∀ σ H Q, tO K C U (wBk w) σ H Q → tE K C U w σ H Q := fun σ H Q ⟨sl, rt, ρ, fps, G, k, s, xf, w, q⟩ =>
  ⟨sl, rt, ρ, fps, G, _, s, xf, w, fun x rt1 fps1 G1 H1 v r1 n1 v1 w1 => by
    split at w1
    · rename_i r p
      split at w1
      · rename_i a t ht
        obtain ⟨b, h1, h2, h3⟩ := v1
        obtain ⟨w0, L, fu, R, k1, k2, _, _⟩ := r1.atN ht h1
        rw [h2] at k1
        cases k1
        have e : v = .ref a := by cases k2; rfl
        exact q (.dat (.cst (.ref a))) rt1 fps1 [] G1 H1 v r1 n1 (Own.dat (by rw [e]; exact .cst _)) (fun _ z => nomatch z) w1
      · exact w1.elim
    · exact w1.elim⟩
theorem wo_bk {w : WE} (h : PE X e (tE K C U w)) : PE X e (tO K C U (wBk w)) := pe_imp h o_bk
def wRes (w : WE) : WE := fun sl rt k => w sl rt fun x rt1 => match x with
  | .dat (.cst (.ref a)) => ∃ r t, rt1[r]? = some (.nm a t) ∧ t.isD = false ∧ k (.ref r []) rt1
  | _ => False
theorem e_res {w : WE} : ∀ σ H Q, tE K C U (wRes w) σ H Q → tE K C U w σ H Q := fun σ H Q ⟨sl, rt, ρ, fps, G, k, s, xf, w, q⟩ =>
  ⟨sl, rt, ρ, fps, G, _, s, xf, w, fun x rt1 fps1 G1 H1 v r1 n1 v1 w1 => by
    split at w1
    · rename_i a
      obtain ⟨r, t, h1, h2, w1⟩ := w1
      have e : v = .ref a := by cases v1; rfl
      obtain ⟨b, L, fu, R, z1, z2, _, _⟩ := r1.root.split h1
      cases z2 with
      | nm z2 => exact q (.ref r []) rt1 fps1 G1 H1 v r1 n1 ⟨a, z1, by rw [e]; rfl, by rw [e]; exact z2.nodeB h2, rfl⟩ w1
    · exact w1.elim⟩
theorem we_res {w : WE} (h : PE X e (tE K C U w)) : PE X e (tE K C U (wRes w)) := pe_imp h e_res
/-! ### a method that gets all roots -/
def wMethA (c : Nat) (cw : CW) (wo : WE) (w : WA) : WO := fun sl rt k => wo sl rt fun x rt1 => isObj c x rt1 ∧ w sl rt1 fun xs rt2 => cw (x :: xs) rt2 k fun y ts' => sl.ex y sl.sl ts'
theorem o_methA {c : Nat} {cw : CW} {wo : WE} {w : WA} {m : Str} (hm : m ∉ C.ly c) : ∀ σ H Q, tO K C U (wMethA c cw wo w) σ H Q → tMethX (C.at_ c) m (spW K C cw) (fun σ cls d H => U cls d σ H) (tE K C U wo) (tA K C U w) σ H Q := fun σ H Q ⟨sl, rt, ρ, fps, G, k, s, xf, w, q⟩ =>
  ⟨sl, rt, ρ, fps, G, _, s, xf, w, fun x rt1 fps1 G1 H1 v r1 n1 v1 ⟨hx, w1⟩ => by
    obtain ⟨a, dx, fs, rfl, h, n⟩ := r1.isObj v1 hx
    refine ⟨a, dx, fs, rfl, h, look_no fun z => hm (List.mem_of_mem_take (by rw [← n]; exact z)), sl, rt1, ρ, fps1, G1, _, s.step r1 n1 fun _ _ e => e, xf.later n1 (Pre.refl _), w1, fun xs rt2 fps2 G2 H2 vs r2 n2 v2 w2 => ?_⟩
    have n3 := n1.trans n2
    exact ⟨G2, ρ, fps2, x :: xs, rt2, k, _, r2, .cons (v1.up n2 fun _ _ e => e) v2, w2, fun t rt' fps' fp G' H' v r' n' o' new hk => q t rt' fps' fp G' H' v r' (n3.trans n') o' (fun a ha => (new a ha).elim (fun y => n3.new a y) fun y => .inr (n3.dom a y)) hk,
      fun y rt' fps' G' H' cls d r' n' xr hk => xf y _ rt' σ ρ fps' G' H' cls d (s.step r' (n3.trans n') fun _ _ e => e) (n3.trans n') (Pre.refl _) (xr.early n3.dom) hk⟩⟩
theorem wo_methA {c : Nat} {cw : CW} {wo : WE} {w : WA} {m : Str} (hm : m ∉ C.ly c) (h : PE X e (tMethX (C.at_ c) m (spW K C cw) (fun σ cls d H => U cls d σ H) (tE K C U wo) (tA K C U w))) : PE X e (tO K C U (wMethA c cw wo w)) := pe_imp h (o_methA hm)
end
end Wv
end

section
set_option Elab.async false
set_option linter.all false
set_option maxRecDepth 100000
set_option maxHeartbeats 4000000
namespace Wv
open PySem PySem.Spec PyProof.Rows L2 Evl
section
variable {K : PySem.W.Frag} {C : Cs} {U : UX} {G H G' H' G1 H1 G2 H2 : Hp} {sl sl' : Slots} {rt rt' : Roots} {σ : L2.St} {ρ ρ' ρ1 : List Addr} {fps fps' fps1 : List (List Addr)}
variable {X : Cx} {CX : CXT} {a b c e o : Expr} {es rest : List Expr} {wa wb wc : WE} {pos p apos cpos : Pos} {Z : WEnds} {E : L2.St → XK} {st : Stmt} {k : Nat} {f Ca : Addr} {fd : FuncData} {ps : List Str} {sp : Sp} {x m name : Str} {ta to : TE} {t : TA} {ds : List Value}
/-! ### a new list that never changes -/
def tFzl (t : TE) : TE := fun σ H Q => t σ H fun v H1 => ∃ a xs, v = .ref a ∧ H1 a = some (.lst xs) ∧ ∀ od, Q v (upd H1 a (.frz od (.lst xs)))
theorem pe_fzl (h : PE X e ta) : PE X e (tFzl ta) := by
  refine ⟨fun pins s σ H Q I hw => ?_⟩
  refine thn (h.run pins s σ H _ I hw) fun v s1 ⟨x, H1, I1, r, q⟩ => ?_
  obtain ⟨a, xs, rfl, ha, q⟩ := q
  obtain ⟨od, I2⟩ := I1.lock ha trivial
  exact ⟨_, _, I2, r, q od⟩
def wRepF (wa wb : WE) : WE := fun sl rt k => wa sl rt fun x rt1 => wb sl rt1 fun y rt2 => match lstOf x rt2, y with
  | some ds, .dat (.int n) => (-100000 ≤ n ∧ n ≤ 100000) ∧ ds.length * n.toNat ≤ 100000 ∧ k (.dat (.fzl (List.replicate n.toNat ds).flatten)) rt2
  | _, _ => False
theorem e_repF : ∀ σ H Q, tE K C U (wRepF wa wb) σ H Q → tFzl (tOp rRep (tE K C U wa) (tE K C U wb)) σ H Q := fun σ H Q ⟨sl, rt, ρ, fps, G, k, s, xf, w, q⟩ =>
  ⟨sl, rt, ρ, fps, G, _, s, xf, w, fun x rt1 fps1 G1 H1 v r1 n1 v1 w1 => ⟨sl, rt1, ρ, fps1, G1, _, s.step r1 n1 fun _ _ e => e, xf.later n1 (Pre.refl _), w1, fun y rt2 fps2 G2 H2 u r2 n2 v2 w2 => by
    split at w2
    · rename_i ds n e1
      obtain ⟨a, xs, rfl, h1, d1⟩ := r2.lstOf e1 (v1.up n2 fun _ _ e => e)
      cases v2
      refine ⟨a, n, xs, rfl, rfl, h1, by omega, by omega, sz_of (by rw [d1.len]; exact w2.2.1), fun p hp => ?_⟩
      refine ⟨p, _, rfl, upd_same, fun od => ?_⟩
      rw [upd_upd]
      exact q (.dat (.fzl _)) rt2 fps2 _ _ _ (r2.laid hp) ((n1.trans n2).trans (Nx.laid r2.sub hp _)) (.fzl upd_same (DRs.up (Ex.new (fresh_back r2.sub hp)) _ _ (d1.rep n.toNat))) w2.2.2
    · exact w2.elim⟩⟩
theorem we_repF (ha : PE X a (tE K C U wa)) (hb : PE X b (tE K C U wb)) : PE X (.BinOp a .Mult b pos) (tE K C U (wRepF wa wb)) := pe_imp (pe_fzl (pe_op op_rep ha hb)) e_repF
/-- t * n -/
def wRepT (wa wb : WE) : WE := fun sl rt k => wa sl rt fun x rt1 => wb sl rt1 fun y rt2 => match x, y with
  | .dat (.tup ds), .dat (.int n) => ds ≠ [] ∧ (2 ≤ n ∧ n ≤ 1000) ∧ ds.length ≤ 1000 ∧ k (.dat (.tup (List.replicate n.toNat ds).flatten)) rt2
  | _, _ => False
theorem e_repT : ∀ σ H Q, tE K C U (wRepT wa wb) σ H Q → tOp (rRepT K) (tE K C U wa) (tE K C U wb) σ H Q := fun σ H Q ⟨sl, rt, ρ, fps, G, k, s, xf, w, q⟩ =>
  ⟨sl, rt, ρ, fps, G, _, s, xf, w, fun x rt1 fps1 G1 H1 v r1 n1 v1 w1 => ⟨sl, rt1, ρ, fps1, G1, _, s.step r1 n1 fun _ _ e => e, xf.later n1 (Pre.refl _), w1, fun y rt2 fps2 G2 H2 u r2 n2 v2 w2 => by
    have v1 := v1.up n2 fun _ _ e => e
    split at w2
    · rename_i ds n _
      cases v2
      cases v1 with
      | @tup a xs _ h1 d1 =>
        obtain ⟨w0, w3, w4, w5⟩ := w2
        refine ⟨a, n, xs, rfl, rfl, ex_t r2.sub h1, fun z => w0 ?_, w3.1, w3.2, by rw [d1.len]; exact w4, fun p hp => ?_⟩
        · have := d1.len
          rw [z] at this
          exact List.eq_nil_of_length_eq_zero this.symm
        · exact q (.dat (.tup _)) rt2 fps2 _ _ _ (r2.laid hp) ((n1.trans n2).trans (Nx.laid r2.sub hp _)) (.tup (st_of upd_same) (DRs.up (Ex.new (fresh_back r2.sub hp)) _ _ (d1.rep n.toNat))) w5
    · exact w2.elim⟩⟩
theorem we_repT (ha : PE X a (tE X.K C U wa)) (hb : PE X b (tE X.K C U wb)) : PE X (.BinOp a .Mult b pos) (tE X.K C U (wRepT wa wb)) := pe_imp (pe_op op_repT ha hb) e_repT
/-! ### xs.pop(i) -/
def wPop (wo : WE) (w : WA) : WE := fun sl rt k => wo sl rt fun x rt1 => match x with
  | .ref r p => match tat rt1 r p with
    | some (.lst _) => w sl rt1 fun ys rt2 => match ys with
      | [.dat (.int n)] => match tat rt2 r p with
        | some (.lst ts) => (-100000 ≤ n ∧ n ≤ 100000) ∧ ts.all leafT = true ∧ ∃ j d, seqIndex? n ts.length = some j ∧ ts[j]? = some (.dat d) ∧ k (.dat d) (rt2.modify r (T.put (.lst (ts.eraseIdx j)) p))
        | _ => False
      | _ => False
    | _ => False
  | _ => False
theorem TRs.leaves : ∀ {ts : List T} {vs : List V} {fp : List Addr}, TRs K C G H vs ts fp → ts.all leafT = true → fp = [] ∧ ∀ (i : Nat) v, vs[i]? = some v → ∀ H', Ex G H' → ¬ False
  | _, _, _, .nil, _ => ⟨rfl, fun _ _ z => by simp at z⟩
  | _, _, _, .cons h r, l => by
    simp only [List.all_cons, Bool.and_eq_true] at l
    obtain ⟨h1, h2⟩ := TRs.leaves r l.2
    obtain ⟨_, k1, k2⟩ := leaf_ok l.1 h
    refine ⟨by rw [k1, h1]; rfl, fun i v hi => ?_⟩
    cases i with
    | zero => cases Option.some.inj hi; exact k2
    | succ i => exact h2 i v hi
theorem TRs.erase : ∀ {ts : List T} {vs : List V} (j : Nat), TRs K C G H vs ts [] → ts.all leafT = true → TRs K C G H (vs.eraseIdx j) (ts.eraseIdx j) [] := by
  intro ts vs j h l
  suffices ∀ {ts : List T} {vs : List V} {fp : List Addr} (j : Nat), TRs K C G H vs ts fp → ts.all leafT = true → TRs K C G H (vs.eraseIdx j) (ts.eraseIdx j) [] from this j h l
  intro ts
  induction ts with
  | nil =>
    intro vs fp j h _
    cases h
    exact .nil
  | cons t ts ih =>
    intro vs fp j h l
    simp only [List.all_cons, Bool.and_eq_true] at l
    cases h with
    | cons h r =>
      obtain ⟨_, k1, _⟩ := leaf_ok l.1 h
      obtain ⟨k2, _⟩ := TRs.leaves r l.2
      subst k1 k2
      cases j with
      | zero => exact r
      | succ j => exact TRs.cons (fp := []) (fq := []) h (ih j r l.2)
theorem e_pop {wo : WE} {w : WA} : ∀ σ H Q, tE K C U (wPop wo w) σ H Q → tBM K "list" rPopAt (tE K C U wo) (tA K C U w) σ H Q := fun σ H Q ⟨sl, rt, ρ, fps, G, k, s, xf, w, q⟩ =>
  ⟨sl, rt, ρ, fps, G, _, s, xf, w, fun x rt1 fps1 G1 H1 v r1 n1 v1 w1 => by
    split at w1
    · rename_i r p
      split at w1
      · rename_i ts0 ht0
        obtain ⟨a, fu, k1, k2, k3, _⟩ := r1.get ht0 v1
        cases k3 with
        | @lst b xs0 _ fq0 hb0 tr0 =>
          refine ⟨.inl ⟨rfl, xs0, sq_of hb0⟩, sl, rt1, ρ, fps1, G1, _, s.step r1 n1 fun _ _ e => e, xf.later n1 (Pre.refl _), w1, fun ys rt2 fps2 G2 H2 vs r2 n2 vv w2 => ?_⟩
          have v2 := v1.up n2 fun _ _ e => e
          split at w2
          · rename_i n
            split at w2
            · rename_i ts ht
              obtain ⟨hn, hl, j, d, hj, hd, w2⟩ := w2
              obtain ⟨a', fu, z1, z2, z3, _⟩ := r2.get ht v2
              cases z3 with
              | @lst _ xs _ fq hb tr =>
                obtain ⟨e0, lv⟩ := tr.leaves hl
                subst e0
                have idn : Idn H2 (upd H2 b (.lst (xs.eraseIdx j))) := idn_lst hb fun i q hq hn => absurd hn (lv i q hq _ r2.sub)
                obtain ⟨fps3, r3, mem, hbF⟩ := r2.write (t' := .lst (ts.eraseIdx j)) (fn := []) ht z1 z2 (by intro d q; cases q) idn (fun fu hfu => by
                  cases hfu with
                  | @lst _ xs' _ fq' hb' tr' =>
                    rw [hb] at hb'
                    cases hb'
                    obtain ⟨e1, _⟩ := tr'.leaves hl
                    subst e1
                    refine ⟨List.mem_cons_self, fun nd dis => ⟨[b], .lst upd_same ?_, by simp⟩⟩
                    exact (TRs.stay (Ex.refl _) _ _ _ tr' fun q hq => nomatch hq).erase j hl) List.nodup_nil (fun _ q => nomatch q) (fun _ q => nomatch q)
                cases vv with
                | cons va vr =>
                  cases vr
                  cases va
                  obtain ⟨y, fy, y1, y2, _⟩ := tr.get hd
                  refine ⟨b, xs, n, j, y, rfl, rfl, hb, by omega, by omega, by rw [TRs.len tr]; exact hj, y1, ?_⟩
                  have nW : Nx fps2.flatten G2 H2 G2 (upd H2 b (.lst (xs.eraseIdx j))) fps2.flatten := Nx.write (fps' := fps2) hbF (by rw [hb]; exact fun q => nomatch q) idn (fp := []) (fun _ q => nomatch q)
                  have n5 : Nx fps.flatten G H G2 (upd H2 b (.lst (xs.eraseIdx j))) fps3.flatten := ((n1.trans n2).trans nW).less fun l hl => by
                    rcases mem l hl with q | q
                    · exact q
                    · cases q
                  cases y2 with
                  | dat y2 => exact q (.dat d) _ fps3 G2 _ _ r3 n5 y2 w2
            · exact w2.elim
          · exact w2.elim
      · exact w1.elim
    · exact w1.elim⟩
theorem we_pop {wo : WE} {w : WA} (h : PE X e (tBM K "list" rPopAt (tE K C U wo) (tA K C U w))) : PE X e (tE K C U (wPop wo w)) := pe_imp h e_pop
end
end Wv
end

section
set_option Elab.async false
set_option linter.all false
set_option maxRecDepth 100000
set_option maxHeartbeats 4000000
namespace Wv
open PySem PySem.Spec PyProof.Rows L2 Evl
section
variable {K : PySem.W.Frag} {C : Cs} {U : UX} {G H G' H' G1 H1 G2 H2 : Hp} {sl sl' : Slots} {rt rt' : Roots} {σ : L2.St} {ρ ρ' ρ1 : List Addr} {fps fps' fps1 : List (List Addr)}
variable {X : Cx} {CX : CXT} {a b c e o : Expr} {es rest : List Expr} {wa wb wc : WE} {pos p apos cpos : Pos} {Z : WEnds} {E : L2.St → XK} {st : Stmt} {k : Nat} {f Ca : Addr} {fd : FuncData} {ps : List Str} {sp : Sp} {x m name : Str} {ta to : TE} {t : TA} {ds : List Value}
/-! ### a leaf becomes a tree -/
theorem TRs.setT : ∀ {ts : List T} {vs : List V} {fp fq : List Addr} {j : Nat} {u t : T} {v : V}, TRs K C G H vs ts fp → ts[j]? = some u → leafT u = true → TR K C G H v t fq → ∃ fp', TRs K C G H (vs.set j v) (ts.set j t) fp' ∧ fp'.Perm (fp ++ fq)
  | _, _, _, _, _, _, _, _, .nil, e, _, _ => by simp at e
  | _, _, _, fq, 0, _, _, _, .cons (fp := fp) (fq := fr) h r, e, l, d => by
    cases Option.some.inj e
    obtain ⟨_, hf, _⟩ := leaf_ok l h
    subst hf
    exact ⟨_, .cons d r, by simpa using List.perm_append_comm⟩
  | _, _, _, _, j + 1, _, _, _, .cons (fp := fp) h r, e, l, d => by
    obtain ⟨fp', t1, t2⟩ := TRs.setT (j := j) r e l d
    exact ⟨_, .cons h t1, by rw [List.append_assoc]; exact List.Perm.append_left fp t2⟩
def wSetFT (F : Nat → Option Nat) (w : WO) (wx : WE) : WS := fun Z sl rt => w ⟨sl, Z.ex⟩ rt fun t rt1 => wx ⟨sl, Z.ex⟩ rt1 fun x rt2 => match x with
  | .ref r p => match tat rt2 r p with
    | some (.obj c ts) => match F c with
      | some i => ts.length < 900 ∧ ∃ u, ts[i]? = some u ∧ leafT u = true ∧ Z.nx sl (rt2.modify r (T.put (.obj c (ts.set i t)) p))
      | none => False
    | _ => False
  | _ => False
theorem s_setFT {F : Nat → Option Nat} {f : Str} (hF : FOk K C F f) {w : WO} {wx : WE} : ∀ D σ H, tS K C U (wSetFT F w wx) D σ H → sFld K (tE K C U wx) (tO K C U w) f D σ H := fun D σ H ⟨Z, sl, rt, ρ, fps, G, s, w, fn⟩ =>
  ⟨⟨sl, Z.ex⟩, rt, ρ, fps, G, _, s, fn.xf, w, fun t rt1 fps1 fp G1 H1 y r1 n1 o1 new w1 => ⟨⟨sl, Z.ex⟩, rt1, ρ, fps1, G1, _, s.step r1 n1 fun _ _ e => e, fn.xf.later n1 (Pre.refl _), w1, fun x rt2 fps2 G2 H2 v r2 n2 v2 w2 => by
    split at w2
    · rename_i r p
      split at w2
      · rename_i c ts ht
        split at w2
        · rename_i i hi
          obtain ⟨f1, f2, f3, f4⟩ := hF _ _ hi
          obtain ⟨a, fu, z1, z2, z3, _⟩ := r2.get ht v2
          have o2 := o1.past n2
          cases z3 with
          | @obj b dx fs _ _ fq hb nm tr =>
            have hlen : fs.length = ts.length := by
              have := TRs.len tr
              simpa using this
            obtain ⟨w0, w2⟩ := w2
            refine ⟨b, _, dx, fs, rfl, hb, f1, f2, by omega, ?_⟩
            obtain ⟨u, hu, hlf, w2⟩ := w2
            have hi2 : i < fs.length := by rw [hlen]; exact (List.getElem?_eq_some_iff.mp hu).1
            have e0 : putF f y fs = fs.set i (f, y) := putF_old nm f4 f3 hi2
            rw [e0]
            obtain ⟨vo, fo, q1, q2, _⟩ := tr.get hu
            have ms : (fs.set i (f, y)).map Prod.snd = (fs.map Prod.snd).set i y := by rw [List.map_set]
            have mf : (fs.set i (f, y)).map Prod.fst = (C.ly c).take (fs.set i (f, y)).length := by
              rw [List.map_set, nm, List.length_set]
              refine List.ext_getElem? fun j => ?_
              rw [List.getElem?_set]
              split
              · rename_i e
                subst e
                split
                · rw [List.getElem?_take_of_lt hi2, f3]
                · rename_i h
                  exfalso
                  rw [List.length_take] at h
                  have := (List.getElem?_eq_some_iff.mp f3).1
                  omega
              · rfl
            have idn : Idn H2 (upd H2 b (.ins (C.at_ c) dx (fs.set i (f, y)))) := idn_ins hb fun j q hq nq => by
              rw [ms]
              by_cases z : i = j
              · subst z
                rw [q1] at hq
                cases hq
                exact absurd nq ((leaf_ok hlf q2).2.2 _ r2.sub)
              · rw [List.getElem?_set_ne z]
                exact hq
            obtain ⟨fps3, r3, mem, hbF⟩ := r2.write (t' := .obj c (ts.set i t)) (fn := fp) ht z1 z2 (by intro d q; cases q) idn (fun fu hfu => by
              cases hfu with
              | @obj _ dx' fs' _ _ fq' hb' nm' tr' =>
                rw [hb] at hb'
                cases hb'
                refine ⟨List.mem_cons_self, fun nd dis => ?_⟩
                have nb := (List.nodup_cons.mp nd).1
                obtain ⟨fp', t1, t2⟩ := TRs.setT (TRs.stay (Ex.refl _) _ _ _ tr' fun q hq => upd_ne fun z => nb (by rw [← z]; exact hq)) hu hlf (TR.stay (H' := upd H2 b (.ins (C.at_ c) dx (fs.set i (f, y)))) (Ex.refl _) _ _ _ o2.tr fun q hq => upd_ne fun z => dis q hq (by rw [z]; exact List.mem_cons_self))
                refine ⟨b :: fp', .obj upd_same mf ?_, List.Perm.cons b t2⟩
                rw [ms]
                exact t1) o2.nd o2.ap o2.fr
            have nW : Nx fps2.flatten G2 H2 G2 (upd H2 b (.ins (C.at_ c) dx (fs.set i (f, y)))) fps2.flatten := Nx.write (fps' := fps2) hbF (by rw [hb]; exact fun q => nomatch q) idn (fp := []) (fun _ q => nomatch q)
            have n3 := (n1.trans n2).trans nW
            have n4 : Nx fps.flatten G H G2 (upd H2 b (.ins (C.at_ c) dx (fs.set i (f, y)))) fps3.flatten := ⟨n3.g, n3.keep, n3.dom, fun l hl => by
              rcases mem l hl with q | q
              · exact n3.new l q
              · exact new l q, n3.idn⟩
            exact fn.nx sl _ σ ρ fps3 G2 _ (s.step r3 n4 fun _ _ e => e) n4 (Pre.refl _) w2
        · exact w2.elim
      · exact w2.elim
    · exact w2.elim⟩⟩
theorem ws_setFT {F : Nat → Option Nat} {f : Str} (hF : FOk X.K C F f) {w : WO} {wx : WE} {pos' : Pos} (ha : PE X o (tE X.K C U wx)) (hv : PE X e (tO X.K C U w)) (hs : swapsWith e (some (.Attribute o f pos')) pos.line X.env = pure false) : PS X (.Assign [.Attribute o f pos'] e pos) (tS X.K C U (wSetFT F w wx)) :=
  ps_imp (ps_fld ha hv hs) (s_setFT hF)
end
end Wv
end

section
set_option Elab.async false
set_option linter.all false
set_option maxRecDepth 100000
set_option maxHeartbeats 4000000
namespace Wv
open PySem PySem.Spec PyProof.Rows L2 Evl
section
variable {K : PySem.W.Frag} {C : Cs} {U : UX} {G H G' H' G1 H1 G2 H2 : Hp} {sl sl' : Slots} {rt rt' : Roots} {σ : L2.St} {ρ ρ' ρ1 : List Addr} {fps fps' fps1 : List (List Addr)}
variable {X : Cx} {CX : CXT} {a b c e o : Expr} {es rest : List Expr} {wa wb wc : WE} {pos p apos cpos : Pos} {Z : WEnds} {E : L2.St → XK} {st : Stmt} {k : Nat} {f Ca : Addr} {fd : FuncData} {ps : List Str} {sp : Sp} {x m name : Str} {ta to : TE} {t : TA} {ds : List Value}
/-! ### o.f += e -/
def wAugF (F : Nat → Option Nat) (w : WE) (wx : WE) : WS := fun Z sl rt => wx ⟨sl, Z.ex⟩ rt fun x rt1 => match x with
  | .ref r p => match tat rt1 r p with
    | some (.obj c ts) => match F c with
      | some i => ∃ va, ts[i]? = some (.dat (.int va)) ∧ ts.length < 900 ∧ w ⟨sl, Z.ex⟩ rt1 fun y rt2 => rt2 = rt1 ∧ ∃ vb, y = .dat (.int vb) ∧ Z.nx sl (rt1.modify r (T.put (.obj c (ts.set i (.dat (.int (va + vb))))) p))
      | none => False
    | _ => False
  | _ => False
theorem s_augF {F : Nat → Option Nat} {f : Str} (hF : FOk K C F f) {w : WE} {wx : WE} : ∀ D σ H, tS K C U (wAugF F w wx) D σ H → sFldAug K (tE K C U wx) (tE K C U w) rAdd f D σ H := fun D σ H ⟨Z, sl, rt, ρ, fps, G, s, w, fn⟩ =>
  ⟨⟨sl, Z.ex⟩, rt, ρ, fps, G, _, s, fn.xf, w, fun x rt1 fps1 G1 H1 v r1 n1 v1 w1 => by
    split at w1
    · rename_i r p
      split at w1
      · rename_i c ts ht
        split at w1
        · rename_i i hi
          obtain ⟨va, hu, wl, w1⟩ := w1
          obtain ⟨f1, f2, f3, f4⟩ := hF _ _ hi
          obtain ⟨a0, fu0, y1, y2, y3, _⟩ := r1.get ht v1
          cases y3 with
          | @obj b dx0 fs0 _ _ fq0 hb0 nm0 tr0 =>
            obtain ⟨vo0, fo0, u1, u2, _⟩ := tr0.get hu
            have e0 : vo0 = .int va := by
              cases u2 with
              | dat h => cases h; rfl
            subst e0
            refine ⟨b, _, dx0, fs0, _, rfl, hb0, f1, f2, look_at nm0 f4 f3 u1, ⟨sl, Z.ex⟩, rt1, ρ, fps1, G1, _, s.step r1 n1 fun _ _ e => e, fn.xf.later n1 (Pre.refl _), w1, fun yv rt2 fps2 G2 H2 yy r2 n2 vy w2 => ?_⟩
            obtain ⟨e1, vb, rfl, w2⟩ := w2
            subst e1
            cases vy
            have v2 := v1.up n2 fun _ _ e => e
            obtain ⟨a, fu, z1, z2, z3, _⟩ := r2.get ht v2
            cases z3 with
            | @obj _ dx fs _ _ fq hb nm tr =>
              have hlen : fs.length = ts.length := by
                have := TRs.len tr
                simpa using this
              refine ⟨va, vb, rfl, rfl, dx, fs, hb, by omega, ?_⟩
              have hi2 : i < fs.length := by rw [hlen]; exact (List.getElem?_eq_some_iff.mp hu).1
              have e0 : putF f (.int (va + vb)) fs = fs.set i (f, .int (va + vb)) := putF_old nm f4 f3 hi2
              rw [e0]
              obtain ⟨vo, fo, q1, q2, _⟩ := tr.get hu
              have ms : (fs.set i (f, .int (va + vb))).map Prod.snd = (fs.map Prod.snd).set i (.int (va + vb)) := by rw [List.map_set]
              have mf : (fs.set i (f, .int (va + vb))).map Prod.fst = (C.ly c).take (fs.set i (f, .int (va + vb))).length := by
                rw [List.map_set, nm, List.length_set]
                refine List.ext_getElem? fun j => ?_
                rw [List.getElem?_set]
                split
                · rename_i e
                  subst e
                  split
                  · rw [List.getElem?_take_of_lt hi2, f3]
                  · rename_i h
                    exfalso
                    rw [List.length_take] at h
                    have := (List.getElem?_eq_some_iff.mp f3).1
                    omega
                · rfl
              have idn : Idn H2 (upd H2 b (.ins (C.at_ c) dx (fs.set i (f, .int (va + vb))))) := idn_ins hb fun j q hq nq => by
                rw [ms]
                by_cases z : i = j
                · subst z
                  rw [q1] at hq
                  cases hq
                  exact absurd nq ((leaf_ok (t := .dat (.int va)) rfl q2).2.2 _ r2.sub)
                · rw [List.getElem?_set_ne z]
                  exact hq
              obtain ⟨fps3, r3, mem, hbF⟩ := r2.write (t' := .obj c (ts.set i (.dat (.int (va + vb))))) (fn := []) ht z1 z2 (by intro d q; cases q) idn (fun fu hfu => by
                cases hfu with
                | @obj _ dx' fs' _ _ fq' hb' nm' tr' =>
                  rw [hb] at hb'
                  cases hb'
                  refine ⟨List.mem_cons_self, fun nd dis => ?_⟩
                  have nb := (List.nodup_cons.mp nd).1
                  refine ⟨b :: fq', .obj upd_same mf ?_, by rw [List.append_nil]⟩
                  rw [ms]
                  exact TRs.set (TRs.stay (Ex.refl _) _ _ _ tr' fun q hq => upd_ne fun z => nb (by rw [← z]; exact hq)) hu rfl (DR.int _)) List.nodup_nil (fun _ q => nomatch q) (fun _ q => nomatch q)
              have nW : Nx fps2.flatten G2 H2 G2 (upd H2 b (.ins (C.at_ c) dx (fs.set i (f, .int (va + vb))))) fps2.flatten := Nx.write (fps' := fps2) hbF (by rw [hb]; exact fun q => nomatch q) idn (fp := []) (fun _ q => nomatch q)
              have n3 := (n1.trans n2).trans nW
              have n4 : Nx fps.flatten G H G2 (upd H2 b (.ins (C.at_ c) dx (fs.set i (f, .int (va + vb))))) fps3.flatten := n3.less fun l hl => by
                rcases mem l hl with q | q
                · exact q
                · cases q
              exact fn.nx sl _ σ ρ fps3 G2 _ (s.step r3 n4 fun _ _ e => e) n4 (Pre.refl _) w2
        · exact w1.elim
      · exact w1.elim
    · exact w1.elim⟩
theorem ws_augF {F : Nat → Option Nat} {f : Str} (hF : FOk X.K C F f) {w : WE} {wx : WE} {tpos : Pos} (ha : PE X o (tE X.K C U wx)) (hv : PE X e (tE X.K C U w)) : PS X (.AugAssign (.Attribute o f tpos) .Add e pos) (tS X.K C U (wAugF F w wx)) :=
  ps_imp (ps_fldaug ha hv in_add) (s_augF hF)
/-! ### == of lists that are owned, too -/
def valPy (x : Val) (rt : Roots) : Option PyData := match x with
  | .dat d => d.py
  | .ref r p => match listOf (.ref r p) rt with
    | some ds => (D.pys ds).map .list
    | none => none
theorem RSt.valPy (s : RSt K C rt ρ fps G H) {x : Val} {v : V} {d : PyData} (h : valPy x rt = some d) (hv : VR K C G H ρ x v) : Dp K H v d := by
  unfold Wv.valPy at h
  split at h
  · exact DR.py s.sub _ _ _ hv h
  · split at h
    · rename_i ds e
      obtain ⟨q, hq, rfl⟩ := Option.map_eq_some_iff.mp h
      obtain ⟨a, xs, rfl, k1, k2⟩ := s.listOf e hv
      exact .lst k1 (DRs.py s.sub _ _ _ k2 hq)
    · cases h
def sEqV (neg : Bool) : Sem2 := fun x y rt k => ∃ px py, valPy x rt = some px ∧ valPy y rt = some py ∧ SeqAt.shaped px = true ∧ SeqAt.shaped py = true ∧ k (.bool (if neg then !PyData.eqv px py else PyData.eqv px py))
theorem s_eqV : S2 K C (sEqV false) (fun x y H Q => rEq x y H Q ∨ rEqD K x y H Q) := fun rt ρ fps G H x y v u s a b k Q w q => by
  obtain ⟨px, py, h1, h2, h3, h4, w⟩ := w
  exact .inr ⟨px, py, s.valPy h1 a, s.valPy h2 b, h3, h4, q _ _ w (.bool _)⟩
theorem s_neV : S2 K C (sEqV true) (fun x y H Q => rNe x y H Q ∨ rNeD K x y H Q) := fun rt ρ fps G H x y v u s a b k Q w q => by
  obtain ⟨px, py, h1, h2, h3, h4, w⟩ := w
  exact .inr ⟨px, py, s.valPy h1 a, s.valPy h2 b, h3, h4, q _ _ w (.bool _)⟩
/-! ### an item of a written dict -/
def KTab (K : PySem.W.Frag) (C : Cs) (w : World) (a : Addr) (tb : Str → Option D) : Prop := ∀ z d, tb z = some d → ∃ v, KDct K w a z v ∧ ∀ G, DR K C G v d
def wKD (tb : Str → Option D) (w : WE) : WE := fun sl rt k => w sl rt fun x rt1 => match x with
  | .dat (.str z) => ∃ d, tb z = some d ∧ k (.dat d) rt1
  | _ => False
theorem e_kd {wd : World} {a : Addr} {tb : Str → Option D} (hT : KTab K C wd a tb) {w : WE} : ∀ σ H Q, tE K C U (wKD tb w) σ H Q → tOp (rIxD K wd) (tC (.ref a)) (tE K C U w) σ H Q := fun σ H Q ⟨sl, rt, ρ, fps, G, k, s, xf, w, q⟩ =>
  ⟨sl, rt, ρ, fps, G, _, s, xf, w, fun x rt1 fps1 G1 H1 v r1 n1 v1 w1 => by
    split at w1
    · obtain ⟨d, hd, w1⟩ := w1
      cases v1
      obtain ⟨u, h1, h2⟩ := hT _ _ hd
      exact ⟨a, _, u, rfl, rfl, h1, q (.dat d) rt1 fps1 G1 H1 _ r1 n1 (h2 _) w1⟩
    · exact w1.elim⟩
theorem we_kd {a : Addr} {tb : Str → Option D} (hT : KTab X.K C X.w a tb) {w : WE} (h : PE X e (tOp (rIxD X.K X.w) (tC (.ref a)) (tE X.K C U w))) : PE X e (tE X.K C U (wKD tb w)) := pe_imp h (e_kd hT)
end
end Wv
end

section
set_option Elab.async false
set_option linter.all false
set_option maxRecDepth 100000
set_option maxHeartbeats 4000000
namespace Wv
open PySem PySem.Spec PyProof.Rows L2 Evl
section
variable {K : PySem.W.Frag} {C : Cs} {U : UX} {X : Cx} {st : Stmt}
/-! ### a, b, c = e, f, g -/
def wPar3 (i j l : Nat) (w : WA) : WS := fun Z sl rt => w ⟨sl, Z.ex⟩ rt fun xs rt1 => match xs with
  | [x, y, z] => Z.nx (((sl.set i (some x)).set j (some y)).set l (some z)) rt1
  | _ => False
theorem s_par3 {i j l : Nat} {w : WA} : ∀ D σ H, tS K C U (wPar3 i j l w) D σ H → tPar3 i j l (tA K C U w) D σ H := fun D σ H ⟨Z, sl, rt, ρ, fps, G, s, w, f⟩ =>
  ⟨⟨sl, Z.ex⟩, rt, ρ, fps, G, _, s, f.xf, w, fun xs rt1 fps1 G1 H1 vs r1 n1 v1 w1 => by
    split at w1
    · cases v1 with
      | cons a r =>
        cases r with
        | cons b r =>
          cases r with
          | cons c r =>
            cases r
            exact ⟨_, _, _, rfl, f.nx _ _ _ ρ fps1 G1 H1 ((((s.step r1 n1 fun _ _ e => e).set a).set b).set c) n1 (Pre.refl _) w1⟩
    · exact w1.elim⟩
theorem ws_par3 {i j l : Nat} {w : WA} (h : PS X st (tPar3 i j l (tA K C U w))) : PS X st (tS K C U (wPar3 i j l w)) := ps_imp h s_par3
end
end Wv
end

section
set_option linter.all false
set_option maxRecDepth 100000
namespace Wv
open PySem PySem.Spec PyProof.Rows L2 Evl
section
variable {K : PySem.W.Frag} {w : World}
/-! ### what the program's top has written: tuples, dicts -/
def vchk : List Value → List V → Bool
  | [], [] => true
  | .str x _ :: us, .str s :: ss => decide (x = s) && vchk us ss
  | .int x _ :: us, .int s :: ss => decide (x = s) && vchk us ss
  | .ref x :: us, .ref s :: ss => decide (x = s) && vchk us ss
  | .bool x :: us, .bl s :: ss => decide (x = s) && vchk us ss
  | .none :: us, .non :: ss => vchk us ss
  | _, _ => false
theorem vchk_ok : ∀ {us : List Value} {ss : List V}, vchk us ss = true → Vals ss us
  | [], [], _ => .nil
  | .str x t :: us, .str s :: ss, h => by
    have h' : (decide (x = s) && vchk us ss) = true := h
    rw [Bool.and_eq_true] at h'
    have e := of_decide_eq_true h'.1
    subst e
    exact .cons ⟨t, rfl⟩ (vchk_ok h'.2)
  | .int x t :: us, .int s :: ss, h => by
    have h' : (decide (x = s) && vchk us ss) = true := h
    rw [Bool.and_eq_true] at h'
    have e := of_decide_eq_true h'.1
    subst e
    exact .cons ⟨t, rfl⟩ (vchk_ok h'.2)
  | .ref x :: us, .ref s :: ss, h => by
    have h' : (decide (x = s) && vchk us ss) = true := h
    rw [Bool.and_eq_true] at h'
    have e := of_decide_eq_true h'.1
    subst e
    exact .cons rfl (vchk_ok h'.2)
  | .bool x :: us, .bl s :: ss, h => by
    have h' : (decide (x = s) && vchk us ss) = true := h
    rw [Bool.and_eq_true] at h'
    have e := of_decide_eq_true h'.1
    subst e
    exact .cons rfl (vchk_ok h'.2)
  | .none :: us, .non :: ss, h => .cons rfl (vchk_ok (show vchk us ss = true from h))
theorem dr_tup {a : Addr} {od : Option Addr} {its : Array Value} {n : Nat} {sl : Array (Option Value)} {vs : List V} {ds : List D} (l : K.lookup a = some ⟨.type "tuple", od, .seq its n, sl⟩) (h : vchk its.toList vs = true) (hz : vs.length ≤ 100000) (r : ∀ (C : Cs) (G : Hp), DRs K C G vs ds) : ∀ (C : Cs) (G : Hp), DR K C G (.ref a) (.tup ds) := fun C G => by
  have v := vchk_ok h
  refine .tup (.inr ⟨_, its, n, l, rfl, rfl, ?_, v⟩) (r C G)
  have e := v.length
  exact sz_of (by rw [← Array.length_toList, ← e]; exact hz)
def KRows (K : PySem.W.Frag) (C : Cs) (w : World) (a : Addr) (rows : List (Str × D)) : Prop := ∀ z d, (z, d) ∈ rows → ∃ v, KDct K w a z v ∧ ∀ G, DR K C G v d
theorem krow_nil {C : Cs} {a : Addr} : KRows K C w a [] := fun _ _ h => (nomatch h)
theorem krow_cons {C : Cs} {a : Addr} {z : Str} {d : D} {rows : List (Str × D)} {v : V} {u : Value} {es : Array DictEntry} {n : Nat} (l : K.lookup a = some ⟨.type "dict", none, .dict es n, #[]⟩) (k : PySem.W.KeysLit w.params es.toList) (e : PySem.W.nsIn K a z = some (some u)) (r : RelV v u) (hd : ∀ G, DR K C G v d)
    (t : KRows K C w a rows) : KRows K C w a ((z, d) :: rows) := fun z' d' h => by
  rcases List.mem_cons.mp h with h | h
  · cases h
    exact ⟨v, ⟨es, n, u, l, k, e, r⟩, hd⟩
  · exact t _ _ h
theorem lookup_mem {α β : Type} [BEq α] [LawfulBEq α] : ∀ {l : List (α × β)} {x : α} {y : β}, l.lookup x = some y → (x, y) ∈ l
  | (a, b) :: l, x, y, h => by
    rw [List.lookup_cons] at h
    split at h
    · rename_i e
      have e := eq_of_beq e
      subst e
      cases h
      exact List.mem_cons_self
    · exact List.mem_cons_of_mem _ (lookup_mem h)
theorem ktab {C : Cs} {a : Addr} {rows : List (Str × D)} (h : KRows K C w a rows) : KTab K C w a fun z => List.lookup z rows := fun z d e => h z d (lookup_mem e)
end
end Wv
end

section
set_option Elab.async false
set_option linter.all false
set_option maxRecDepth 100000
set_option maxHeartbeats 4000000
namespace Wv
open PySem PySem.Spec PyProof.Rows L2 Evl
section
variable {K : PySem.W.Frag} {C : Cs} {U : UX} {G H G' H' G1 H1 G2 H2 : Hp} {sl sl' : Slots} {rt rt' : Roots} {σ : L2.St} {ρ ρ' ρ1 : List Addr} {fps fps' fps1 : List (List Addr)}
variable {X : Cx} {CX : CXT} {a b c e o i value : Expr} {es rest : List Expr} {wa wb wc : WE} {pos p apos cpos pos' : Pos} {Z : WEnds} {E : L2.St → XK} {st : Stmt} {k : Nat} {f Ca : Addr} {fd : FuncData} {ps : List Str} {sp : Sp} {x m name : Str} {ta to : TE} {t : TA} {ds : List Value}
/-! ### dicts whose keys are ints and texts -/
def D.key : D → Option Key
  | .int i => some (.inl i)
  | .str s => some (.inr s)
  | _ => none
theorem key_ok {d : D} {v : V} {q : Key} (h : D.key d = some q) (r : DR K C G v d) : v = kV q := by
  unfold D.key at h
  split at h
  · cases h; cases r; rfl
  · cases h; cases r; rfl
  · cases h
def kat : List Key → Key → Option Nat
  | [], _ => none
  | a :: l, q => if a = q then some 0 else (kat l q).map (· + 1)
theorem kat_val {q : Key} : ∀ {kvs : List (Key × V)} {j : Nat} {v : V}, kat (kvs.map Prod.fst) q = some j → (kvs.map Prod.snd)[j]? = some v → valV kvs q = some v
  | [], _, _, h, _ => by cases h
  | (a, u) :: kvs, j, v, h, hv => by
    have h : (if a = q then some 0 else (kat (kvs.map Prod.fst) q).map (· + 1)) = some j := h
    by_cases e : a = q
    · rw [if_pos e] at h
      cases h
      rw [valV_pos e]
      exact hv
    · rw [if_neg e] at h
      obtain ⟨j', h1, rfl⟩ := Option.map_eq_some_iff.mp h
      rw [valV_neg e]
      exact kat_val h1 (by simpa using hv)
theorem kat_none {q : Key} : ∀ {kvs : List (Key × V)}, kat (kvs.map Prod.fst) q = none → valV kvs q = none
  | [], _ => valV_nil
  | (a, u) :: kvs, h => by
    have h : (if a = q then some 0 else (kat (kvs.map Prod.fst) q).map (· + 1)) = none := h
    by_cases e : a = q
    · rw [if_pos e] at h
      cases h
    · rw [if_neg e] at h
      rw [valV_neg e]
      exact kat_none (Option.map_eq_none_iff.mp h)
theorem kat_lt {q : Key} : ∀ {ks : List Key} {j : Nat}, kat ks q = some j → ks[j]? = some q
  | [], _, h => by cases h
  | a :: ks, j, h => by
    have h : (if a = q then some 0 else (kat ks q).map (· + 1)) = some j := h
    by_cases e : a = q
    · rw [if_pos e] at h
      cases h
      rw [e]
      rfl
    · rw [if_neg e] at h
      obtain ⟨j', h1, rfl⟩ := Option.map_eq_some_iff.mp h
      have := kat_lt h1
      simpa using this
/-- d[k] -/
def wKey (wa wb : WE) : WE := fun sl rt k => wa sl rt fun x rt1 => wb sl rt1 fun y rt2 => match y with
  | .dat d => match D.key d with
    | some q => match x with
      | .ref r p => match tat rt2 r p with
        | some (.dct ks ts) => ∃ j u, kat ks q = some j ∧ ts[j]? = some u ∧ (match u with | .dat d => k (.dat d) rt2 | _ => False)
        | _ => False
      | .dat (.dct ks ds) => ∃ j u, kat ks q = some j ∧ ds[j]? = some u ∧ k (.dat u) rt2
      | _ => False
    | none => False
  | _ => False
theorem e_key : ∀ σ H Q, tE K C U (wKey wa wb) σ H Q → tDGet (tE K C U wa) (tE K C U wb) σ H Q := fun σ H Q ⟨sl, rt, ρ, fps, G, k, s, xf, w, q⟩ =>
  ⟨sl, rt, ρ, fps, G, _, s, xf, w, fun x rt1 fps1 G1 H1 v r1 n1 v1 w1 => ⟨sl, rt1, ρ, fps1, G1, _, s.step r1 n1 fun _ _ e => e, xf.later n1 (Pre.refl _), w1, fun y rt2 fps2 G2 H2 u r2 n2 v2 w2 => by
    have v1 := v1.up n2 fun _ _ e => e
    split at w2
    · rename_i d
      split at w2
      · rename_i kq hq
        obtain rfl := key_ok hq v2
        split at w2
        · rename_i r p
          split at w2
          · rename_i ks ts ht
            obtain ⟨j, t, hj, hu, w2⟩ := w2
            obtain ⟨a, fu, k1, k2, k3, _⟩ := r2.get ht v1
            cases k3 with
            | dct h n tr =>
              subst n
              obtain ⟨z, fz, z1, z2, _⟩ := tr.get hu
              split at w2
              · exact ⟨_, z, rfl, by rw [← kat_val hj z1]; exact DGet.k h, q _ rt2 fps2 G2 H2 z r2 (n1.trans n2) (VR.ofD z2) w2⟩
              · exact w2.elim
          · exact w2.elim
        · rename_i ks ds
          obtain ⟨j, t, hj, hu, w2⟩ := w2
          cases v1 with
          | dct h n tr =>
            subst n
            obtain ⟨z, z1, z2⟩ := tr.get hu
            exact ⟨_, z, rfl, by rw [← kat_val hj z1]; exact DGet.k (r2.sub _ _ h), q (.dat _) rt2 fps2 G2 H2 z r2 (n1.trans n2) z2 w2⟩
        · exact w2.elim
      · exact w2.elim
    · exact w2.elim⟩⟩
theorem we_key (hu : X.A.units + 1 < cLine) (ha : PE X a (tE K C U wa)) (hb : PE X b (tE K C U wb)) (hs : NoSl b) : PE X (.Subscript a b pos) (tE K C U (wKey wa wb)) := pe_imp (pe_dget hu ha hb hs) e_key
theorem idn_dk {b : Addr} {fs fs' : List (Key × V)} (hb : H b = some (.dK fs)) (k : ∀ (i : Nat) x, (fs.map Prod.snd)[i]? = some x → False → (fs'.map Prod.snd)[i]? = some x) : Idn H (upd H b (.dK fs')) := by
  refine Idn.of (fun w hw => ?_)
  · obtain ⟨a, rfl, h⟩ := hw
    refine ⟨a, rfl, ?_⟩
    by_cases z : a = b
    · exact .inr (.inr ⟨fs', by rw [z, upd_same]⟩)
    · rw [upd_ne z]
      exact h
theorem putK_at {q : Key} {v : V} : ∀ {kvs : List (Key × V)} {j : Nat}, (kvs.map Prod.fst).Nodup → kat (kvs.map Prod.fst) q = some j → (kvs.map fun kv => if kv.1 = q then (kv.1, v) else kv) = kvs.set j (q, v)
  | [], _, _, h => by cases h
  | (a, u) :: kvs, j, nd, h => by
    have h : (if a = q then some 0 else (kat (kvs.map Prod.fst) q).map (· + 1)) = some j := h
    have nd : (a :: kvs.map Prod.fst).Nodup := nd
    rw [List.nodup_cons] at nd
    by_cases e : a = q
    · rw [if_pos e] at h
      cases h
      subst e
      show (if a = a then (a, v) else (a, u)) :: (kvs.map fun kv => if kv.1 = a then (kv.1, v) else kv) = (a, v) :: kvs
      rw [if_pos rfl]
      congr 1
      have : ∀ kv ∈ kvs, (if kv.1 = a then (kv.1, v) else kv) = kv := fun kv hkv => if_neg fun z => nd.1 (by rw [← z]; exact List.mem_map_of_mem (f := Prod.fst) hkv)
      rw [List.map_congr_left this, List.map_id']
    · rw [if_neg e] at h
      obtain ⟨j', h1, rfl⟩ := Option.map_eq_some_iff.mp h
      show (if a = q then (a, v) else (a, u)) :: (kvs.map fun kv => if kv.1 = q then (kv.1, v) else kv) = (a, u) :: kvs.set j' (q, v)
      rw [if_neg e, putK_at nd.2 h1]
theorem putK_old {q : Key} {v : V} {kvs : List (Key × V)} {j : Nat} (nd : (kvs.map Prod.fst).Nodup) (h : kat (kvs.map Prod.fst) q = some j) : putK kvs q v = kvs.set j (q, v) := by
  unfold putK
  have hj : (kvs.map Prod.snd)[j]? ≠ none := fun z => by
    have h1 := (List.getElem?_eq_some_iff.mp (kat_lt h)).1
    rw [List.getElem?_eq_none_iff] at z
    rw [List.length_map] at h1 z
    omega
  obtain ⟨u, hu⟩ := Option.ne_none_iff_exists'.mp hj
  rw [valV_any, kat_val h hu]
  exact putK_at nd h
/-- d[k] = e -/
def wKeySet (w : WO) (wx wk : WE) : WS := fun Z sl rt => w ⟨sl, Z.ex⟩ rt fun t rt1 => wx ⟨sl, Z.ex⟩ rt1 fun x rt2 => wk ⟨sl, Z.ex⟩ rt2 fun y rt3 => match x, y with
  | .ref r p, .dat d => match D.key d with
    | some q => match tat rt3 r p with
      | some (.dct ks ts) => ts.length < 900 ∧ ((∃ j u, kat ks q = some j ∧ ks.Nodup ∧ ts[j]? = some u ∧ leafT u = true ∧ Z.nx sl (rt3.modify r (T.put (.dct ks (ts.set j t)) p))) ∨
          (kat ks q = none ∧ Z.nx sl (rt3.modify r (T.put (.dct (ks ++ [q]) (ts ++ [t])) p))))
      | _ => False
    | none => False
  | _, _ => False
theorem s_keySet {w : WO} {wx wk : WE} : ∀ D σ H, tS K C U (wKeySet w wx wk) D σ H → sDPut (tE K C U wx) (tE K C U wk) (tO K C U w) D σ H := fun D σ H ⟨Z, sl, rt, ρ, fps, G, s, w, fn⟩ =>
  ⟨⟨sl, Z.ex⟩, rt, ρ, fps, G, _, s, fn.xf, w, fun t rt1 fps1 fp G1 H1 y r1 n1 o1 new w1 => ⟨⟨sl, Z.ex⟩, rt1, ρ, fps1, G1, _, s.step r1 n1 fun _ _ e => e, fn.xf.later n1 (Pre.refl _), w1, fun x rt2 fps2 G2 H2 v r2 n2 v2 w2 =>
    ⟨⟨sl, Z.ex⟩, rt2, ρ, fps2, G2, _, s.step r2 (n1.trans n2) fun _ _ e => e, fn.xf.later (n1.trans n2) (Pre.refl _), w2, fun x3 rt3 fps3 G3 H3 v3 r3 n3 v3' w3 => by
    split at w3
    · rename_i r p d
      split at w3
      · rename_i kq hq
        split at w3
        · rename_i ks ts ht
          obtain rfl := key_ok hq v3'
          obtain ⟨a, fu, z1, z2, z3, _⟩ := r3.get ht (v2.up n3 fun _ _ e => e)
          have o2 := (o1.past n2).past n3
          have n23 := n2.trans n3
          cases z3 with
          | @dct b kvs _ _ fq hb nm tr =>
            subst nm
            have hlen : kvs.length = ts.length := by
              have := TRs.len tr
              simpa using this
            obtain ⟨w0, w3⟩ := w3
            have hsz : kvs.length < sizeLine := by rw [sizeLine_eq]; omega
            refine ⟨b, _, rfl, DPut.k hb hsz, ?_⟩
            rcases w3 with ⟨j, u, hj, nd, hu, hlf, w3⟩ | ⟨hj, w3⟩
            · have hi2 : j < kvs.length := by rw [hlen]; exact (List.getElem?_eq_some_iff.mp hu).1
              rw [putK_old nd hj]
              obtain ⟨vo, fo, q1, q2, _⟩ := tr.get hu
              have ms : (kvs.set j (kq, y)).map Prod.snd = (kvs.map Prod.snd).set j y := by rw [List.map_set]
              have mf : (kvs.set j (kq, y)).map Prod.fst = kvs.map Prod.fst := by
                rw [List.map_set]
                refine List.ext_getElem? fun l => ?_
                rw [List.getElem?_set]
                split
                · rename_i e
                  subst e
                  rw [if_pos (by rw [List.length_map]; exact hi2), kat_lt hj]
                · rfl
              have idn : Idn H3 (upd H3 b (.dK (kvs.set j (kq, y)))) := idn_dk hb fun l q hq nq => by
                rw [ms]
                by_cases z : j = l
                · subst z
                  rw [q1] at hq
                  cases hq
                  exact absurd nq ((leaf_ok hlf q2).2.2 _ r3.sub)
                · rw [List.getElem?_set_ne z]
                  exact hq
              obtain ⟨fps4, r4, mem, hbF⟩ := r3.write (t' := .dct (kvs.map Prod.fst) (ts.set j t)) (fn := fp) ht z1 z2 (by intro d q; cases q) idn (fun fu hfu => by
                cases hfu with
                | @dct _ kvs' _ _ fq' hb' nm' tr' =>
                  rw [hb] at hb'
                  cases hb'
                  refine ⟨List.mem_cons_self, fun nd dis => ?_⟩
                  have nb := (List.nodup_cons.mp nd).1
                  obtain ⟨fp', t1, t2⟩ := TRs.setT (TRs.stay (Ex.refl _) _ _ _ tr' fun q hq => upd_ne fun z => nb (by rw [← z]; exact hq)) hu hlf (TR.stay (H' := upd H3 b (.dK (kvs.set j (kq, y)))) (Ex.refl _) _ _ _ o2.tr fun q hq => upd_ne fun z => dis q hq (by rw [z]; exact List.mem_cons_self))
                  refine ⟨b :: fp', .dct upd_same mf ?_, List.Perm.cons b t2⟩
                  rw [ms]
                  exact t1) o2.nd o2.ap o2.fr
              have nW : Nx fps3.flatten G3 H3 G3 (upd H3 b (.dK (kvs.set j (kq, y)))) fps3.flatten := Nx.write (fps' := fps3) hbF (by rw [hb]; exact fun q => nomatch q) idn (fp := []) (fun _ q => nomatch q)
              have n5 := (n1.trans n23).trans nW
              have n4 : Nx fps.flatten G H G3 (upd H3 b (.dK (kvs.set j (kq, y)))) fps4.flatten := ⟨n5.g, n5.keep, n5.dom, fun l hl => by
                rcases mem l hl with q | q
                · exact n5.new l q
                · exact new l q, n5.idn⟩
              exact fn.nx sl _ σ ρ fps4 G3 _ (s.step r4 n4 fun _ _ e => e) n4 (Pre.refl _) w3
            · rw [putK_new y (kat_none hj)]
              have idn : Idn H3 (upd H3 b (.dK (kvs ++ [(kq, y)]))) := idn_dk hb fun l q hq _ => by
                rw [List.map_append, List.getElem?_append_left (List.getElem?_eq_some_iff.mp hq).1]
                exact hq
              obtain ⟨fps4, r4, mem, hbF⟩ := r3.write (t' := .dct (kvs.map Prod.fst ++ [kq]) (ts ++ [t])) (fn := fp) ht z1 z2 (by intro d q; cases q) idn (fun fu hfu => by
                cases hfu with
                | @dct _ kvs' _ _ fq' hb' nm' tr' =>
                  rw [hb] at hb'
                  cases hb'
                  refine ⟨List.mem_cons_self, fun nd dis => ?_⟩
                  have nb := (List.nodup_cons.mp nd).1
                  refine ⟨b :: (fq' ++ (fp ++ [])), .dct upd_same ?_ ?_, ?_⟩
                  · rw [List.map_append]
                    rfl
                  · rw [List.map_append]
                    exact TRs.app (TRs.stay (Ex.refl _) _ _ _ tr' fun q hq => upd_ne fun z => nb (by rw [← z]; exact hq)) (.cons (TR.stay (Ex.refl _) _ _ _ o2.tr fun q hq => upd_ne fun z => dis q hq (by rw [z]; exact List.mem_cons_self)) .nil)
                  · rw [List.append_nil]
                    exact List.Perm.refl _) o2.nd o2.ap o2.fr
              have nW : Nx fps3.flatten G3 H3 G3 (upd H3 b (.dK (kvs ++ [(kq, y)]))) fps3.flatten := Nx.write (fps' := fps3) hbF (by rw [hb]; exact fun q => nomatch q) idn (fp := []) (fun _ q => nomatch q)
              have n5 := (n1.trans n23).trans nW
              have n4 : Nx fps.flatten G H G3 (upd H3 b (.dK (kvs ++ [(kq, y)]))) fps4.flatten := ⟨n5.g, n5.keep, n5.dom, fun l hl => by
                rcases mem l hl with q | q
                · exact n5.new l q
                · exact new l q, n5.idn⟩
              exact fn.nx sl _ σ ρ fps4 G3 _ (s.step r4 n4 fun _ _ e => e) n4 (Pre.refl _) w3
        · exact w3.elim
      · exact w3.elim
    · exact w3.elim⟩⟩⟩
theorem ws_keySet {w : WO} {wx wk : WE} (hu : X.A.units + 1 < cLine) (ho : PE X o (tE K C U wx)) (hi : PE X i (tE K C U wk)) (hv : PE X value (tO K C U w)) (hs : swapsWith value (some (.Subscript o i pos')) pos.line X.env = pure false) :
    PS X (.Assign [.Subscript o i pos'] value pos) (tS K C U (wKeySet w wx wk)) := ps_imp (ps_dput hu ho hi hv hs) s_keySet
/-! ### several new trees; the display of a dict -/
structure Owns (K : PySem.W.Frag) (C : Cs) (fps : List (List Addr)) (G H : Hp) (ts : List T) (vs : List V) (fp : List Addr) : Prop where
  tr : TRs K C G H vs ts fp
  nd : fp.Nodup
  ap : ∀ a ∈ fp, a ∉ fps.flatten
  fr : ∀ a ∈ fp, G a = none
def wOs : List WO → Cxt → Roots → (List T → Roots → Prop) → Prop
  | [], _, rt, k => k [] rt
  | w :: ws, sl, rt, k => w sl rt fun t rt1 => wOs ws sl rt1 fun ts rt2 => k (t :: ts) rt2
theorem TRs.inH {ts : List T} {vs : List V} {fp : List Addr} : TRs K C G H vs ts fp → ∀ a ∈ fp, H a ≠ none := by
  induction ts generalizing vs fp with
  | nil => intro h a ha; cases h; cases ha
  | cons t ts ih =>
    intro h a ha
    cases h with
    | cons h r =>
      rcases List.mem_append.mp ha with z | z
      · exact h.inH a z
      · exact ih r a z
theorem pairs_ok {sl : Cxt} : ∀ {l : List (Key × WO)} {rt : Roots} {fps : List (List Addr)} {G H : Hp} {k : List T → Roots → Prop} {Q : List (V × V) → Hp → Prop}, St K C sl.sl rt σ ρ fps G H → Xf K C U ρ fps G H sl.ex → wOs (l.map Prod.snd) sl rt k →
    (∀ ts rt' fps' fp G' H' vs, RSt K C rt' ρ fps' G' H' → Nx fps.flatten G H G' H' fps'.flatten → Owns K C fps' G' H' ts vs fp → (∀ a ∈ fp, a ∈ fps.flatten ∨ H a = none) → vs.length = l.length → k ts rt' → Q (((l.map Prod.fst).map kV).zip vs) H') →
    tPairs (l.map fun q => (tC (kV q.1), tO K C U q.2)) σ H Q
  | [], rt, fps, G, H, k, Q, s, xf, w, q => q [] rt fps [] G H [] s.toRSt (Nx.refl _ _ _) ⟨.nil, List.nodup_nil, fun _ z => (nomatch z), fun _ z => (nomatch z)⟩ (fun _ z => (nomatch z)) rfl w
  | (kk, wo) :: l, rt, fps, G, H, k, Q, s, xf, w, q => by
    show tO K C U wo σ H _
    refine ⟨sl, rt, ρ, fps, G, _, s, xf, w, fun t rt1 fps1 fp1 G1 H1 v r1 n1 o1 new1 w1 => ?_⟩
    refine pairs_ok (l := l) (s.step r1 n1 fun _ _ e => e) (xf.later n1 (Pre.refl _)) w1 fun ts rt2 fps2 fp2 G2 H2 vs r2 n2 o2 new2 hl w2 => ?_
    have o1' := o1.past n2
    have dis : ∀ a ∈ fp1, a ∉ fp2 := fun a h1 h2 => by
      rcases new2 a h2 with z | z
      · exact o1.ap a h1 z
      · exact o1.inH a h1 z
    refine q (t :: ts) rt2 fps2 (fp1 ++ fp2) G2 H2 (v :: vs) r2 (n1.trans n2) ⟨.cons o1'.tr o2.tr, ?_, ?_, ?_⟩ ?_ (by simp [hl]) w2
    · rw [List.nodup_append]
      exact ⟨o1'.nd, o2.nd, fun a h1 b h2 e => dis a h1 (by rw [e]; exact h2)⟩
    · intro a ha
      rcases List.mem_append.mp ha with z | z
      · exact o1'.ap a z
      · exact o2.ap a z
    · intro a ha
      rcases List.mem_append.mp ha with z | z
      · exact o1'.fr a z
      · exact o2.fr a z
    · intro a ha
      rcases List.mem_append.mp ha with z | z
      · exact new1 a z
      · rcases new2 a z with y | y
        · exact n1.new a y
        · exact .inr (n1.dom a y)
theorem merge_nd : ∀ (kvs acc : List (Key × V)), ((acc ++ kvs).map Prod.fst).Nodup → mergeK acc kvs = acc ++ kvs
  | [], acc, _ => by simp [mergeK]
  | (q, v) :: kvs, acc, nd => by
    have hn : valV acc q = none := by
      cases z : valV acc q with
      | none => rfl
      | some u =>
        exfalso
        have h1 := valV_any q acc
        rw [z] at h1
        have h1 : (acc.any fun kv => decide (kv.1 = q)) = true := h1
        obtain ⟨kv, h2, h3⟩ := List.any_eq_true.mp h1
        have h3 := of_decide_eq_true h3
        rw [List.map_append, List.nodup_append] at nd
        exact nd.2.2 kv.1 (List.mem_map_of_mem (f := Prod.fst) h2) q (by simp) h3
    show mergeK (putK acc q v) kvs = _
    rw [putK_new v hn, merge_nd kvs (acc ++ [(q, v)]) (by rw [List.append_assoc]; exact nd), List.append_assoc]
    rfl
/-- {'a': e, ..} -/
def wDisp (l : List (Key × WO)) : WO := fun sl rt k => (l.map Prod.fst).Nodup ∧ l.length ≤ 15 ∧ wOs (l.map Prod.snd) sl rt fun ts rt1 => k (.dct (l.map Prod.fst) ts) rt1
theorem zip_snd {α β : Type} : ∀ {as : List α} {bs : List β}, bs.length = as.length → (as.zip bs).map Prod.snd = bs
  | [], [], _ => rfl
  | a :: as, b :: bs, h => by
    show b :: (as.zip bs).map Prod.snd = _
    rw [zip_snd (by simpa using h)]
  | [], _ :: _, h => by cases h
  | _ :: _, [], h => by cases h
theorem zip_fst {α β : Type} : ∀ {as : List α} {bs : List β}, bs.length = as.length → (as.zip bs).map Prod.fst = as
  | [], [], _ => rfl
  | a :: as, b :: bs, h => by
    show a :: (as.zip bs).map Prod.fst = _
    rw [zip_fst (by simpa using h)]
  | [], _ :: _, h => by cases h
  | _ :: _, [], h => by cases h
theorem zip_kV : ∀ {as : List Key} {bs : List V}, (as.map kV).zip bs = (as.zip bs).map fun kv => (kV kv.1, kv.2)
  | [], _ => rfl
  | _ :: _, [] => rfl
  | a :: as, b :: bs => by
    show (kV a, b) :: (as.map kV).zip bs = (kV a, b) :: (as.zip bs).map fun kv => (kV kv.1, kv.2)
    rw [zip_kV]
theorem o_disp {l : List (Key × WO)} : ∀ σ H Q, tO K C U (wDisp l) σ H Q → tDisp (l.map fun q => (tC (kV q.1), tO K C U q.2)) σ H Q := fun σ H Q ⟨sl, rt, ρ, fps, G, k, s, xf, ⟨nd, h15, w⟩, q⟩ p hp => by
  have n0 : Nx fps.flatten G H G (upd H p (.dK [])) fps.flatten := Nx.grow hp
  have r0 : RSt K C rt ρ fps G (upd H p (.dK [])) := s.toRSt.grow (Ex.new hp)
  have pn : p ∉ fps.flatten := fun z => s.root.inH p z hp
  refine pairs_ok (s.step r0 n0 fun _ _ e => e) (xf.later n0 (Pre.refl _)) w fun ts rt' fps' fp G' H' vs r' n' o' new hl w' => ?_
  have hpk := n'.keep p (.dK []) upd_same pn
  have hp2 : H' p = some (.dK []) := hpk.1
  have hG0 : G p = none := by
    cases z : G p with
    | none => rfl
    | some o => have := s.sub p o z; rw [hp] at this; cases this
  have hG : G' p = none := hpk.2 hG0
  have pf : p ∉ fp := fun z => by
    rcases new p z with y | y
    · exact pn y
    · rw [upd_same] at y; cases y
  have pf' : p ∉ fps'.flatten := fun z => by
    rcases n'.new p z with y | y
    · exact pn y
    · rw [upd_same] at y; cases y
  refine ⟨hp2, (l.map Prod.fst).zip vs, zip_kV, by rw [List.length_zip, List.length_map]; exact Nat.le_trans (Nat.min_le_left _ _) h15, ?_⟩
  have e1 : ((l.map Prod.fst).zip vs).map Prod.fst = l.map Prod.fst := zip_fst (by rw [hl, List.length_map])
  have e2 : ((l.map Prod.fst).zip vs).map Prod.snd = vs := zip_snd (by rw [hl, List.length_map])
  rw [merge_nd _ [] (by rw [List.nil_append, e1]; exact nd), List.nil_append]
  have idn : Idn H' (upd H' p (.dK ((l.map Prod.fst).zip vs))) := idn_dk hp2 fun i x h _ => by simp at h
  refine q _ rt' fps' (p :: fp) G' _ (.ref p) ⟨fun a o e => ?_, Rts.stay (Ex.refl _) r'.root fun a ha => upd_ne fun z => pf' (by rw [← z]; exact ha), r'.nd, r'.fr⟩ ⟨n'.g, fun a o h na => ?_, fun a h => upd_none (n'.dom a (upd_none h)), fun a h => ?_, ((idn_new hp).trans n'.idn).trans idn⟩
    ⟨.dct upd_same e1 (by rw [e2]; exact TRs.stay (Ex.refl _) _ _ _ o'.tr fun a ha => upd_ne fun z => pf (by rw [← z]; exact ha)), List.nodup_cons.mpr ⟨pf, o'.nd⟩, fun a ha => ?_, fun a ha => ?_⟩ (fun a ha => ?_) w'
  · have z : a ≠ p := fun z => by rw [z, hG] at e; cases e
    rw [upd_ne z]
    exact r'.sub a o e
  · have z : a ≠ p := fun z => by rw [z, hp] at h; cases h
    obtain ⟨k1, k2⟩ := n'.keep a o (by rw [upd_ne z]; exact h) na
    exact ⟨by rw [upd_ne z]; exact k1, k2⟩
  · rcases n'.new a h with y | y
    · exact .inl y
    · exact .inr (upd_none y)
  · rcases List.mem_cons.mp ha with z | z
    · rw [z]; exact pf'
    · exact o'.ap a z
  · rcases List.mem_cons.mp ha with z | z
    · rw [z]; exact hG
    · exact o'.fr a z
  · rcases List.mem_cons.mp ha with z | z
    · rw [z]; exact .inr hp
    · rcases new a z with y | y
      · exact .inl y
      · exact .inr (upd_none y)
theorem wo_disp {keys : List (Option Expr)} {values : List Expr} {l : List (Key × WO)} (h : PPs X pos keys values (l.map fun q => (tC (kV q.1), tO K C U q.2))) (hall : keys.all (·.isSome) = true) (hl : keys.length = values.length) (h0 : keys ≠ []) (h15 : keys.length ≤ 15) :
    PE X (.Dict keys values pos) (tO K C U (wDisp l)) := pe_imp (pe_disp h hall hl h0 h15) o_disp
/-! ### what a name owns goes into something new -/
def wMv (wa : WE) : WO := fun sl rt k => wa sl rt fun x rt1 => match x with
  | .dat d => k (.dat d) rt1
  | .ref r [] => match rt1[r]? with
    | some t => k t (rt1.set r (.dat .any))
    | none => False
  | _ => False
theorem o_mv : ∀ σ H Q, tO K C U (wMv wa) σ H Q → tE K C U wa σ H Q := fun σ H Q ⟨sl, rt, ρ, fps, G, k, s, xf, w, q⟩ =>
  ⟨sl, rt, ρ, fps, G, _, s, xf, w, fun x rt1 fps1 G1 H1 v r1 n1 v1 w1 => by
    split at w1
    · exact q (.dat _) rt1 fps1 [] G1 H1 v r1 n1 (Own.dat v1) (fun _ z => nomatch z) w1
    · rename_i r
      split at w1
      · rename_i t ht
        obtain ⟨a, h1, h2, h3⟩ := v1
        obtain ⟨b, L, fu, R, z1, z2, z3, z4⟩ := r1.root.split ht
        rw [h1] at z1
        cases z1
        have e : v = .ref a := (Option.some.inj h2).symm
        obtain ⟨fps2, y1, y2⟩ := z4 G1 H1 (.dat .any) [] (Ex.refl _) (fun _ _ => rfl) (.dat (.any _))
        have nd := r1.nd
        rw [z3] at nd
        rw [List.nodup_append] at nd
        obtain ⟨n2, n3, n4⟩ := nd
        rw [List.nodup_append] at n3
        have e2 : fps2.flatten = L ++ R := by rw [y2]; simp
        have sub : ∀ c ∈ fps2.flatten, c ∈ fps1.flatten := fun c hc => by
          rw [e2] at hc
          rw [z3]
          rcases List.mem_append.mp hc with z | z <;> simp [z]
        refine q t _ fps2 fu G1 H1 v ⟨r1.sub, y1, ?_, fun c hc => r1.fr c (sub c hc)⟩ (n1.less sub) ⟨by rw [e]; exact z2, n3.1, fun c hc hc2 => ?_, fun c hc => r1.fr c (by rw [z3]; simp [hc])⟩ (fun c hc => n1.new c (by rw [z3]; simp [hc])) w1
        · rw [e2, List.nodup_append]
          exact ⟨n2, n3.2.1, fun c h1 d h2 => n4 c h1 d (List.mem_append_right _ h2)⟩
        · rw [e2] at hc2
          rcases List.mem_append.mp hc2 with z | z
          · exact n4 c z c (List.mem_append_left _ hc) rfl
          · exact n3.2.2 c hc c z rfl
      · exact w1.elim
    · exact w1.elim⟩
theorem wo_mv (h : PE X e (tE K C U wa)) : PE X e (tO K C U (wMv wa)) := pe_imp h o_mv
end
end Wv
end

section
set_option Elab.async false
set_option linter.all false
set_option maxRecDepth 100000
set_option maxHeartbeats 4000000
namespace Wv
open PySem PySem.Spec PyProof.Rows L2 Evl
section
variable {K : PySem.W.Frag} {C : Cs} {U : UX} {G H G' H' G1 H1 G2 H2 : Hp} {sl sl' : Slots} {rt rt' : Roots} {σ : L2.St} {ρ ρ' ρ1 : List Addr} {fps fps' fps1 : List (List Addr)}
variable {X : Cx} {CX : CXT} {a b c e o i value : Expr} {es rest : List Expr} {wa wb wc : WE} {pos p apos cpos pos' : Pos} {Z : WEnds} {E : L2.St → XK} {st : Stmt} {k : Nat} {f Ca : Addr} {fd : FuncData} {ps : List Str} {sp : Sp} {x m name : Str} {ta to : TE} {t : TA} {ds : List Value}
/-! ### errors of the program's own -/
theorem fol_ex (h : Ex H H') : ∀ (p : List Nat) (v w : V), fol H p v = some w → fol H' p v = some w
  | [], _, _, e => e
  | i :: p, v, w, e => by
    cases v with
    | ref a =>
      have e : (match H a with | some (.lst xs) => (xs[i]?).bind (fol H p) | some (.ins _ _ fs) => ((fs.map Prod.snd)[i]?).bind (fol H p) | some (.dK kvs) => ((kvs.map Prod.snd)[i]?).bind (fol H p) | _ => none) = some w := e
      show (match H' a with | some (.lst xs) => (xs[i]?).bind (fol H' p) | some (.ins _ _ fs) => ((fs.map Prod.snd)[i]?).bind (fol H' p) | some (.dK kvs) => ((kvs.map Prod.snd)[i]?).bind (fol H' p) | _ => none) = some w
      have go : ∀ o : Option V, o.bind (fol H p) = some w → o.bind (fol H' p) = some w := fun o z => by
        cases o with
        | none => cases z
        | some u => exact fol_ex h p u w z
      split at e
      · rename_i xs hb
        rw [h _ _ hb]
        exact go _ e
      · rename_i fs hb
        rw [h _ _ hb]
        exact go _ e
      · rename_i fs hb
        rw [h _ _ hb]
        exact go _ e
      · cases e
    | _ => cases e
theorem idn_ex (h : Ex H H') : Idn H H' := fun w n => by
  obtain ⟨a, rfl, n⟩ := n
  refine ⟨a, rfl, ?_⟩
  rcases n with ⟨xs, n⟩ | ⟨c, dx, fs, n⟩ | ⟨kvs, n⟩
  · exact .inl ⟨xs, h _ _ n⟩
  · exact .inr (.inl ⟨c, dx, fs, h _ _ n⟩)
  · exact .inr (.inr ⟨kvs, h _ _ n⟩)
theorem ex_none (h : Ex H H') {l : Addr} (e : H' l = none) : H l = none := by
  cases z : H l with
  | none => rfl
  | some o => rw [h l o z] at e; cases e
theorem Nx.ex (h : Ex H H') (fp : List Addr) : Nx fp G H G H' fp := ⟨Ex.refl G, fun l o e _ => ⟨h l o e, fun z => z⟩, fun l e => ex_none h e, fun _ z => .inl z, idn_ex h⟩
mutual
theorem TR.noxd : ∀ (t : T) (v : V) (fp : List Addr), TR K C G H v t fp → ∀ a ∈ fp, ∀ fs, H a ≠ some (.xd fs)
  | .dat d, _, _, h, a, ha, fs => by cases h; cases ha
  | .lst ts, _, _, h, a, ha, fs => by
    cases h with
    | lst h r =>
      rcases List.mem_cons.mp ha with z | z
      · rw [z, h]; exact fun q => nomatch q
      · exact TRs.noxd ts _ _ r a z fs
  | .obj c ts, _, _, h, a, ha, fs => by
    cases h with
    | obj h n r =>
      rcases List.mem_cons.mp ha with z | z
      · rw [z, h]; exact fun q => nomatch q
      · exact TRs.noxd ts _ _ r a z fs
  | .dct c ts, _, _, h, a, ha, fs => by
    cases h with
    | dct h n r =>
      rcases List.mem_cons.mp ha with z | z
      · rw [z, h]; exact fun q => nomatch q
      · exact TRs.noxd ts _ _ r a z fs
  | .nm _ t, _, _, h, a, ha, fs => by
    cases h with
    | nm h => exact TR.noxd t _ _ h a ha fs
theorem TRs.noxd : ∀ (ts : List T) (vs : List V) (fp : List Addr), TRs K C G H vs ts fp → ∀ a ∈ fp, ∀ fs, H a ≠ some (.xd fs)
  | [], _, _, h, a, ha, fs => by cases h; cases ha
  | t :: ts, _, _, h, a, ha, fs => by
    cases h with
    | cons h r =>
      rcases List.mem_append.mp ha with z | z
      · exact TR.noxd t _ _ h a z fs
      · exact TRs.noxd ts _ _ r a z fs
end
theorem Rts.noxd : ∀ {rt : Roots} {ρ : List Addr} {fps : List (List Addr)}, Rts K C G H rt ρ fps → ∀ a ∈ fps.flatten, ∀ fs, H a ≠ some (.xd fs)
  | _, _, _, .nil, a, ha, fs => by simp at ha
  | _, _, _, .cons h r, a, ha, fs => by
    rw [List.flatten_cons] at ha
    rcases List.mem_append.mp ha with z | z
    · exact TR.noxd _ _ _ h a z fs
    · exact Rts.noxd r a z fs
theorem DRs.rev : ∀ {vs : List V} {ds : List D}, DRs K C G vs ds → DRs K C G vs.reverse ds.reverse
  | _, _, .nil => .nil
  | _, _, .cons h r => by
    rw [List.reverse_cons, List.reverse_cons]
    exact DRs.app (DRs.rev r) (.cons h .nil)
/-- the __init__ of an error's class: its arguments are its fields -/
def spX (C : Addr) (fs : List Str) : Sp := fun vs H Q _ => ∃ (a : Addr) (xs : List V), vs = .ref a :: xs ∧ xs.length = fs.length ∧ H a = some (exo a C none) ∧
  ∀ (dx : Addr) (H' : Hp), H dx = none → dx ≠ a → H' a = some (exo a C (some dx)) → H' dx = some (exd dx (fs.zip xs).reverse) → (∀ b o, b ≠ a → H b = some o → H' b = some o) → Q .non H'
theorem pmk_mine {X : Cx} {p pos : Pos} {e : Expr} {es : List Expr} {ta : TA} {cls : Str} {C fI : Addr} {k : Nat} {fd : FuncData} {ps : List Str} {sp : Sp}
    (T : OexC X.K C)
    (iC : PySem.W.findIn X.K (.ref C) "__init__" = some (some (.ref fI)))
    (tI : PySem.W.typeIn X.K (.ref fI) = some (.type "function"))
    (F1 : FnOk X.prog X.w X.K X.mg X.base CX0 k fI fd ps sp)
    (room : Room (k + 1) X.A) (hb : Binds X.K fd ps [])
    (hg : Gl X cls) (hm : X.mg cls = some (.ref C)) (ha : PA X (e :: es) ta)
    (q1 : (cls == ("__debug__" : Str)) = false := by decide)
    (q2 : starEach (e :: es) X.env = (false, eval e X.env) :: starEach es X.env := by rfl)
    (q3 : (backTo pos (starEach es X.env)).any (·.1) = false := by rfl) :
    L2N.PMk X (.Call (.Name cls p) (e :: es) [] pos) (tMkO C sp [] ta) := by
  intro pins st σ H Q inv want
  obtain ⟨_, _, _, _, mro, _, _, _, _, _, _, _, _, _, _, atC, vb⟩ := T.cls
  refine wpAny_Call_Name_kw (ld_glob inv hg hm ?_ q1)
  refine PySem.W.callWith_K (h₀ := X.base) inv.ok.mod.kin T.kC (thn (ha.run pos pins st σ H _ inv want) fun us st1 found => ?_) q2 q3
  obtain ⟨vs, Hv, inv1, rel, few, next⟩ := found
  refine ⟨inv1.kIn, ?_⟩
  show wpAny _ _ (call (.ref C) us) _ _ _
  obtain ⟨hp, gens, drawn, tok, os⟩ := st1
  have above : hp.objs.size ≤ hp.objs.size + 1 := Nat.le_succ _
  have free : Hv (hp.objs.size + 1) = none := inv1.hok.fresh above
  have promise := next (hp.objs.size + 1) free
  -- the heap with the arguments' tuple and the bare error
  generalize made : (hp.push (PySem.W.kdv_tup us)).push (PySem.HandSPX.excO C hp.objs.size) = hp2
  have stays : ∀ b o, hp.get? b = some o → hp2.get? b = some o := fun b o z => by
    rw [← made]
    exact Heap.get?_push_of_some _ (Heap.get?_push_of_some _ z)
  have bare : hp2.get? (hp.objs.size + 1) = some (PySem.HandSPX.excO C hp.objs.size) := by
    rw [← made]
    heap_get
  have inv2 : Inv X pins σ (upd Hv (hp.objs.size + 1) (exo (hp.objs.size + 1) C none)) ⟨hp2, gens, drawn, tok, os⟩ :=
    inv1.laid (t' := tok) (a := hp.objs.size + 1) (h' := hp2) stays above (exo_ok bare)
  have rel2 : Vals (V.ref (hp.objs.size + 1) :: (vs ++ [])) (Value.ref (hp.objs.size + 1) :: us ++ []) := .cons rfl (rel.append .nil)
  have nargs : (Value.ref (hp.objs.size + 1) :: us ++ []).length = ps.length := by
    have z := rel2.length
    rw [F1.len _ _ _ _ promise] at z
    exact z.symm
  have fits : us.length ≤ sizeLine := by
    have z := Paired.length rel
    rw [sizeLine_eq]
    omega
  subst made
  refine wpAny_call (PySem.HandSPX.call_own F.excBase_ValueError (fun Y => PySem.HandSPX.refsVE_contains Y mro vb) (inv1.kIn _ _ atC) (PySem.W.looks_findIn inv1.kIn iC) (fun self => PySem.W.bind_fn inv1.kIn self tI) fits ?_)
  refine codeAny_mono (F1.run _ X.stack _ _ ⟨Value.ref (hp.objs.size + 1) :: us, []⟩ (Value.ref (hp.objs.size + 1) :: us ++ []) _ _ (fun _ _ _ => False) (room.make C us []) (inv2.env0.make C us []) (hb _ (Value.ref (hp.objs.size + 1) :: us) inv2.kIn nargs) rel2 promise) fun r st2 got => ?_
  cases r with
  | error er => exact (show False from got).elim
  | ok fl =>
    cases fl with
    | next => exact (show False from got).elim
    | brk => exact (show False from got).elim
    | cont => exact (show False from got).elim
    | ret u =>
      obtain ⟨v, Hx, sameOs, bares, un, holds, rv, isNone, d, fs, atE, atD, newD, fin⟩ := got
      subst isNone
      obtain ⟨hx, gx, dx, tx, ox⟩ := st2
      obtain ⟨t0, G, J, kG, gone, its, nil⟩ := mk_end0 (d2 := dx) (t2 := tx) inv1 above stays un holds sameOs bares atE atD newD
      refine ⟨rv, hp.objs.size + 1, _, _, ⟨G, gx, dx, tx, ox⟩, _, .ref C, some d, rfl, J, kG, gone, its, ⟨rfl, rfl, fun ws hw => ?_⟩, rfl, rfl, nil, rfl, bares, raises_own T.exC T.tyC, fin⟩
      cases hw
      rfl
/-- raise C(..) -/
def wRaise (c n : Nat) (w : WA) : WS := fun Z sl rt => w ⟨sl, Z.ex⟩ rt fun xs rt1 => match datsV xs with
  | some ds => ds.length = n ∧ Z.ex ⟨c, ds.reverse⟩ sl rt1
  | none => False
theorem datsV_len : ∀ {xs : List Val} {ds : List D}, datsV xs = some ds → ds.length = xs.length
  | [], _, h => by cases h; rfl
  | .dat d :: xs, ds, h => by
    obtain ⟨es, h1, rfl⟩ := Option.map_eq_some_iff.mp (show (datsV xs).map (d :: ·) = some ds from h)
    rw [List.length_cons, List.length_cons, datsV_len h1]
  | .ref _ _ :: _, _, h => by cases h
theorem rev_map_fst {α β : Type} {as : List α} {bs : List β} (h : bs.length = as.length) : ((as.zip bs).reverse).map Prod.fst = as.reverse := by
  rw [List.map_reverse, zip_fst h]
theorem rev_map_snd {α β : Type} {as : List α} {bs : List β} (h : bs.length = as.length) : ((as.zip bs).reverse).map Prod.snd = bs.reverse := by
  rw [List.map_reverse, zip_snd h]
theorem s_raise {c : Nat} {fs : List Str} {w : WA} (hl : C.ly c = fs.reverse) (hn : fs.length ≤ 100) : ∀ (D : Ends) σ H, tS K C U (wRaise c fs.length w) D σ H → tMkO (C.at_ c) (spX (C.at_ c) fs) [] (tA K C U w) σ H fun cls d H' => U cls d σ H' := fun D σ H ⟨Z, sl, rt, ρ, fps, G, s, w, fn⟩ =>
  ⟨⟨sl, Z.ex⟩, rt, ρ, fps, G, _, s, fn.xf, w, fun xs rt1 fps1 G1 H1 vs r1 n1 v1 w1 => by
    split at w1
    · rename_i ds hd
      obtain ⟨h100, w1⟩ := w1
      have hx : xs.length = fs.length := (datsV_len hd).symm.trans h100
      have hv := VRs.len v1
      have dr := VRs.dats v1 hd
      have hd2 := DRs.len dr
      refine ⟨by omega, fun a ha => ⟨a, vs, by rw [List.append_nil], by rw [hv, hx], upd_same, fun dx H2 h1 hne h2 h3 h4 => ⟨rfl, dx, _, h2, h3, upd_none h1, ?_⟩⟩⟩
      have ex2 : Ex H1 (upd (del H2 a) dx (.xd (fs.zip vs).reverse)) := fun b o e => by
        have z1 : b ≠ a := fun z => by rw [z, ha] at e; cases e
        have z2 : b ≠ dx := fun z => by rw [z, upd_none h1] at e; cases e
        rw [upd_ne z2, del_ne z1]
        exact h4 b o z1 (by rw [upd_ne z1]; exact e)
      have hvl : vs.length = fs.length := by rw [hv, hx]
      refine fn.xf ⟨c, ds.reverse⟩ sl rt1 σ ρ fps1 G1 _ _ _ (s.step (r1.grow ex2) (n1.trans (Nx.ex ex2 _)) fun _ _ e => e) (n1.trans (Nx.ex ex2 _)) (Pre.refl _) ⟨rfl, dx, _, rfl, n1.dom _ (upd_none h1), upd_same, ?_, ?_⟩ w1
      · rw [rev_map_fst hvl, hl, List.length_reverse, List.length_zip, hvl, Nat.min_self, ← List.length_reverse, List.take_length]
      · rw [rev_map_snd hvl]
        exact dr.rev
    · exact w1.elim⟩
theorem ws_raise {c : Nat} {fs : List Str} {w : WA} {fI : Addr} {cls : Str} (hl : C.ly c = fs.reverse) (hn : fs.length ≤ 100) (hc : X.calm = true) (tk : L2N.Takes X U)
    (T : OexC X.K (C.at_ c)) (iC : PySem.W.findIn X.K (.ref (C.at_ c)) "__init__" = some (some (.ref fI))) (tI : PySem.W.typeIn X.K (.ref fI) = some (.type "function")) (F1 : FnOk X.prog X.w X.K X.mg X.base CX0 k fI fd ps (spX (C.at_ c) fs))
    (room : Room (k + 1) X.A) (hb : Binds X.K fd ps []) (hg : Gl X cls) (hm : X.mg cls = some (.ref (C.at_ c))) (ha : PA X (e :: es) (tA K C U w)) (q1 : (cls == ("__debug__" : Str)) = false := by decide)
    (q2 : starEach (e :: es) X.env = (false, eval e X.env) :: starEach es X.env := by rfl) (q3 : (backTo pos' (starEach es X.env)).any (·.1) = false := by rfl) :
    PS X (.Raise (some (.Call (.Name cls p) (e :: es) [] pos')) none pos) (tS K C U (wRaise c fs.length w)) := ps_imp (L2N.ps_raise hc tk (pmk_mine T iC tI F1 room hb hg hm ha q1 q2 q3)) (s_raise hl hn)
/-! ### try, except C as x -/
theorem St.unset (s : St K C sl rt σ ρ fps G H) (i : Nat) : St K C (sl.set i none) rt (σ.set i none) ρ fps G H where
  toRSt := s.toRSt
  len := by rw [List.length_set, List.length_set]; exact s.len
  slot := fun j x h => by
    rw [List.getElem?_set] at h
    split at h
    · split at h <;> cases h
    · rename_i z
      obtain ⟨v, h1, h2⟩ := s.slot j x h
      exact ⟨v, by rw [List.getElem?_set_ne z]; exact h1, h2⟩
/-- the error's dict becomes data -/
theorem St.xd {dd : Addr} {fs : List (Str × V)} (s : St K C sl rt σ ρ fps G H) (h : H dd = some (.xd fs)) : ∃ G', Ex G G' ∧ G' dd = some (.xd fs) ∧ St K C sl rt σ ρ fps G' H ∧ ∀ l, G l = none → l ≠ dd → G' l = none := by
  have hex : Ex G (upd G dd (.xd fs)) := fun l o e => by
    by_cases z : l = dd
    · subst z
      have := s.sub l o e
      rw [h] at this
      cases this
      exact upd_same
    · rw [upd_ne z]; exact e
  have hsub : Ex (upd G dd (.xd fs)) H := fun l o e => by
    by_cases z : l = dd
    · subst z
      rw [upd_same] at e
      cases e
      exact h
    · rw [upd_ne z] at e
      exact s.sub l o e
  refine ⟨_, hex, upd_same, { sub := hsub, root := Rts.stay hex s.root fun _ _ => rfl, nd := s.nd, fr := fun l hl => ?_, len := s.len, slot := fun i x hx => ?_ }, fun l hl hn => by rw [upd_ne hn]; exact hl⟩
  · have z : l ≠ dd := fun z => Rts.noxd s.root l hl fs (by rw [z]; exact h)
    rw [upd_ne z]
    exact s.fr l hl
  · obtain ⟨v, h1, h2⟩ := s.slot i x hx
    refine ⟨v, h1, ?_⟩
    cases x with
    | dat d => exact DR.up hex d v h2
    | ref r p => exact h2
/-- err.f in the suite -/
def wXf (a dd c i : Nat) (j : Nat) : WE := fun sl rt k => ∃ ds d, sl.sl[i]? = some (some (.dat (.exn a dd c ds))) ∧ ds[j]? = some d ∧ k (.dat d) rt
theorem e_xf {a dd c i j : Nat} {fn : Str} (hl : (C.ly c)[j]? = some fn) (nd : (C.ly c).Nodup) : ∀ σ H Q, tE K C U (wXf a dd c i j) σ H Q → tXf a (.ref (C.at_ c)) (some dd) (C.at_ c) fn (tVar i) σ H Q := fun σ H Q ⟨sl, rt, ρ, fps, G, k, s, xf, ⟨ds, d, h1, h2, w⟩, q⟩ => by
  obtain ⟨v, hv, hr⟩ := s.slot i _ h1
  have hr : DR K C G v (.exn a dd c ds) := hr
  cases hr with
  | exn hG hn r =>
    obtain ⟨z, z1, z2⟩ := r.get h2
    exact ⟨.ref a, hv, rfl, rfl, dd, _, z, rfl, s.sub _ _ hG, look_at hn nd hl z1, q (.dat d) rt fps G H z s.toRSt (Nx.refl _ _ _) z2 w⟩
theorem we_xf {a dd c i j : Nat} {fn : Str} {oe : Obj} {pn : List (Addr × Obj)} (hl : (C.ly c)[j]? = some fn) (nd : (C.ly c).Nodup) (T : XfC X.K (C.at_ c)) (hno : PySem.W.findIn X.K (.ref (C.at_ c)) fn = some none)
    (hz : L2N.Zn (.ref (C.at_ c)) (some dd) oe) (hf : ∃ vs, oe.data = .fields vs) (he : PE (X.suite a ((a, oe) :: pn)) e (tVar i)) (hb : attributeBase e fn X.env (eval e X.env) = eval e X.env := by rfl) :
    PE (X.suite a ((a, oe) :: pn)) (.Attribute e fn pos) (tE X.K C U (wXf a dd c i j)) := pe_imp (pe_xf T hno hz.zc hf he hb) (e_xf hl nd)
/-! ### defs called within an except suite -/
theorem hotS {X : Cx} {a : Addr} {cls : Value} {d : Option Addr} {oe : Obj} {pn : List (Addr × Obj)} (hz : L2N.Zn cls d oe) (hf : ∃ vs, oe.data = .fields vs) : L2H.HotC (X.suite a ((a, oe) :: pn)) := by
  obtain ⟨vs, hv⟩ := hf
  exact ⟨(a, oe), ⟨rfl, vs, hv, hz.2.2 vs hv⟩, List.mem_cons_self⟩
theorem passZ {X : Cx} {E : L2.St → XK} : ∀ σ, PassesAt CX0 X σ (E σ) := fun σ pins H s e s' I c => c.elim
abbrev sp0 (K : PySem.W.Frag) (C : Cs) (cw : CW) : Sp := fun vs H Q _ => spW K C cw vs H Q fun _ _ _ => False
theorem ok_WH {P : Program} {w : World} {mg : Str → Option Value} {base : Heap} {x qual : Str} {st : Stmt} {f : Addr} {fd : FuncData} {N ps : List Str} {k n : Nat} {body : WS}
    (F : Fun K x qual st f fd) (S : FnScope N ps (defScope st)) (hn : N.length = ps.length + n)
    (der : ∀ (cdv : Value) (A : Around) (outer : List Env) (s : Shared) (H : Hp) (E : XK) (p : Addr × Obj), L2H.HotC (L2H.cxH CX0 P w K mg base N qual (defScope st) f cdv A outer s H E p).nox → L2H.RoomH k (A.deeper (envOfC qual (defScope st) s.heap.objs.size f cdv)) →
      PSs (L2H.cxH CX0 P w K mg base N qual (defScope st) f cdv A outer s H E p).nox (defBody st) (tS K C (fun _ _ _ _ => False) body)) :
    L2H.FnH P w K mg base CX0 (k + 1) f fd ps (sp0 K C (cwOf ps.length n body)) := by
  obtain ⟨oc, od, kV, doc, pm, an, cdv, ct, osl, rfl, lk, hcd⟩ := F.ex
  exact L2H.fn_ofH lk hcd S (fun vs H Q E h => spW_len h) fun A outer s H vs Q E p hot hr h => ⟨_, (der cdv A outer s H E p ⟨p, hot, List.mem_cons_self⟩ hr).nox, w_enter hn h⟩
/-- f(..), nothing raised -/
def wCall0 (cw : CW) (w : WA) : WO := fun sl rt k => w sl rt fun xs rt1 => dst (plc xs) = true ∧ match getR rt1 (plc xs) with
  | some ts => cw (ren xs) ts (fun t ts' => k t (putR rt1 (plc xs) ts')) fun _ _ => False
  | none => False
theorem o_callH {cw : CW} {w : WA} {E : L2.St → XK} : ∀ σ H Q, tO K C U (wCall0 cw w) σ H Q → tCallS (sp0 K C cw) E (tA K C U w) σ H Q := fun σ H Q ⟨sl, rt, ρ, fps, G, k, s, xf, w, q⟩ =>
  ⟨sl, rt, ρ, fps, G, _, s, xf, w, fun xs rt1 fps1 G1 H1 vs r1 n1 v1 ⟨hd, w1⟩ => by
    split at w1
    · rename_i ts ht
      exact sp_use (kx := fun _ _ => False) r1 v1 hd ht w1 (fun t rt' fps' fp G' H' v r' n' o' new hk => q t rt' fps' fp G' H' v r' (n1.trans n') o' (fun a ha => (new a ha).elim (fun y => n1.new a y) fun y => .inr (n1.dom a y)) hk)
        fun x rt' fps' G' H' cls d r' n' xr hk => hk.elim
    · exact w1.elim⟩
theorem wo_callH {cw : CW} {w : WA} {E : L2.St → XK} (h : PE X e (tCallS (sp0 K C cw) E (tA K C U w))) : PE X e (tO K C U (wCall0 cw w)) := pe_imp h o_callH
def wMeth0 (c : Nat) (cw : CW) (wo : WE) (w : WA) : WO := fun sl rt k => wo sl rt fun x rt1 => isObj c x rt1 ∧ w sl rt1 fun xs rt2 => dst (plc (x :: xs)) = true ∧ match getR rt2 (plc (x :: xs)) with
  | some ts => cw (ren (x :: xs)) ts (fun t ts' => k t (putR rt2 (plc (x :: xs)) ts')) fun _ _ => False
  | none => False
theorem o_methH {c : Nat} {cw : CW} {wo : WE} {w : WA} {m : Str} {E : L2.St → XK} (hm : m ∉ C.ly c) : ∀ σ H Q, tO K C U (wMeth0 c cw wo w) σ H Q → L2H.tMethH (C.at_ c) m (sp0 K C cw) E (tE K C U wo) (tA K C U w) σ H Q := fun σ H Q ⟨sl, rt, ρ, fps, G, k, s, xf, w, q⟩ =>
  ⟨sl, rt, ρ, fps, G, _, s, xf, w, fun x rt1 fps1 G1 H1 v r1 n1 v1 ⟨hx, w1⟩ => by
    obtain ⟨a, dx, fs, rfl, h, n⟩ := r1.isObj v1 hx
    refine ⟨a, dx, fs, rfl, h, look_no fun z => hm (List.mem_of_mem_take (by rw [← n]; exact z)), sl, rt1, ρ, fps1, G1, _, s.step r1 n1 fun _ _ e => e, xf.later n1 (Pre.refl _), w1, fun xs rt2 fps2 G2 H2 vs r2 n2 v2 ⟨hd, w2⟩ => ?_⟩
    split at w2
    · rename_i ts ht
      have n3 := n1.trans n2
      exact sp_use (kx := fun _ _ => False) r2 (.cons (v1.up n2 fun _ _ e => e) v2) hd ht w2 (fun t rt' fps' fp G' H' v r' n' o' new hk => q t rt' fps' fp G' H' v r' (n3.trans n') o' (fun a ha => (new a ha).elim (fun y => n3.new a y) fun y => .inr (n3.dom a y)) hk)
        fun y rt' fps' G' H' cls d r' n' xr hk => hk.elim
    · exact w2.elim⟩
theorem wo_methH {c : Nat} {cw : CW} {wo : WE} {w : WA} {m : Str} {E : L2.St → XK} (hm : m ∉ C.ly c) (h : PE X e (L2H.tMethH (C.at_ c) m (sp0 K C cw) E (tE K C U wo) (tA K C U w))) : PE X e (tO K C U (wMeth0 c cw wo w)) := pe_imp h (o_methH hm)
theorem noPassN {P : Program} {w : World} : ∀ σ : L2.St, PassesAt (L2N.CX P w) X σ (fun _ _ _ => False) := fun σ pins H s e s' I c => by
  obtain ⟨_, _, _, _, _, _, _, _, _, _, _, _, z⟩ := c
  exact z.elim
/-- the same where nothing is handled -/
theorem o_callN {cw : CW} {w : WA} {E : L2.St → XK} : ∀ σ H Q, tO K C U (wCall0 cw w) σ H Q → tCallS (spW K C cw) E (tA K C U w) σ H Q := fun σ H Q ⟨sl, rt, ρ, fps, G, k, s, xf, w, q⟩ =>
  ⟨sl, rt, ρ, fps, G, _, s, xf, w, fun xs rt1 fps1 G1 H1 vs r1 n1 v1 ⟨hd, w1⟩ => by
    split at w1
    · rename_i ts ht
      exact sp_use (kx := fun _ _ => False) r1 v1 hd ht w1 (fun t rt' fps' fp G' H' v r' n' o' new hk => q t rt' fps' fp G' H' v r' (n1.trans n') o' (fun a ha => (new a ha).elim (fun y => n1.new a y) fun y => .inr (n1.dom a y)) hk)
        fun x rt' fps' G' H' cls d r' n' xr hk => hk.elim
    · exact w1.elim⟩
theorem wo_callN {cw : CW} {w : WA} {E : L2.St → XK} (h : PE X e (tCallS (spW K C cw) E (tA K C U w))) : PE X e (tO K C U (wCall0 cw w)) := pe_imp h o_callN
theorem o_methN {c : Nat} {cw : CW} {wo : WE} {w : WA} {m : Str} {E : L2.St → XK} (hm : m ∉ C.ly c) : ∀ σ H Q, tO K C U (wMeth0 c cw wo w) σ H Q → tMethX (C.at_ c) m (spW K C cw) E (tE K C U wo) (tA K C U w) σ H Q := fun σ H Q ⟨sl, rt, ρ, fps, G, k, s, xf, w, q⟩ =>
  ⟨sl, rt, ρ, fps, G, _, s, xf, w, fun x rt1 fps1 G1 H1 v r1 n1 v1 ⟨hx, w1⟩ => by
    obtain ⟨a, dx, fs, rfl, h, n⟩ := r1.isObj v1 hx
    refine ⟨a, dx, fs, rfl, h, look_no fun z => hm (List.mem_of_mem_take (by rw [← n]; exact z)), sl, rt1, ρ, fps1, G1, _, s.step r1 n1 fun _ _ e => e, xf.later n1 (Pre.refl _), w1, fun xs rt2 fps2 G2 H2 vs r2 n2 v2 ⟨hd, w2⟩ => ?_⟩
    split at w2
    · rename_i ts ht
      have n3 := n1.trans n2
      exact sp_use (kx := fun _ _ => False) r2 (.cons (v1.up n2 fun _ _ e => e) v2) hd ht w2 (fun t rt' fps' fp G' H' v r' n' o' new hk => q t rt' fps' fp G' H' v r' (n3.trans n') o' (fun a ha => (new a ha).elim (fun y => n3.new a y) fun y => .inr (n3.dom a y)) hk)
        fun y rt' fps' G' H' cls d r' n' xr hk => hk.elim
    · exact w2.elim⟩
theorem wo_methN {c : Nat} {cw : CW} {wo : WE} {w : WA} {m : Str} {E : L2.St → XK} (hm : m ∉ C.ly c) (h : PE X e (tMethX (C.at_ c) m (spW K C cw) E (tE K C U wo) (tA K C U w))) : PE X e (tO K C U (wMeth0 c cw wo w)) := pe_imp h (o_methN hm)
/-! ### a local name that holds a def; a method by the class of a local name -/
def tCallLS (i : Nat) (f : Addr) (sp : Sp) (E : L2.St → XK) (t : TA) : TE := fun σ H Q => σ[i]? = some (some (.ref f)) ∧ t σ H fun vs H1 => sp vs H1 Q (E σ)
theorem pe_callLS {i : Nat} (F : FnOk X.prog X.w X.K X.mg X.base CX k f fd ps sp) (hr : Room k X.A) (hN : X.N[i]? = some x) (hv : Vis X.env.scope x) (hk : PySem.W.keepIn X.K (.ref f) = true) (hb : Binds X.K fd ps []) (hx : ∀ σ, PassesAt CX X σ (E σ)) (ha : PA X (e :: es) t)
    (hdb : (x == ("__debug__" : Str)) = false := by decide) (hcd : (x == ("__classdict__" : Str)) = false := by decide)
    (he : starEach (e :: es) X.env = (false, eval e X.env) :: starEach es X.env := by rfl) (hpl : (backTo pos (starEach es X.env)).any (·.1) = false := by rfl) : PE X (.Call (.Name x p) (e :: es) [] pos) (tCallLS i f sp E t) := by
  refine ⟨fun pins s σ H Q I h => ?_⟩
  obtain ⟨hs, ht⟩ := h
  refine wpAny_Call_Name_kw (thn ((pe_var (pos := p) hN hv hdb hcd).run pins s σ H (fun v H1 => v = .ref f ∧ H1 = H) I ⟨.ref f, hs, rfl, rfl⟩) fun u s1 ⟨v, H1, I1, r1, q1⟩ => ?_)
  obtain ⟨rfl, rfl⟩ := q1
  cases r1
  refine PySem.W.callWith_K (h₀ := X.base) I.ok.mod.kin hk (thn (ha.run pos pins s1 σ _ _ I1 ht) fun us s2 ⟨vs, H2, I2, r, q⟩ => ⟨I2.kIn, ?_⟩) he hpl
  exact run_fnSD (dvs := []) (ds := []) F hr hb .nil (hx σ) I2 r (by simpa using q)
/-- the slot i holds one of the defs js -/
def wCallF (js : List Nat) (tab : Nat → CW) (i : Nat) (w : WA) : WO := fun sl rt k => match sl.sl[i]? with
  | some (some (.dat (.fn j))) => j ∈ js ∧ wCall (tab j) w sl rt k
  | _ => False
theorem wo_callF {js : List Nat} {tab : Nat → CW} {i : Nat} {w : WA} (h : ∀ j ∈ js, PE X e (tCallLS i (C.fn j) (spW K C (tab j)) (fun σ cls d H => U cls d σ H) (tA K C U w))) : PE X e (tO K C U (wCallF js tab i w)) := ⟨fun pins s0 σ H Q I ⟨sl, rt, ρ, fps, G, k, s, xf, w0, q⟩ => by
  unfold wCallF at w0
  split at w0
  · rename_i j hj
    obtain ⟨hm, w0⟩ := w0
    obtain ⟨v, hv, hr⟩ := s.slot i _ hj
    have hr : DR K C G v (.fn j) := hr
    cases hr
    exact (h j hm).run pins s0 σ H Q I ⟨hv, o_call σ H Q ⟨sl, rt, ρ, fps, G, k, s, xf, w0, q⟩⟩
  · exact w0.elim⟩
/-- the slot i holds data of one of the classes cs -/
def wMethD (cs : List Nat) (tab : Nat → CW) (i : Nat) (w : WA) : WO := fun sl rt k => match sl.sl[i]? with
  | some (some (.dat (.obj c _))) => c ∈ cs ∧ wMethA c (tab c) (wVar i) w sl rt k
  | _ => False
theorem wo_methD {cs : List Nat} {tab : Nat → CW} {i : Nat} {w : WA} (h : ∀ c ∈ cs, PE X e (tO K C U (wMethA c (tab c) (wVar i) w))) : PE X e (tO K C U (wMethD cs tab i w)) := ⟨fun pins s0 σ H Q I ⟨sl, rt, ρ, fps, G, k, s, xf, w0, q⟩ => by
  unfold wMethD at w0
  split at w0
  · obtain ⟨hm, w0⟩ := w0
    exact (h _ hm).run pins s0 σ H Q I ⟨sl, rt, ρ, fps, G, k, s, xf, w0, q⟩
  · exact w0.elim⟩
/-! ### isinstance of a built-in type -/
def D.tyN : D → Option String
  | .non => some "NoneType"
  | .bool _ => some "bool"
  | .int _ => some "int"
  | .str _ => some "str"
  | .lst _ => some "list"
  | .tup _ => some "tuple"
  | .tpx _ => some "tuple"
  | .fzl _ => some "list"
  | _ => none
theorem tyN_ok {d : D} {v : V} {n : String} (e : Ex G H) (h : D.tyN d = some n) (r : DR K C G v d) : TyX K H v (.type n) := by
  unfold D.tyN at h
  split at h
  all_goals first
    | cases h; cases r; exact .base .non
    | cases h; cases r; exact .base (.bl _)
    | cases h; cases r; exact .base (.int _)
    | cases h; cases r; exact .base (.str _)
    | (cases h; cases r with
       | lst hG _ => exact .base (.lst (e _ _ hG)))
    | (cases h; cases r with
       | fzl hG _ => exact .base (.frz (e _ _ hG)))
    | (cases h; cases r with
       | tpx hG _ _ => exact .fTuple (e _ _ hG))
    | (cases h; cases r with
       | tup hS _ =>
         rcases ex_t e hS with hr | ⟨o, its, n, h1, h2, _⟩
         · rcases hr with h | ⟨o, h⟩
           · exact .base (.tup h)
           · exact .fTuple h
         · exact .kTuple h1 h2)
    | cases h
def wIsT (n : String) (w : WE) : WE := fun sl rt k => w sl rt fun x rt1 => match x with
  | .dat d => match D.tyN d with
    | some m => ∃ b, kitB m n = some b ∧ k (.dat (.bool b)) rt1
    | none => False
  | _ => False
theorem e_isT {n : String} {w : WE} : ∀ σ H Q, tE K C U (wIsT n w) σ H Q → tCB (rIsi K) (tCons (tE K C U w) (tCons (tC (.ty n)) tNil)) σ H Q := fun σ H Q ⟨sl, rt, ρ, fps, G, k, s, xf, w, q⟩ =>
  ⟨sl, rt, ρ, fps, G, _, s, xf, w, fun x rt1 fps1 G1 H1 v r1 n1 v1 w1 => by
    split at w1
    · rename_i d
      split at w1
      · rename_i m hm
        obtain ⟨b, hb, w1⟩ := w1
        exact ⟨v, _, _, _, b, rfl, .ty n, tyN_ok r1.sub hm v1, kit_ty hb, q (.dat (.bool b)) rt1 fps1 G1 H1 _ r1 n1 (DR.bool b) w1⟩
      · exact w1.elim
    · exact w1.elim⟩
theorem we_isT {n : String} {w : WE} (h : PE X e (tCB (rIsi K) (tCons (tE K C U w) (tCons (tC (.ty n)) tNil)))) : PE X e (tE K C U (wIsT n w)) := pe_imp h e_isT
/-! ### one class is caught -/
/-- try: u, except the class c0 as i: suite -/
def wTryA (c0 i : Nat) (suite : Addr → Addr → WS) (u : WS) : WS := fun Z sl rt => u { Z with ex := fun x sl1 rt1 => x.c = c0 ∧ ∀ a dd, suite a dd { Z with nx := fun sl2 rt2 => Z.nx (sl2.set i none) rt2, bk := fun sl2 rt2 => Z.bk (sl2.set i none) rt2, ct := fun sl2 rt2 => Z.ct (sl2.set i none) rt2, ex := fun _ _ _ => False } (sl1.set i (some (.dat (.exn a dd c0 x.ds)))) rt1 } sl rt
/-- try: u, except the class c0: suite -/
def wTryO (c0 : Nat) (suite : WS) (u : WS) : WS := fun Z sl rt => u { Z with ex := fun x sl1 rt1 => x.c = c0 ∧ suite { Z with ex := fun _ _ _ => False } sl1 rt1 } sl rt
abbrev tSu1 (K : PySem.W.Frag) (C : Cs) (c0 : Nat) (suite : Addr → Addr → WS) : Addr → Value → Option Addr → TS := fun a cls d D σ H => ∃ dd, cls = .ref (C.at_ c0) ∧ d = some dd ∧ tS K C (fun _ _ _ _ => False) (suite a dd) D σ H
theorem s_tryA {c0 i : Nat} {suite : Addr → Addr → WS} {u : WS} {cv : Value} (hM : PySem.W.exmOne K (.ref (C.at_ c0)) cv = some true) :
    ∀ D σ H, tS K C U (wTryA c0 i suite u) D σ H → tS K C (wAs K cv i (tSu1 K C c0 suite) U D) u D σ H := fun D σ H ⟨Z, sl, rt, ρ, fps, G, s, w, f⟩ => by
  refine ⟨{ Z with ex := fun x sl1 rt1 => x.c = c0 ∧ ∀ a dd, suite a dd { Z with nx := fun sl2 rt2 => Z.nx (sl2.set i none) rt2, bk := fun sl2 rt2 => Z.bk (sl2.set i none) rt2, ct := fun sl2 rt2 => Z.ct (sl2.set i none) rt2, ex := fun _ _ _ => False } (sl1.set i (some (.dat (.exn a dd c0 x.ds)))) rt1 }, sl, rt, ρ, fps, G, s, w, ⟨f.nx, f.rt, f.ro, f.bk, f.ct, fun x sl1 rt1 σ1 ρ1 fps1 G1 H1 cls d s1 n1 p1 xr hx => ?_⟩⟩
  obtain ⟨rfl, dd, fs, rfl, hd0, hd1, hn, hr⟩ := xr
  obtain ⟨hc, hx⟩ := hx
  refine ⟨true, by rw [hc]; exact hM, fun _ a ha => ?_, fun z => nomatch z⟩
  obtain ⟨G2, e2, hG2, s2, hk⟩ := s1.xd hd1
  have kp : ∀ l o, H l = some o → l ∉ fps.flatten → H1 l = some o ∧ (G l = none → G2 l = none) := fun l o hl hf => by
    obtain ⟨k1, k2⟩ := n1.keep l o hl hf
    refine ⟨k1, fun g => hk l (k2 g) fun z => ?_⟩
    rw [z, hd0] at hl
    cases hl
  have n2 : Nx fps.flatten G H G2 H1 fps1.flatten := ⟨n1.g.trans e2, kp, n1.dom, n1.new, n1.idn⟩
  rw [hc] at hn
  refine ⟨dd, by rw [hc], rfl, { Z with nx := fun sl2 rt2 => Z.nx (sl2.set i none) rt2, bk := fun sl2 rt2 => Z.bk (sl2.set i none) rt2, ct := fun sl2 rt2 => Z.ct (sl2.set i none) rt2, ex := fun _ _ _ => False }, _, rt1, ρ1, fps1, G2, s2.set (i := i) (x := .dat (.exn a dd c0 x.ds)) (DR.exn hG2 hn (DRs.up e2 _ _ hr)), hx a dd, ?_⟩
  exact ⟨fun sl' rt' σ' ρ' fps' G' H' s' n' p' h => f.nx _ rt' _ ρ' fps' G' H' (s'.unset i) (n2.trans n') (p1.trans p') h, fun v rt' ρ' fps' G' H' vv r' n' p' vr h => f.rt v rt' ρ' fps' G' H' vv r' (n2.trans n') (p1.trans p') vr h,
    fun t rt' ρ' fps' fp G' H' v r' n' p' o new h => f.ro t rt' ρ' fps' fp G' H' v r' (n2.trans n') (p1.trans p') o (fun l hl => (new l hl).elim (fun y => n2.new l y) fun y => .inr (n2.dom l y)) h,
    fun sl' rt' σ' ρ' fps' G' H' s' n' p' h => f.bk _ rt' _ ρ' fps' G' H' (s'.unset i) (n2.trans n') (p1.trans p') h, fun sl' rt' σ' ρ' fps' G' H' s' n' p' h => f.ct _ rt' _ ρ' fps' G' H' (s'.unset i) (n2.trans n') (p1.trans p') h, Xf.no⟩
theorem ws_tryA {c0 i : Nat} {n cn : Str} {suite : Addr → Addr → WS} {u : WS} {cv : Value} {body sts : List Stmt} {b₀ : Stmt} {np : Pos} (hM : PySem.W.exmOne X.K (.ref (C.at_ c0)) cv = some true)
    (hs : X.stack = X.env :: X.outer) (hf : X.env.frame = some X.env.locals) (hN : X.N.Nodup) (hi : X.N[i]? = some n) (hln : X.env.kindOf n = some .local) (hc : Names X cn cv) (tk : L2N.Takes X U)
    (hb : ∀ (W : WX) (pn : List (Addr × Obj)) (xe : Value → Shared → Prop), L2N.Takes (X.tr pn xe) W → PassesOwn (model X.prog X.w) X.A X.env xe → PSs (X.tr pn xe) body (tS X.K C W u))
    (hsu : ∀ (a : Addr) (oe : Obj) (dd : Addr) (pn : List (Addr × Obj)), L2N.Zn (.ref (C.at_ c0)) (some dd) oe → (∃ vs, oe.data = .fields vs) → PSs (X.suite a ((a, oe) :: pn)) (b₀ :: sts) (tS X.K C (fun _ _ _ _ => False) (suite a dd))) :
    PS X (.Try body [.ExceptHandler (some (.Name cn np)) (some n) (b₀ :: sts) pos'] [] [] pos) (tS X.K C U (wTryA c0 i suite u)) :=
  ps_imp (L2N.ps_try_as (tb := fun W => tS X.K C W u) (ts := tSu1 X.K C c0 suite) hs hf hN hi hln hc tk hb (fun a oe cls d pn hz hv => ⟨fun pins s σ H D I ⟨dd, h1, h2, w⟩ => (hsu a oe dd pn (by rw [← h1, ← h2]; exact hz) hv).run pins s σ H D I w⟩)) (s_tryA hM)
theorem s_tryO {c0 : Nat} {suite u : WS} {cv : Value} (hM : PySem.W.exmOne K (.ref (C.at_ c0)) cv = some true) :
    ∀ D σ H, tS K C U (wTryO c0 suite u) D σ H → tS K C (wMany K U D [(cv, fun _ _ _ => tS K C (fun _ _ _ _ => False) suite)]) u D σ H := fun D σ H ⟨Z, sl, rt, ρ, fps, G, s, w, f⟩ => by
  refine ⟨{ Z with ex := fun x sl1 rt1 => x.c = c0 ∧ suite { Z with ex := fun _ _ _ => False } sl1 rt1 }, sl, rt, ρ, fps, G, s, w, ⟨f.nx, f.rt, f.ro, f.bk, f.ct, fun x sl1 rt1 σ1 ρ1 fps1 G1 H1 cls d s1 n1 p1 xr hx => ?_⟩⟩
  obtain ⟨rfl, dd, fs, rfl, hd0, hd1, hn, hr⟩ := xr
  obtain ⟨hc, hx⟩ := hx
  refine ⟨true, by rw [hc]; exact hM, fun _ a ha => ?_, fun z => nomatch z⟩
  refine ⟨{ Z with ex := fun _ _ _ => False }, sl1, rt1, ρ1, fps1, G1, s1, hx, ?_⟩
  exact ⟨fun sl' rt' σ' ρ' fps' G' H' s' n' p' h => f.nx _ rt' _ ρ' fps' G' H' s' (n1.trans n') (p1.trans p') h, fun v rt' ρ' fps' G' H' vv r' n' p' vr h => f.rt v rt' ρ' fps' G' H' vv r' (n1.trans n') (p1.trans p') vr h,
    fun t rt' ρ' fps' fp G' H' v r' n' p' o new h => f.ro t rt' ρ' fps' fp G' H' v r' (n1.trans n') (p1.trans p') o (fun l hl => (new l hl).elim (fun y => n1.new l y) fun y => .inr (n1.dom l y)) h,
    fun sl' rt' σ' ρ' fps' G' H' s' n' p' h => f.bk _ rt' _ ρ' fps' G' H' s' (n1.trans n') (p1.trans p') h, fun sl' rt' σ' ρ' fps' G' H' s' n' p' h => f.ct _ rt' _ ρ' fps' G' H' s' (n1.trans n') (p1.trans p') h, Xf.no⟩
theorem ws_tryO {c0 : Nat} {cn : Str} {suite u : WS} {cv : Value} {body sts : List Stmt} {b₀ : Stmt} {np : Pos} (hM : PySem.W.exmOne X.K (.ref (C.at_ c0)) cv = some true)
    (hs : X.stack = X.env :: X.outer) (hf : X.env.frame = some X.env.locals) (hc : Names X cn cv) (tk : L2N.Takes X U)
    (hb : ∀ (W : WX) (pn : List (Addr × Obj)) (xe : Value → Shared → Prop), L2N.Takes (X.tr pn xe) W → PassesOwn (model X.prog X.w) X.A X.env xe → PSs (X.tr pn xe) body (tS X.K C W u))
    (hsu : ∀ (a : Addr) (oe : Obj) (cls : Value) (d : Option Addr) (pn : List (Addr × Obj)), L2N.Zn cls d oe → (∃ vs, oe.data = .fields vs) → PSs (X.suite a ((a, oe) :: pn)) (b₀ :: sts) (tS X.K C (fun _ _ _ _ => False) suite)) :
    PS X (.Try body [.ExceptHandler (some (.Name cn np)) none (b₀ :: sts) pos'] [] [] pos) (tS X.K C U (wTryO c0 suite u)) :=
  ps_imp (L2N.ps_try_many (tb := fun W => tS X.K C W u) hs hf tk hb (.cons hc hsu .nil)) (s_tryO hM)
theorem all_nil {P : Nat → Prop} : ∀ j ∈ ([] : List Nat), P j := fun _ h => (nomatch h)
theorem all_cons {P : Nat → Prop} {a : Nat} {l : List Nat} (h : P a) (r : ∀ j ∈ l, P j) : ∀ j ∈ a :: l, P j := fun j hj => by
  rcases List.mem_cons.mp hj with z | z
  · rw [z]; exact h
  · exact r j z
theorem unH {k : Nat} {A : Around} (r : L2H.RoomH k A) : A.units + 64 < cLine := by have := r.un; omega
theorem un1 {A : Around} (r : A.units + 64 < cLine) : A.units + 1 < cLine := by omega
end
end Wv
end

section
set_option linter.all false
set_option maxRecDepth 100000
set_option maxHeartbeats 4000000
namespace Wv
open PySem PySem.Spec PyProof.Rows L2 Evl
variable {P : Program} {w0 : World} {K : PySem.W.Frag} {C : Cs} {U : UX}
/-! ### isinstance of a list that is owned -/
def wIsL (n : String) (w : WE) : WE := fun sl rt k => w sl rt fun x rt1 => ∃ ds b, lstOf x rt1 = some ds ∧ kitB "list" n = some b ∧ k (.dat (.bool b)) rt1
theorem e_isL {n : String} {w : WE} : ∀ σ H Q, tE K C U (wIsL n w) σ H Q → tCB (rIsi K) (tCons (tE K C U w) (tCons (tC (.ty n)) tNil)) σ H Q := fun σ H Q ⟨sl, rt, ρ, fps, G, k, s, xf, w, q⟩ =>
  ⟨sl, rt, ρ, fps, G, _, s, xf, w, fun x rt1 fps1 G1 H1 v r1 n1 v1 w1 => by
    obtain ⟨ds, b, hl, hb, w1⟩ := w1
    obtain ⟨a, xs, rfl, hH, _⟩ := r1.lstOf hl v1
    exact ⟨_, _, _, _, b, rfl, .ty n, .base (.lst hH), kit_ty hb, q (.dat (.bool b)) rt1 fps1 G1 H1 _ r1 n1 (DR.bool b) w1⟩⟩
theorem we_isL {X : Cx} {e : Expr} {n : String} {w : WE} (h : PE X e (tCB (rIsi K) (tCons (tE K C U w) (tCons (tC (.ty n)) tNil)))) : PE X e (tE K C U (wIsL n w)) := pe_imp h e_isL
end Wv
end

section
set_option linter.all false
set_option maxRecDepth 100000
set_option maxHeartbeats 4000000
namespace Wv
open PySem PySem.Spec PyProof.Rows L2 Evl
variable {P : Program} {w0 : World} {K : PySem.W.Frag} {C : Cs} {U : UX} {G H : Hp}
/-! ### the place of a text in a written tuple of texts -/
theorem DRs.texts : ∀ {ss : List Str} {vs : List V}, DRs K C G vs (ss.map D.str) → vs = ss.map V.str
  | [], _, h => by cases h; rfl
  | s :: ss, _, h => by
    cases h with
    | cons a r =>
      cases a
      rw [DRs.texts r]
      rfl
def rTIx (K : PySem.W.Frag) : V → List V → Hp → VK → Prop := fun x xs H Q => ∃ p, ∃ ys : List Str, ∃ z j, x = .ref p ∧ xs = [.str z] ∧ SqT K H p (ys.map V.str) ∧ ys[j]? = some z ∧ (∀ m, m < j → ys[m]? ≠ some z) ∧ Q (.int (j : Nat)) H
def wIxG (ss : List Str) (w : WE) : WE := fun sl rt k => w sl rt fun x rt1 => match x with
  | .dat (.str z) => ∃ j : Nat, ss[j]? = some z ∧ (∀ m, m < j → ss[m]? ≠ some z) ∧ k (.dat (.int (j : Nat))) rt1
  | _ => False
theorem e_ixG {ss : List Str} {p : Addr} {w : WE} (ho : ∃ o, K.lookup p = some o ∧ o.cls = .type "tuple" ∧ o.dict = none) (hd : ∀ (C : Cs) (G : Hp), DR K C G (.ref p) (.tup (ss.map D.str))) :
    ∀ σ H Q, tE K C U (wIxG ss w) σ H Q → tBM K "tuple" (rTIx K) (tC (.ref p)) (tCons (tE K C U w) tNil) σ H Q := fun σ H Q ⟨sl, rt, ρ, fps, G, k, s, xf, w, q⟩ =>
  ⟨.inr (.inl ⟨rfl, ho⟩), sl, rt, ρ, fps, G, _, s, xf, w, fun x rt1 fps1 G1 H1 v r1 n1 v1 w1 => by
    split at w1
    · rename_i z
      obtain ⟨j, hj, hn, w1⟩ := w1
      cases v1
      have h1 := hd C G1
      cases h1 with
      | tup hS hr =>
        rw [DRs.texts hr] at hS
        exact ⟨p, ss, z, j, rfl, rfl, ex_t r1.sub hS, hj, hn, q (.dat (.int (j : Nat))) rt1 fps1 G1 H1 _ r1 n1 (DR.int _) w1⟩
    · exact w1.elim⟩
theorem we_ixG {X : Cx} {e : Expr} {ss : List Str} {p : Addr} {w : WE} (ho : ∃ o, X.K.lookup p = some o ∧ o.cls = .type "tuple" ∧ o.dict = none) (hd : ∀ (C : Cs) (G : Hp), DR X.K C G (.ref p) (.tup (ss.map D.str)))
    (h : PE X e (tBM X.K "tuple" (rTIx X.K) (tC (.ref p)) (tCons (tE X.K C U w) tNil))) : PE X e (tE X.K C U (wIxG ss w)) := pe_imp h (e_ixG ho hd)
end Wv
end

section
set_option Elab.async false
set_option linter.all false
set_option maxRecDepth 100000
set_option maxHeartbeats 4000000
namespace Wv
open PySem PySem.Spec PyProof.Rows L2 Evl
section
variable {K : PySem.W.Frag} {C : Cs} {U : UX} {G H G' H' G1 H1 G2 H2 : Hp} {sl sl' : Slots} {rt rt' rt2 : Roots} {σ : L2.St} {ρ ρ' ρ1 ρ2 : List Addr} {fps fps' fps1 fps2 : List (List Addr)}
variable {X : Cx} {CX : CXT} {a b c e o : Expr} {es rest : List Expr} {wa wb wc : WE} {pos p apos cpos : Pos} {Z : WEnds} {E : L2.St → XK} {st : Stmt} {k : Nat} {f Ca : Addr} {fd : FuncData} {ps : List Str} {sp : Sp} {x m name : Str} {ta to : TE} {t : TA} {ds : List Value}
/-! ### a def whose new roots live on -/
abbrev CWR := List Val → (Val → Roots → Prop) → Prop
def isDat : Val → Bool
  | .dat _ => true
  | .ref _ _ => false
variable (K C)
def spR (cw : CWR) : Sp := fun vs H Q _ => ∃ G args k, RSt K C [] [] [] G H ∧ VRs K C G H [] args vs ∧ cw args k ∧
  ∀ x rt' ρ' fps' G' H' v, RSt K C rt' ρ' fps' G' H' → Nx [] G H G' H' fps'.flatten → VR K C G' H' ρ' x v → k x rt' → Q v H'
variable {K C}
def cwOfR (m n : Nat) (w : WS) : CWR := fun args k => args.length = m ∧ w { nx := fun _ _ => False, rt := fun x rt' => k x rt' } (args.map some ++ List.replicate n none) []
theorem w_enterR {N ps : List Str} {n : Nat} {body : WS} {vs : List V} {Q : VK} {E : XK} (hn : N.length = ps.length + n) (h : spR K C (cwOfR ps.length n body) vs H Q E) : tS K C (fun c d _ H => E c d H) body { nx := fun _ H' => Q .non H', rt := Q } (L2.start N vs) H := by
  obtain ⟨G, args, k', r, va, ⟨h1, w⟩, q⟩ := h
  refine ⟨_, _, [], [], [], G, ⟨r, ?_, ?_⟩, w, ⟨?_, ?_, ?_, ?_, ?_, ?_⟩⟩
  · unfold L2.start
    simp only [List.length_append, List.length_map, List.length_replicate]
    rw [va.len, h1]
    omega
  · intro i x e
    by_cases hi : i < args.length
    · rw [List.getElem?_append_left (by rw [List.length_map]; exact hi), List.getElem?_map] at e
      cases e2 : args[i]? with
      | none => rw [e2] at e; cases e
      | some y =>
        rw [e2] at e
        cases e
        obtain ⟨v, h2, h3⟩ := va.get e2
        refine ⟨v, ?_, h3⟩
        unfold L2.start
        rw [List.getElem?_append_left (by rw [List.length_map, va.len]; exact hi), List.getElem?_map, h2]
        rfl
    · rw [List.getElem?_append_right (by rw [List.length_map]; omega), List.getElem?_replicate] at e
      split at e <;> cases e
  · exact fun _ _ _ _ _ _ _ _ _ _ h => h.elim
  · intro x rt' ρ' fps' G' H' v s' n' p' vr h
    exact q x rt' ρ' fps' G' H' v s' n' vr h
  · exact fun _ _ _ _ _ _ _ _ _ _ _ _ _ h => h.elim
  · exact fun _ _ _ _ _ _ _ _ _ _ h => h.elim
  · exact fun _ _ _ _ _ _ _ _ _ _ h => h.elim
  · exact Xf.no
theorem spR_len {ps : List Str} {n : Nat} {body : WS} {vs : List V} {Q : VK} {E : XK} (h : spR K C (cwOfR ps.length n body) vs H Q E) : vs.length = ps.length := by
  obtain ⟨G, args, k, r, v, ⟨h1, _⟩, _⟩ := h
  rw [v.len, h1]
theorem ok_WR {P : Program} {w : World} {mg : Str → Option Value} {base : Heap} {x qual : Str} {st : Stmt} {f : Addr} {fd : FuncData} {N ps : List Str} {k n : Nat} {body : WS}
    (F : Fun K x qual st f fd) (S : FnScope N ps (defScope st)) (hn : N.length = ps.length + n)
    (der : ∀ (cdv : Value) (A : Around) (outer : List Env) (s : Shared) (H : Hp) (E : XK), Room k (A.deeper (envOfC qual (defScope st) s.heap.objs.size f cdv)) → L2N.Takes (cxOf (L2N.CX P w) P w K mg base N qual (defScope st) f cdv A outer s H E) (fun c d _ H => E c d H) →
      PSs (cxOf (L2N.CX P w) P w K mg base N qual (defScope st) f cdv A outer s H E) (defBody st) (tS K C (fun c d _ H => E c d H) body)) :
    FnOk P w K mg base (L2N.CX P w) (k + 1) f fd ps (spR K C (cwOfR ps.length n body)) := by
  obtain ⟨oc, od, kV, doc, pm, an, cdv, ct, osl, rfl, lk, hcd⟩ := F.ex
  exact fn_of lk hcd S (fun vs H Q E h => spR_len h) fun A outer s H vs Q E hr h => ⟨_, der cdv A outer s H E hr (L2N.takes_of rfl rfl rfl rfl), w_enterR hn h⟩
theorem Rts.append : ∀ {rt : Roots} {ρ : List Addr} {fps : List (List Addr)}, Rts K C G H rt ρ fps → Rts K C G H rt2 ρ2 fps2 → Rts K C G H (rt ++ rt2) (ρ ++ ρ2) (fps ++ fps2)
  | _, _, _, .nil, h => h
  | _, _, _, .cons h r, h2 => .cons h (Rts.append r h2)
theorem RSt.join (r : RSt K C rt ρ fps G H) (r2 : RSt K C rt2 ρ2 fps2 G2 H2) (n : Nx [] G H G2 H2 fps2.flatten) : RSt K C (rt ++ rt2) (ρ ++ ρ2) (fps ++ fps2) G2 H2 ∧ Nx fps.flatten G H G2 H2 (fps ++ fps2).flatten := by
  have kp : ∀ a ∈ fps.flatten, H2 a = H a ∧ G2 a = none ∧ H a ≠ none := fun a ha => by
    have hn := r.root.inH a ha
    cases z : H a with
    | none => exact absurd z hn
    | some o =>
      obtain ⟨k1, k2⟩ := n.keep a o z (fun h => nomatch h)
      exact ⟨k1, k2 (r.fr a ha), fun h => nomatch h⟩
  have nw : ∀ a ∈ fps2.flatten, H a = none := fun a ha => by
    rcases n.new a ha with z | z
    · cases z
    · exact z
  refine ⟨⟨r2.sub, Rts.append (Rts.stay n.g r.root fun a ha => (kp a ha).1) r2.root, ?_, ?_⟩, ⟨n.g, fun l o h z => n.keep l o h (fun y => nomatch y), n.dom, fun l hl => ?_, n.idn⟩⟩
  · rw [List.flatten_append]
    exact List.nodup_append.mpr ⟨r.nd, r2.nd, fun a ha b hb e => (kp a ha).2.2 (by rw [e]; exact nw b hb)⟩
  · intro a ha
    rw [List.flatten_append] at ha
    rcases List.mem_append.mp ha with z | z
    · exact (kp a z).2.1
    · exact r2.fr a z
  · rw [List.flatten_append] at hl
    rcases List.mem_append.mp hl with z | z
    · exact .inl z
    · exact .inr (nw l z)
theorem VRs.allD : ∀ {xs : List Val} {vs : List V}, VRs K C G H ρ xs vs → xs.all isDat = true → VRs K C G H ρ' xs vs
  | _, _, .nil, _ => .nil
  | x :: xs, _, .cons h r, e => by
    simp only [List.all_cons, Bool.and_eq_true] at e
    cases x with
    | dat d => exact .cons h (VRs.allD r e.2)
    | ref _ _ => cases e.1
/-- x = f(..), f's new roots behind the caller's -/
def wAsgR (i : Nat) (cw : CWR) (w : WA) : WS := fun Z sl rt => w ⟨sl, Z.ex⟩ rt fun xs rt1 => xs.all isDat = true ∧ cw xs fun x rt2 => match x with
  | .dat d => Z.nx (sl.set i (some (.dat d))) (rt1 ++ rt2)
  | _ => False
theorem s_asgR {i : Nat} {cw : CWR} {w : WA} : ∀ D σ H, tS K C U (wAsgR i cw w) D σ H → tAsg (tCallS (spR K C cw) (fun σ cls d H => U cls d σ H) (tA K C U w)) (gName i) D σ H := fun D σ H ⟨Z, sl, rt, ρ, fps, G, s, w, f⟩ =>
  ⟨⟨sl, Z.ex⟩, rt, ρ, fps, G, _, s, f.xf, w, fun xs rt1 fps1 G1 H1 vs r1 n1 v1 ⟨hd, w1⟩ =>
    ⟨G1, xs, _, ⟨r1.sub, .nil, List.nodup_nil, fun _ h => nomatch h⟩, v1.allD hd, w1, fun x rt' ρ' fps' G' H' v r' n' vr k => by
      cases x with
      | ref _ _ => exact k.elim
      | dat d =>
        obtain ⟨r3, n3⟩ := r1.join r' n'
        have s3 := s.step r3 (n1.trans n3) (Pre.app ρ ρ')
        exact f.nx _ _ _ (ρ ++ ρ') (fps1 ++ fps') G' H' (s3.set (x := .dat d) vr) (n1.trans n3) (Pre.app ρ ρ') k⟩⟩
theorem ws_asgR {i : Nat} {cw : CWR} {w : WA} (h : PS X st (tAsg (tCallS (spR K C cw) (fun σ cls d H => U cls d σ H) (tA K C U w)) (gName i))) : PS X st (tS K C U (wAsgR i cw w)) := ps_imp h s_asgR
/-! ### f(..) of data that holds the place of a root -/
theorem rdd_dat : ∀ (xs : List Val) (rs : List Nat), xs.all isDat = true → rdd rs xs = rs
  | [], _, _ => rfl
  | .dat d :: xs, rs, h => rdd_dat xs rs (by simpa [isDat] using h)
  | .ref _ _ :: xs, _, h => by simp [isDat] at h
def wCallB (cw : CW) (w : WA) : WO := fun sl rt k => w sl rt fun xs rt1 => xs.all isDat = true ∧ ∃ r t, rt1[r]? = some t ∧ t.isD = false ∧ cw xs [t] (fun u ts' => k u (putR rt1 [(r, [])] ts')) fun _ _ => False
theorem o_callB {cw : CW} {w : WA} : ∀ σ H Q, tO K C U (wCallB cw w) σ H Q → tCallS (spW K C cw) (fun σ cls d H => U cls d σ H) (tA K C U w) σ H Q := fun σ H Q ⟨sl, rt, ρ, fps, G, k, s, xf, w, q⟩ =>
  ⟨sl, rt, ρ, fps, G, _, s, xf, w, fun xs rt1 fps1 G1 H1 vs r1 n1 v1 ⟨hd, r, t, h1, h2, w1⟩ => by
    obtain ⟨a, L, fu, R, z1, z2, _, _⟩ := r1.root.split h1
    have e1 : plc (.ref r [] :: xs) = [(r, [])] := by
      show (rdd [r] xs).map _ = _
      rw [rdd_dat xs [r] hd]
      rfl
    have v2 : VRs K C G1 H1 ρ (.ref r [] :: xs) (.ref a :: vs) := .cons ⟨a, z1, rfl, z2.nodeB h2, rfl⟩ v1
    have g1 : getR rt1 (plc (.ref r [] :: xs)) = some [t] := by
      rw [e1]
      have : tatN rt1 r [] = some t := by
        unfold tatN
        rw [h1]
        rfl
      simp only [getR, this]
    have d1 : dst (plc (.ref r [] :: xs)) = true := by
      rw [e1]
      rfl
    obtain ⟨bs, fpsc, b1, b2, b3, b4⟩ := borrowed r1 v2 d1 g1
    rw [e1] at b4
    have e2 : ren (.ref r [] :: xs) = .ref 0 [] :: xs := by
      have : ∀ ys : List Val, ys.all isDat = true → ys.map (renV [r]) = ys := by
        intro ys
        induction ys with
        | nil => exact fun _ => rfl
        | cons y ys ih =>
          intro h
          simp only [List.all_cons, Bool.and_eq_true] at h
          cases y with
          | dat d => rw [List.map_cons, ih h.2]; rfl
          | ref _ _ => cases h.1
      show (Val.ref r [] :: xs).map (renV (rdd [r] xs)) = _
      rw [rdd_dat xs [r] hd, List.map_cons, this xs hd]
      show Val.ref (List.idxOf r [r]) [] :: xs = _
      simp
    rw [e2] at b2
    cases b2 with
    | cons _ b2 =>
      refine ⟨G1, bs, fpsc, xs, [t], _, _, b1, b2, w1, ?_, fun _ _ _ _ _ _ _ _ _ _ h => h.elim⟩
      intro u ts' fpsc' fp G' H' v r' n' o' new hk
      obtain ⟨fps', y1, y2, y3⟩ := b4 ts' fpsc' G' H' r' n'
      exact q u _ fps' fp G' H' v y1 (n1.trans y2) ⟨o'.tr, o'.nd, y3 fp o'.ap new, o'.fr⟩ (fun a ha => (new a ha).elim (fun z => n1.new a (b3 a z)) fun z => .inr (n1.dom a z)) hk⟩
theorem wo_callB {cw : CW} {w : WA} (h : PE X e (tCallS (spW K C cw) (fun σ cls d H => U cls d σ H) (tA K C U w))) : PE X e (tO K C U (wCallB cw w)) := pe_imp h o_callB
end
end Wv
end

section
set_option Elab.async false
set_option linter.all false
set_option maxRecDepth 100000
set_option maxHeartbeats 4000000
namespace Wv
open PySem PySem.Spec PyProof.Rows L2 Evl
section
variable {K : PySem.W.Frag} {C : Cs} {U : UX} {G H G' H' G1 H1 G2 H2 : Hp} {sl sl' : Slots} {rt rt' rt2 : Roots} {σ : L2.St} {ρ ρ' ρ1 ρ2 : List Addr} {fps fps' fps1 fps2 : List (List Addr)}
variable {X : Cx} {CX : CXT} {a b c e o : Expr} {es rest : List Expr} {wa wb wc : WE} {pos p apos cpos p2 pos2 : Pos} {Z : WEnds} {E : L2.St → XK} {st : Stmt} {k : Nat} {f Ca : Addr} {fd : FuncData} {ps : List Str} {sp : Sp} {x m name : Str} {te ta to : TE} {t : TA} {ds : List Value}
/-! ### tuple(range(n)) -/
theorem vals_of : ∀ {xs : List V} {us : List Value}, us.length = xs.length → (∀ (i : Nat) x u, xs[i]? = some x → us[i]? = some u → RelV x u) → Vals xs us
  | [], [], _, _ => .nil
  | x :: xs, u :: us, hl, h => .cons (h 0 x u rfl rfl) (vals_of (by simpa using hl) fun i y v hy hv => h (i + 1) y v (by simpa using hy) (by simpa using hv))
  | [], _ :: _, hl, _ => by simp at hl
  | _ :: _, [], hl, _ => by simp at hl
theorem rsz (n : Nat) : Builtin.Range.rangeSize 0 (n : Int) 1 = (n : Int) := by
  unfold Builtin.Range.rangeSize
  rw [if_pos (by decide)]
  by_cases h : (0 : Int) < n
  · rw [if_pos h]
    omega
  · rw [if_neg h]
    omega
theorem fl {v : Int} (h0 : 0 ≤ v) (h1 : v ≤ 2000) : Builtin.Range.rangeFitsLong v = true := by
  unfold Builtin.Range.rangeFitsLong
  have e : (2 : Int) ^ 63 = 9223372036854775808 := by decide
  rw [e, Bool.and_eq_true, decide_eq_true_eq, decide_eq_true_eq]
  omega
def tTupRng (te : TE) : TE := fun σ H Q => te σ H fun v H1 => ∃ n : Nat, v = .int (n : Int) ∧ n ≤ 1000 ∧ ∀ l, H1 l = none → Q (.ref l) (upd H1 l (.tup ((List.range n).map fun i => V.int (i : Nat))))
theorem pe_tupRng (hc : X.calm = true) (hg : Gl X "tuple") (hm : X.mg "tuple" = none) (hg2 : Gl X "range") (hm2 : X.mg "range" = none) (he : PE X e te)
    (hs : starEach [e] X.env = (false, eval e X.env) :: starEach [] X.env := by rfl)
    (hs2 : starEach [.Call (.Name "range" p2) [e] [] pos2] X.env = (false, eval (.Call (.Name "range" p2) [e] [] pos2) X.env) :: starEach [] X.env := by rfl) :
    PE X (.Call (.Name "tuple" p) [.Call (.Name "range" p2) [e] [] pos2] [] pos) (tTupRng te) := by
  refine ⟨fun pins s σ H Q I h => ?_⟩
  refine PyProof.Rows.Call_ (ld_blt I hg hm PyProof.Rows.boot_tuple (PyProof.Rows.callWith_type1 (PyProof.Rows.args_cons (PyProof.Rows.Call_ (ld_blt I hg2 hm2 PyProof.Rows.boot_range (PyProof.Rows.callWith_type1 (PyProof.Rows.args_cons (thn (he.run pins s σ H _ I h) fun u s1 ⟨v, H1, I1, r1, n, ev, hn, q⟩ => PyProof.Rows.args_nil ?_) hs) hs rfl) (by decide) (by decide))) hs2) hs2 rfl) (by decide) (by decide))
  subst ev
  obtain ⟨t, rfl⟩ := r1
  refine call_range_1 (PyProof.Rows.args_nil ?_)
  refine call_tuple_range (n := n) (I1.ok.hd hc) (Heap.get?_push_size s1.heap rfl) ?_ ?_ (by omega) fun h' tk acc hk hi => ?_
  · have e1 : Builtin.Range.rangeSize 0 (n : Int) 1 = (n : Int) := rsz n
    unfold Builtin.Range.small
    rw [e1, if_pos (by decide), fl (v := 0) (by decide) (by decide), fl (v := (n : Int)) (by omega) (by omega), fl (v := 1) (by decide) (by decide), fl (v := (n : Int) + (1 - 1)) (by omega) (by omega)]
    simp
  · exact rsz n
  · have I3 : L2.Inv X pins σ H1 { heap := h', gens := s1.gens, drawn := s1.drawn, toks := tk, os := s1.os } := Inv.kept I1 fun b u e => hk b u (Heap.get?_push_of_some _ e)
    have hv : Vals ((List.range n).map fun i => V.int (i : Nat)) acc.toList := by
      refine vals_of (by simp [hi.1]) fun i x u hx hu => ?_
      rw [List.getElem?_map] at hx
      obtain ⟨m, hm, rfl⟩ := Option.map_eq_some_iff.mp hx
      obtain ⟨h1, h2⟩ := List.getElem?_eq_some_iff.mp hm
      have h2 : i = m := by simpa using h2
      subst h2
      obtain ⟨t, ht⟩ := hi.2 i u (by rw [← Array.getElem?_toList]; exact hu)
      exact ⟨t, by rw [ht]; congr 1; omega⟩
    refine ⟨V.ref h'.objs.size, upd H1 h'.objs.size (.tup ((List.range n).map fun i => V.int (i : Nat))), Inv.laid (s := { heap := h', gens := s1.gens, drawn := s1.drawn, toks := tk, os := s1.os }) (h' := h'.push { cls := Value.type "tuple", data := Data.seq acc }) I3 (fun c o e => Heap.get?_push_of_some _ e) (Nat.le_refl _) ?_, rfl, q _ (HOk.fresh I3.hok (Nat.le_refl _))⟩
    have e3 := PyProof.Rows.IsTup.new h' acc
    have e4 : acc = acc.toList.toArray := by simp
    refine ⟨by rw [List.length_map, List.length_range]; show n ≤ 2 ^ 24; omega, acc.toList, hv, ?_⟩
    rw [← e4]
    exact e3
/-- tuple(range(n)) -/
def wTupRng (w : WE) : WE := fun sl rt k => w sl rt fun x rt1 => ∃ n : Nat, x = .dat (.int (n : Int)) ∧ n ≤ 1000 ∧ k (.dat (.tup ((List.range n).map fun i => D.int (i : Nat)))) rt1
theorem DRs.of_ints' : ∀ (ns : List Nat), DRs K C G (ns.map fun i => V.int (i : Nat)) (ns.map fun i => D.int (i : Nat))
  | [] => .nil
  | n :: ns => .cons (.int _) (DRs.of_ints' ns)
theorem e_tupRng {w : WE} : ∀ σ H Q, tE K C U (wTupRng w) σ H Q → tTupRng (tE K C U w) σ H Q := fun σ H Q ⟨sl, rt, ρ, fps, G, k, s, xf, w, q⟩ =>
  ⟨sl, rt, ρ, fps, G, _, s, xf, w, fun x rt1 fps1 G1 H1 v r1 n1 v1 ⟨n, hx, hn, w1⟩ => by
    subst hx
    cases v1
    refine ⟨n, rfl, hn, fun p hp => ?_⟩
    exact q (.dat (.tup _)) rt1 fps1 _ _ _ (r1.laid hp) (n1.trans (Nx.laid r1.sub hp _)) (.tup (st_of upd_same) (DRs.of_ints' _)) w1⟩
theorem we_tupRng {w : WE} (h : PE X e (tTupRng (tE K C U w))) : PE X e (tE K C U (wTupRng w)) := pe_imp h e_tupRng
/-! ### targets: of a list, of a pair whose second is a tuple -/
def tgLst (js : List Nat) : Tg := fun d sl k => match d with
  | .lst ds => ds.length = js.length ∧ k (setAll js ds sl)
  | _ => False
theorem tg_lst {js : List Nat} {n : Nat} (hn : n = js.length) : TgOk K C (gLst K n (gAll js)) (tgLst js) := fun d v sl rt σ ρ fps G H k Q s h w q => by
  unfold tgLst at w
  split at w
  · cases h with
    | lst h2 r => exact ⟨_, _, rfl, sq_of (s.sub _ _ h2), by rw [r.len, w.1, hn], gall s r w.1 fun σ2 s2 => q _ σ2 w.2 s2⟩
  · exact w.elim
def tgNest (j : Nat) (js : List Nat) : Tg := fun d sl k => match d with
  | .tup [x, y] => tgTup js y (sl.set j (some (.dat x))) k
  | _ => False
theorem tg_nest {j : Nat} {js : List Nat} {n : Nat} (hn : n = js.length) : TgOk K C (gTup K 2 (gCons (gName j) (gCons (gTup K n (gAll js)) gNil))) (tgNest j js) := fun d v sl rt σ ρ fps G H k Q s h w q => by
  unfold tgNest at w
  split at w
  · rename_i x y
    cases h with
    | tup h2 r =>
      cases r with
      | cons hx r =>
        cases r with
        | cons hy r =>
          cases r
          refine ⟨_, _, rfl, ex_t s.sub h2, rfl, ⟨_, _, rfl, ?_⟩⟩
          refine ⟨_, _, rfl, ?_⟩
          exact tg_tup hn y _ _ rt _ ρ fps G H k _ (s.set (x := .dat x) hx) hy w fun sl2 σ2 h s2 => ⟨rfl, q sl2 σ2 h s2⟩
  · exact w.elim
/-! ### a new list whose items are new: each item a root of its own -/
def notD (t : T) : Bool := !t.isD
theorem TRs.items : ∀ {ts : List T} {xs : List V} {fq : List Addr}, TRs K C G H xs ts fq → ts.all notD = true → ∃ as fps', xs = as.map V.ref ∧ as.length = ts.length ∧ Rts K C G H (List.zipWith T.nm as ts) as fps' ∧ fps'.flatten = fq
  | [], _, _, .nil, _ => ⟨[], [], rfl, rfl, .nil, rfl⟩
  | t :: ts, _, _, .cons (fp := fp) h r, e => by
    simp only [List.all_cons, Bool.and_eq_true] at e
    obtain ⟨as, fps', rfl, h2, h3, h4⟩ := TRs.items r e.2
    obtain ⟨a, rfl, _⟩ := h.nodeB (by have e1 : notD t = true := e.1; unfold notD at e1; simpa using e1)
    exact ⟨a :: as, fp :: fps', rfl, by simp [h2], .cons (.nm h) h3, by simp [h4]⟩
theorem TRs.csts : ∀ as : List Addr, TRs K C G H (as.map V.ref) (as.map fun a => T.dat (.cst (.ref a))) []
  | [] => .nil
  | a :: as => TRs.cons (fp := []) (fq := []) (.dat (.cst _)) (TRs.csts as)
def wNewSplit (i : Nat) (w : WO) : WS := fun Z sl rt => w ⟨sl, Z.ex⟩ rt fun t rt1 => match t.strip with
  | .lst ts => ts.all notD = true ∧ ∀ as : List Addr, as.length = ts.length → Z.nx (sl.set i (some (.ref rt1.length []))) (rt1 ++ (.lst (as.map fun a => T.dat (.cst (.ref a))) :: List.zipWith T.nm as ts))
  | _ => False
theorem s_newSplit {i : Nat} {w : WO} : ∀ D σ H, tS K C U (wNewSplit i w) D σ H → tAsg (tO K C U w) (gName i) D σ H := fun D σ H ⟨Z, sl, rt, ρ, fps, G, s, w, f⟩ =>
  ⟨⟨sl, Z.ex⟩, rt, ρ, fps, G, _, s, f.xf, w, fun t rt1 fps1 fp G1 H1 v r1 n1 o1 new w1 => by
    have s1 := s.step r1 n1 fun _ _ e => e
    have o2 := o1.tr.strip
    split at w1
    · rename_i ts ht
      rw [ht] at o2
      cases o2 with
      | @lst L xs _ fq hL tr =>
        obtain ⟨as, fps', rfl, ha, hr, hf⟩ := tr.items w1.1
        have flat : (fps1 ++ ([L] :: fps')).flatten = fps1.flatten ++ (L :: fq) := by simp [hf]
        have r2 : RSt K C (rt1 ++ (.lst (as.map fun a => T.dat (.cst (.ref a))) :: List.zipWith T.nm as ts)) (ρ ++ (L :: as)) (fps1 ++ ([L] :: fps')) G1 H1 := by
          refine ⟨r1.sub, Rts.append r1.root (.cons (.lst hL (TRs.csts as)) hr), ?_, ?_⟩
          · rw [flat]
            exact List.nodup_append.mpr ⟨r1.nd, o1.nd, fun x hx y hy z => o1.ap y hy (by rw [← z]; exact hx)⟩
          · intro x hx
            rw [flat] at hx
            rcases List.mem_append.mp hx with z | z
            · exact r1.fr x z
            · exact o1.fr x z
        have n2 : Nx fps.flatten G H G1 H1 (fps1 ++ ([L] :: fps')).flatten := ⟨n1.g, n1.keep, n1.dom, fun l hl => by
          rw [flat] at hl
          rcases List.mem_append.mp hl with z | z
          · exact n1.new l z
          · exact new l z, n1.idn⟩
        have s2 := s.step r2 n2 (Pre.app ρ (L :: as))
        refine f.nx _ _ _ _ _ G1 H1 (s2.set (x := .ref rt1.length []) ⟨L, ?_, rfl, ⟨L, rfl, .inl ⟨_, hL⟩⟩, rfl⟩) n2 (Pre.app ρ (L :: as)) (w1.2 as ha)
        rw [← r1.root.lens.1]
        simp
    · exact w1.elim⟩
theorem ws_newSplit {i : Nat} {w : WO} (h : PS X st (tAsg (tO K C U w) (gName i))) : PS X st (tS K C U (wNewSplit i w)) := ps_imp h s_newSplit
theorem s_setLcSplit {i : Nat} {it : WI} {tg : Tg} {g : TG} {vs : List Nat} {tt : WT} {elt : WO} (hg : TgOk K C g tg) (hw : TgW g vs) (h : PS X st (tAsg (tLc (tI K C U it) g (tT K C noU tt) (tO K C noU elt) vs) (gName i))) : PS X st (tS K C U (wNewSplit i (wLc it tg vs tt elt))) :=
  ps_imp h fun D σ H q => o_lc hg hw σ H _ (s_newSplit D σ H q)
/-! ### xs[i] = something new, a root of its own -/
def wSetNew (w : WO) (wx wi : WE) : WS := fun Z sl rt => w ⟨sl, Z.ex⟩ rt fun t rt1 => (∀ d, t.strip ≠ .dat d) ∧ ∀ a : Addr, wx ⟨sl, Z.ex⟩ (rt1 ++ [.nm a t]) fun x rt2 => wi ⟨sl, Z.ex⟩ rt2 fun n rt3 => match x, n with
    | .ref r p, .dat (.int n) => match tat rt3 r p with
      | some (.lst ts) => ∃ j u, ixN ts.length n = some j ∧ ts[j]? = some u ∧ leafT u = true ∧ Z.nx sl (rt3.modify r (T.put (.lst (ts.set j (.dat (.cst (.ref a))))) p))
      | _ => False
    | _, _ => False
theorem s_setNew {w : WO} {wx wi : WE} : ∀ D σ H, tS K C U (wSetNew w wx wi) D σ H → tAsg (tO K C U w) (gSub (tE K C U wx) (tE K C U wi) rSetL) D σ H := fun D σ H ⟨Z, sl, rt, ρ, fps, G, s, w, f⟩ =>
  ⟨⟨sl, Z.ex⟩, rt, ρ, fps, G, _, s, f.xf, w, fun t rt1 fps1 fp G1 H1 vy r1 n1 o1 new ⟨nd, w1⟩ => by
    obtain ⟨a, rfl, hn⟩ := o1.tr.nodeV nd
    have r1' := r1.app (t := .nm a t) ⟨.nm o1.tr, o1.nd, o1.ap, o1.fr⟩
    have n1' : Nx fps.flatten G H G1 H1 (fps1 ++ [fp]).flatten := new_flat n1 new
    have s1' := s.step r1' n1' (Pre.app ρ [a])
    refine ⟨⟨sl, Z.ex⟩, rt1 ++ [.nm a t], ρ ++ [a], fps1 ++ [fp], G1, _, s1', f.xf.later n1' (Pre.app ρ [a]), w1 a, fun x rt2 fps2 G2 H2 vx r2 n2 v2 w2 =>
      ⟨⟨sl, Z.ex⟩, rt2, ρ ++ [a], fps2, G2, _, s1'.step r2 n2 fun _ _ e => e, f.xf.later (n1'.trans n2) (Pre.app ρ [a]), w2, fun n rt3 fps3 G3 H3 vn r3 n3 v3 w3 => ?_⟩⟩
    split at w3
    · rename_i r p n
      split at w3
      · rename_i ts ht
        obtain ⟨j, u, hj, hu, hl, w3⟩ := w3
        have v2 := v2.up n3 fun _ _ e => e
        have v1 : DR K C G3 (.ref a) (.cst (.ref a)) := .cst _
        cases v3
        obtain ⟨a', fu, z1, z2, z3, _⟩ := r3.get ht v2
        cases z3 with
        | @lst b xs _ fq hb tr =>
          obtain ⟨vo, fo, q1, q2, _⟩ := tr.get hu
          have idn : Idn H3 (upd H3 b (.lst (xs.set j (.ref a)))) := idn_lst hb fun i q hq nq => by
            by_cases z : j = i
            · subst z
              rw [q1] at hq
              cases hq
              exact absurd nq ((leaf_ok hl q2).2.2 _ r3.sub)
            · rw [List.getElem?_set_ne z]
              exact hq
          obtain ⟨fps4, r4, mem, hbF⟩ := r3.write (t' := .lst (ts.set j (.dat (.cst (.ref a))))) (fn := []) ht z1 z2 (by intro d q; cases q) idn (fun fu hfu => by
            cases hfu with
            | @lst _ xs' _ fq' hb' tr' =>
              rw [hb] at hb'
              cases hb'
              refine ⟨List.mem_cons_self, fun nd dis => ?_⟩
              have nb := (List.nodup_cons.mp nd).1
              refine ⟨b :: fq', .lst upd_same (TRs.set (TRs.stay (Ex.refl _) _ _ _ tr' fun q hq => upd_ne fun z => nb (by rw [← z]; exact hq)) hu hl v1), ?_⟩
              rw [List.append_nil]) List.nodup_nil (fun _ q => nomatch q) (fun _ q => nomatch q)
          refine ⟨b, xs, n, j, rfl, rfl, hb, by rw [TRs.len tr]; exact hj, ?_⟩
          have nW : Nx fps3.flatten G3 H3 G3 (upd H3 b (.lst (xs.set j (.ref a)))) fps3.flatten := Nx.write (fps' := fps3) hbF (by rw [hb]; exact fun q => nomatch q) idn (fp := []) (fun _ q => nomatch q)
          have n4 := (n1'.trans (n2.trans n3)).trans nW
          have n5 : Nx fps.flatten G H G3 (upd H3 b (.lst (xs.set j (.ref a)))) fps4.flatten := n4.less fun l hl => by
            rcases mem l hl with q | q
            · exact q
            · cases q
          exact f.nx sl _ σ (ρ ++ [a]) fps4 G3 _ (s.step r4 n5 (Pre.app ρ [a])) n5 (Pre.app ρ [a]) w3
      · exact w3.elim
    · exact w3.elim⟩
theorem ws_setNew {w : WO} {wx wi : WE} (h : PS X st (tAsg (tO K C U w) (gSub (tE K C U wx) (tE K C U wi) rSetL))) : PS X st (tS K C U (wSetNew w wx wi)) := ps_imp h s_setNew
/-! ### a def that gets all roots, whose new roots live on -/
abbrev CWA := List Val → Roots → (Roots → Prop) → Prop
variable (K C)
def spA (cw : CWA) : Sp := fun vs H Q _ => ∃ G ρ fps args rt k, RSt K C rt ρ fps G H ∧ VRs K C G H ρ args vs ∧ cw args rt k ∧
  ∀ rt' ρ' fps' G' H', RSt K C rt' ρ' fps' G' H' → Nx fps.flatten G H G' H' fps'.flatten → Pre ρ ρ' → k rt' → Q .non H'
variable {K C}
def cwOfA (m n : Nat) (w : WS) : CWA := fun args rt k => args.length = m ∧ w { nx := fun _ rt' => k rt' } (args.map some ++ List.replicate n none) rt
theorem w_enterA {N ps : List Str} {n : Nat} {body : WS} {vs : List V} {Q : VK} {E : XK} (hn : N.length = ps.length + n) (h : spA K C (cwOfA ps.length n body) vs H Q E) : tS K C (fun c d _ H => E c d H) body { nx := fun _ H' => Q .non H', rt := Q } (L2.start N vs) H := by
  obtain ⟨G, ρ, fps, args, rt, k', r, va, ⟨h1, w⟩, q⟩ := h
  refine ⟨_, _, rt, ρ, fps, G, ⟨r, ?_, ?_⟩, w, ⟨?_, ?_, ?_, ?_, ?_, ?_⟩⟩
  · unfold L2.start
    simp only [List.length_append, List.length_map, List.length_replicate]
    rw [va.len, h1]
    omega
  · intro i x e
    by_cases hi : i < args.length
    · rw [List.getElem?_append_left (by rw [List.length_map]; exact hi), List.getElem?_map] at e
      cases e2 : args[i]? with
      | none => rw [e2] at e; cases e
      | some y =>
        rw [e2] at e
        cases e
        obtain ⟨v, h2, h3⟩ := va.get e2
        refine ⟨v, ?_, h3⟩
        unfold L2.start
        rw [List.getElem?_append_left (by rw [List.length_map, va.len]; exact hi), List.getElem?_map, h2]
        rfl
    · rw [List.getElem?_append_right (by rw [List.length_map]; omega), List.getElem?_replicate] at e
      split at e <;> cases e
  · intro sl' rt' σ' ρ' fps' G' H' s' n' p' h
    exact q rt' ρ' fps' G' H' s'.toRSt n' p' h
  · exact fun _ _ _ _ _ _ _ _ _ _ _ h => h.elim
  · exact fun _ _ _ _ _ _ _ _ _ _ _ _ _ h => h.elim
  · exact fun _ _ _ _ _ _ _ _ _ _ h => h.elim
  · exact fun _ _ _ _ _ _ _ _ _ _ h => h.elim
  · exact Xf.no
theorem spA_len {ps : List Str} {n : Nat} {body : WS} {vs : List V} {Q : VK} {E : XK} (h : spA K C (cwOfA ps.length n body) vs H Q E) : vs.length = ps.length := by
  obtain ⟨G, ρ, fps, args, rt, k, r, v, ⟨h1, _⟩, _⟩ := h
  rw [v.len, h1]
theorem ok_WA {P : Program} {w : World} {mg : Str → Option Value} {base : Heap} {x qual : Str} {st : Stmt} {f : Addr} {fd : FuncData} {N ps : List Str} {k n : Nat} {body : WS}
    (F : Fun K x qual st f fd) (S : FnScope N ps (defScope st)) (hn : N.length = ps.length + n)
    (der : ∀ (cdv : Value) (A : Around) (outer : List Env) (s : Shared) (H : Hp) (E : XK), Room k (A.deeper (envOfC qual (defScope st) s.heap.objs.size f cdv)) → L2N.Takes (cxOf (L2N.CX P w) P w K mg base N qual (defScope st) f cdv A outer s H E) (fun c d _ H => E c d H) →
      PSs (cxOf (L2N.CX P w) P w K mg base N qual (defScope st) f cdv A outer s H E) (defBody st) (tS K C (fun c d _ H => E c d H) body)) :
    FnOk P w K mg base (L2N.CX P w) (k + 1) f fd ps (spA K C (cwOfA ps.length n body)) := by
  obtain ⟨oc, od, kV, doc, pm, an, cdv, ct, osl, rfl, lk, hcd⟩ := F.ex
  exact fn_of lk hcd S (fun vs H Q E h => spA_len h) fun A outer s H vs Q E hr h => ⟨_, der cdv A outer s H E hr (L2N.takes_of rfl rfl rfl rfl), w_enterA hn h⟩
/-- f(..) as a statement -/
def wDoA (cw : CWA) (w : WA) : WS := fun Z sl rt => w ⟨sl, Z.ex⟩ rt fun xs rt1 => cw xs rt1 fun rt2 => Z.nx sl rt2
theorem ws_doA {cw : CWA} {w : WA} (h : PE X e (tCallS (spA K C cw) (fun σ cls d H => U cls d σ H) (tA K C U w))) (hs : swapsWith e none pos.line X.env = pure false := by rfl) : PS X (.Expr e pos) (tS K C U (wDoA cw w)) := ps_imp (ps_expr h hs) fun D σ H ⟨Z, sl, rt, ρ, fps, G, s, w, f⟩ =>
  ⟨⟨sl, Z.ex⟩, rt, ρ, fps, G, _, s, f.xf, w, fun xs rt1 fps1 G1 H1 vs r1 n1 v1 w1 => ⟨G1, ρ, fps1, xs, rt1, _, r1, v1, w1, fun rt' ρ' fps' G' H' r' n' p' k => f.nx sl rt' σ ρ' fps' G' H' (s.step r' (n1.trans n') p') (n1.trans n') p' k⟩⟩
/-! ### not in a tuple of data -/
theorem op_ninT (hu : X.A.units + 64 < cLine) : OpR X (compareOp .NotIn) (rInT X.K true) := by
  intro pins s σ H x y v u Q I rx ry h
  obtain ⟨d, ds, hd, he, sd, dep, se, q⟩ := h
  obtain ⟨as, r1⟩ := Dp.reads I d x v hd rx
  obtain ⟨bs, r2⟩ := Dp.reads I (.tuple ds) y u he ry
  exact SeqAt.notIn_tuple_reads r2 r1 (SeqAt.canLay_of_shaped se) (SeqAt.canLay_of_shaped sd) (by omega) ⟨.bl _, H, I, rfl, q⟩
def sNinT : Sem2 := fun x y _ k => match x, y with
  | .dat d, .dat (.tup ds) => ∃ px ps, d.py = some px ∧ D.pys ds = some ps ∧ SeqAt.shaped px = true ∧ px.depth ≤ 32 ∧ SeqAt.shaped (.tuple ps) = true ∧ k (.bool (!(ps.any fun z => PyData.eqv z px)))
  | _, _ => False
theorem s_ninT : S2 K C sNinT (rInT K true) := fun rt ρ fps G H x y v u s a b k Q w q => by
  unfold sNinT at w
  split at w
  · obtain ⟨px, ps, h1, h2, h3, h5, h4, w⟩ := w
    exact ⟨px, ps, DR.py s.sub _ _ _ a h1, DR.py s.sub _ _ _ b (by simp [D.py, h2]), h3, h5, h4, q _ _ w (.bool _)⟩
  · exact w.elim
/-! ### repr of data -/
def rRepr (K : PySem.W.Frag) : List V → Hp → VK → Prop := fun xs H Q => ∃ v d, xs = [v] ∧ Dp K H v d ∧ ((∃ a, v = .ref a) ∨ v = .non) ∧ d.showable = true ∧ d.hasDict = false ∧ d.depth ≤ 60 ∧ d.shown.length ≤ sizeLine ∧ Q (.str d.shown) H
theorem cr_repr (hG : X.A.guards = some []) (hu : X.A.units + 64 < cLine) : CallR X (.builtin "repr") (rRepr X.K) := by
  intro pins s σ H xs us Q I r h
  obtain ⟨v, d, rfl, hd, hv, h1, h2, h3, h4, q⟩ := h
  cases r with
  | cons r0 rr =>
    cases rr
    rcases hv with ⟨a, rfl⟩ | rfl
    · obtain rfl : _ = Value.ref a := r0
      obtain ⟨as, rd⟩ := Dp.reads I d (.ref a) (Value.ref a) hd rfl
      exact repr_of_reads' rd h1 (fun z => by rw [h2] at z; cases z) hG (by omega) (fun _ _ e => e) (fun h' u tk hk => ⟨.str d.shown, H, Inv.kept I hk, ⟨u, rfl⟩, q⟩) h4
    · obtain rfl : _ = Value.none := r0
      cases hd
      exact PySem.P.repr_of_none ⟨.str _, H, Inv.kept I fun _ _ e => e, ⟨_, rfl⟩, q⟩
def fRepr : SemA := fun xs rt k => match xs with
  | [x] => ∃ d, valPy x rt = some d ∧ (match d with | .none => True | .list _ => True | .tuple _ => True | _ => False) ∧ d.showable = true ∧ d.hasDict = false ∧ d.depth ≤ 60 ∧ d.shown.length ≤ sizeLine ∧ k (.str d.shown)
  | _ => False
theorem sa_repr : SA K C fRepr (rRepr K) := fun rt ρ fps G H xs vs s v k Q w q => by
  unfold fRepr at w
  split at w
  · obtain ⟨d, h1, h2, h3, h4, h5, h6, w⟩ := w
    cases v with
    | cons h r =>
      cases r
      have hd := s.valPy h1 h
      refine ⟨_, d, rfl, hd, ?_, h3, h4, h5, h6, q _ _ w (.str _)⟩
      cases hd with
      | non => exact .inr rfl
      | lst _ _ => exact .inl ⟨_, rfl⟩
      | tup _ _ => exact .inl ⟨_, rfl⟩
      | bl _ => exact h2.elim
      | int _ => exact h2.elim
      | str _ => exact h2.elim
  · exact w.elim
end
end Wv
end

section
set_option Elab.async false
set_option linter.all false
set_option maxRecDepth 100000
set_option maxHeartbeats 4000000
namespace Wv
open PySem PySem.Spec PyProof.Rows L2 Evl
/-! ### a def that is called where no guard stands (repr) -/
structure FnG (P : Program) (w : World) (K : PySem.W.Frag) (mg : Str → Option Value) (base : Heap) (k : Nat) (f : Addr) (fd : FuncData) (ps : List Str) (sp : Sp) : Prop where
  len : ∀ vs H Q E, sp vs H Q E → vs.length = ps.length
  run : ∀ (A : Around) (outer : List Env) (s : Shared) (H : Hp) (args : Args) (us : List Value) (vs : List V) (Q : VK) (E : XK), Room k A → A.guards = some [] → Env0 P w K mg base A outer s H → BindsTo s fd args (ps.zip us) → Vals vs us → sp vs H Q E →
    codeAny (model P w) A (Code.call (Value.ref f) args) (CR CX0 outer P w H s Q E) s
theorem fnG_of {P : Program} {w : World} {K : PySem.W.Frag} {mg : Str → Option Value} {base : Heap} {k : Nat} {f : Addr} {name qual : Str} {params : Arguments} {body : List Stmt} {scope : Scope} {dV kV doc pm cdv ct oc : Value} {an od : Option Addr} {osl : Array (Option Value)} {N ps : List Str} {sp : Sp}
    (lk : List.lookup f K = some { cls := oc, dict := od, data := Data.func (PySem.W.fnOf name qual params body scope dV kV doc pm an cdv ct), slots := osl }) (hcd : PySem.W.codeIn K cdv qual = true) (S : FnScope N ps scope) (len : ∀ vs H Q E, sp vs H Q E → vs.length = ps.length)
    (hbody : ∀ (A : Around) (outer : List Env) (s : Shared) (H : Hp) (vs : List V) (Q : VK) (E : XK), A.guards = some [] → Room k (A.deeper (PyProof.Rows.envOfC qual scope s.heap.objs.size f cdv)) → sp vs H Q E →
      ∃ t, PSs (cxOf CX0 P w K mg base N qual scope f cdv A outer s H E) body t ∧ t { nx := fun x H' => Q V.non H', rt := Q } (L2.start N vs) H) :
    FnG P w K mg base (k + 1) f (PySem.W.fnOf name qual params body scope dV kV doc pm an cdv ct) ps sp := by
  refine ⟨len, fun A outer s H args us vs Q E hr hG e0 hb r hsp => ?_⟩
  have hl := len vs H Q E hsp
  have KX := PySem.W.Frag.In.keeps e0.mod.kin fun b o e => (e0.bs b o e).1
  have lim := Heap.NoLimit.keeps e0.mod.nolimit fun b o e => (e0.bs b o e).1
  have hkind : ∀ x : Str × Value, x ∈ ps.zip us → List.lookup x.fst scope.names = some NameKind.local ∨ List.lookup x.fst scope.names = some NameKind.cell ∧ (List.lookup x.fst (cellsFrom (s.heap.objs.size + 1) scope.names [])).isSome = true := fun x hy => by
    obtain ⟨n, v⟩ := x
    rcases S.par n (List.of_mem_zip hy).1 with q | q
    · exact .inl q
    · exact .inr ⟨q, PySem.W.cellsFrom_some scope.names (s.heap.objs.size + 1) [] (.inl q)⟩
  refine codeAny_call_function (Room.depth hr) (KX f _ lk) rfl S.co S.gen rfl (PySem.W.codeRec_of KX hcd) (hb (model P w) A.in1 _ _ (wpAny_newFunctionEnv_cells S.kind hkind fun env he s1 x => ?_))
  subst he
  refine ⟨Heap.NoLimit.keeps lim x.toInCall.keep, codeAny_func ?_⟩
  obtain ⟨t, ht, hq⟩ := hbody A outer s H vs Q E hG (hr.deeper _) hsp
  have I : L2.Inv (cxOf CX0 P w K mg base N qual scope f cdv A outer s H E) [] (L2.start N vs) H s1 := inv_start (CX := CX0) (E := E) S hr.hd e0 hl r x
  refine wpAny_mono (ht.run [] s1 (L2.start N vs) H { nx := fun x H' => Q V.non H', rt := Q } I hq) (fun fl s' hs => ?_) fun e s' hs => hs
  cases fl with
  | ret u =>
    obtain ⟨v, σ', H', J, rv, q⟩ := hs
    exact ⟨v, H', J.os, J.bare, J.base, J.hok, rv, q⟩
  | _ =>
    first
    | (obtain ⟨_, _, _, q⟩ := hs; exact q.elim)
    | (obtain ⟨σ', H', J, q⟩ := hs; exact ⟨V.non, H', J.os, J.bare, J.base, J.hok, rfl, q⟩)
section
variable {K : PySem.W.Frag} {C : Cs}
theorem ok_W0G {P : Program} {w : World} {mg : Str → Option Value} {base : Heap} {x qual : Str} {st : Stmt} {f : Addr} {fd : FuncData} {N ps : List Str} {k n : Nat} {body : WS}
    (F : Fun K x qual st f fd) (S : FnScope N ps (defScope st)) (hn : N.length = ps.length + n)
    (der : ∀ (cdv : Value) (A : Around) (outer : List Env) (s : Shared) (H : Hp) (E : XK), A.guards = some [] → Room k (A.deeper (envOfC qual (defScope st) s.heap.objs.size f cdv)) → L2N.Takes (cxOf CX0 P w K mg base N qual (defScope st) f cdv A outer s H E).nox (fun _ _ _ _ => False) →
      PSs (cxOf CX0 P w K mg base N qual (defScope st) f cdv A outer s H E).nox (defBody st) (tS K C (fun _ _ _ _ => False) body)) :
    FnG P w K mg base (k + 1) f fd ps (fun vs H Q _ => spW K C (cwOf ps.length n body) vs H Q fun _ _ _ => False) := by
  obtain ⟨oc, od, kV, doc, pm, an, cdv, ct, osl, rfl, lk, hcd⟩ := F.ex
  refine fnG_of lk hcd S (fun vs H Q E h => spW_len h) fun A outer s H vs Q E hG hr h => ?_
  refine ⟨_, PSs.nox (der cdv A outer s H E hG hr (fun u s' x => ?_)), w_enter hn h⟩
  obtain ⟨_, _, _, _, _, _, _, _, _, _, _, _, _, _, _, _, z⟩ := x
  exact z.elim
end
end Wv
end

section
set_option Elab.async false
set_option linter.all false
set_option maxRecDepth 100000
set_option maxHeartbeats 4000000
namespace Wv
open PySem PySem.Spec PyProof.Rows L2 Evl
/-! ### the law's call where its promise stands at no guard -/
theorem script_heap {P : Program} {w : World} {K : PySem.W.Frag} {h : Heap} {a : Addr} {vs : List Value} {ns : List Int} (KX : K.In h)
    (ha : h.get? a = some { cls := .type "list", data := .seq vs.toArray }) (hi : IntsAre vs ns) (hl : ns.length ≤ sizeLine) :
    ∃ H : Hp, (∀ b u, H b = some u → b = a ∧ K.lookup a = none ∧ ∃ o xs, u = .frz o (.lst xs)) ∧ SqL K H a (ns.map V.int) ∧ HOk P w H h := by
  have rel := vals_ints hi
  cases q : K.lookup a with
  | none =>
    refine ⟨fun b => if b = a then some (.frz { cls := .type "list", data := .seq vs.toArray } (.lst (ns.map V.int))) else none, fun b u e => ?_, .inl (.inr ⟨_, if_pos rfl⟩), fun b u e => ?_⟩
    · have e : (if b = a then some (HO.frz { cls := .type "list", data := .seq vs.toArray } (.lst (ns.map V.int))) else none) = some u := e
      split at e
      · rename_i z
        exact ⟨z, rfl, _, _, (Option.some.inj e).symm⟩
      · cases e
    · by_cases z : b = a
      · subst z
        have y := (if_pos rfl).symm.trans e
        cases Option.some.inj y
        exact ⟨ha, by rw [List.length_map]; exact hl, vs, _, rel, ha⟩
      · exact nomatch (if_neg z).symm.trans e
  | some o =>
    have e := KX a o q
    rw [ha] at e
    cases e
    exact ⟨fun _ => none, (fun b u e => by cases (show (none : Option HO) = some u from e)), .inr ⟨_, vs.toArray, _, q, rfl, rfl, rfl, by rw [List.size_toArray, hi.length]; exact hl, by simpa using rel⟩, (fun b u e => by cases (show (none : Option HO) = some u from e))⟩
theorem law_callG {P : Program} {w : World} {K : PySem.W.Frag} {mg mb : Str → Option Value} {k : Nat} {fa a : Addr} {fd : FuncData} {x : Str} {sp : Sp} {s : Shared} {vs : List Value} {ns : List Int}
    (KX : K.In s.heap) (n1 : s.heap.Ns mainGlobals mg) (n2 : s.heap.Ns builtinsNs mb) (n3 : ∀ y : Str, y ≠ "__name__" → mb y = bootBuiltins y) (n4 : s.heap.NoLimit) (ng : s.gens = #[])
    (ha : s.heap.get? a = some { cls := .type "list", data := .seq vs.toArray }) (hi : IntsAre vs ns) (hl : ns.length ≤ sizeLine) (hr : Room k callerA)
    (F : ∀ base : Heap, K.In base → base.Ns mainGlobals mg → FnG P w K mg base k fa fd [x] sp) (bi : ∀ (t : Shared) (u : Value), BindsTo t fd ⟨[u], []⟩ [(x, u)])
    (want : ∀ H : Hp, SqL K H a (ns.map V.int) → sp [.ref a] H (fun v _ => v = .bl true) fun _ _ _ => False) :
    codeAny (model P w) callerA (.call (.ref fa) ⟨[.ref a], []⟩) (fun r t => r = .ok (.ret (.bool true)) ∧ OldK s.heap t.heap ∧ t.os = s.os ∧ AllBare t.gens) s := by
  obtain ⟨H, only, sq, hok⟩ := script_heap (P := P) (w := w) KX ha hi hl
  -- what is not the script is not told by H
  have free : ∀ {b : Addr} {o : Obj}, s.heap.get? b = some o → (b = a → K.lookup a ≠ none ∨ ∃ es ep, o.data = .dict es ep) → (hidT s.heap H).get? b = some o := fun {b o} e d => by
    refine hidT_get e ?_
    cases q : H b with
    | none => rfl
    | some u =>
      obtain ⟨z, z2, _⟩ := only b u q
      rcases d z with y | ⟨es, ep, y⟩
      · exact absurd z2 y
      · rw [z, ha] at e
        cases e
        cases y
  have names : ∀ {b : Addr} {m : Str → Option Value}, s.heap.Ns b m → (hidT s.heap H).Ns b m := fun {b m} h => by
    obtain ⟨o, es, ep, e, d, r⟩ := h
    exact ⟨o, es, ep, free e fun _ => .inr ⟨es, ep, d⟩, d, r⟩
  have kin : K.In (hidT s.heap H) := fun b o e => free (KX b o e) fun z => .inl (by rw [← z, e]; exact fun y => nomatch y)
  obtain ⟨mc, l1, l2⟩ := n4
  have env : Env0 P w K mg (hidT s.heap H) callerA [] s H :=
    ⟨rfl, ⟨kin, names n1, ⟨mb, names n2, n3⟩, mc, names l1, l2⟩, fun b o e => of_hidT e, Nat.le_of_eq (hidT_size _ _), trivial, fun b z => (List.not_mem_nil z).elim, hok, .of_eq ng⟩
  have run := (F _ kin (names n1)).run callerA [] s H ⟨[.ref a], []⟩ [.ref a] [.ref a] _ _ hr rfl env (bi s (.ref a)) (.cons rfl .nil) (want H sq)
  refine codeAny_mono run fun r t z => ?_
  match r, z with
  | .ok (.ret u), ⟨v, H', os, bare, un, hok', rel, q⟩ =>
    have q : v = .bl true := q
    subst q
    obtain rfl : u = Value.bool true := rel
    refine ⟨rfl, OldK.of_keep fun b o e => ?_, os, bare⟩
    cases y : H b with
    | none => exact un.keep b o e y (fun z => (List.not_mem_nil z).elim) (by simp)
    | some g =>
      obtain ⟨_, _, o2, xs, rfl⟩ := only b g y
      have y2 := un.frzs b o2 _ y
      obtain ⟨e1, _⟩ := hok b _ y
      obtain ⟨e2, _⟩ := hok' b _ y2
      rw [e] at e1
      cases e1
      exact e2
theorem walk_ofG {l : PySem.W.OpenLaw} {n k : Nat} {q : Program} {loose : List Str} {XP : (Str → Option Value) → Heap → Prop} {YP : World → Heap → Prop} {d : DefRec} {K : Params → PySem.W.Frag} {sp : World → Sp} {x : Str}
    (m1 : l.most = some n) (m2 : n ≤ sizeLine) (nodef : d.params.defaults = []) (hr : Room k callerA)
    (hY : ∀ (w : World) (h : Heap), YP w h → (K w.params).In h)
    (F : ∀ (w : World) (mg : Str → Option Value) (fa : Addr) (h : Heap), (K w.params).In h → h.Ns mainGlobals mg → mg d.name = some (.ref fa) →
      ∃ fd : FuncData, (∀ (t : Shared) (u : Value), BindsTo t fd ⟨[u], []⟩ [(x, u)]) ∧ ∀ base : Heap, (K w.params).In base → base.Ns mainGlobals mg → FnG l.prog w (K w.params) mg base k fa fd [x] (sp w))
    (want : ∀ (w : World) (H : Hp) (a : Addr) (ns : List Int), ns.length ≤ n → SqL (K w.params) H a (ns.map V.int) → sp w [.ref a] H (fun v _ => v = .bl true) fun _ _ _ => False) :
    PySem.W.WalkO q loose XP YP l.row.toRowW d [] (fun f vs => PySem.call f vs) := by
  refine Att.attach_call m1 nodef fun w _ s mg mb fa _ _ _ _ a vs ns G Y _ _ _ hmg hobj hints hlen hg => ?_
  obtain ⟨fd, bi, hF⟩ := F w mg fa _ (hY w _ Y) G.T.g hmg
  exact law_callG (hY w _ Y) G.T.g G.T.b G.T.builtins G.T.nolimit hg hobj hints (Nat.le_trans hlen m2) hr hF bi fun H sq => want w H a ns hlen sq
theorem FnG.weak {P : Program} {w : World} {K : PySem.W.Frag} {mg : Str → Option Value} {base : Heap} {k : Nat} {f : Addr} {fd : FuncData} {ps : List Str} {sp sp2 : Sp} (h : FnG P w K mg base k f fd ps sp) (i : ∀ vs H Q E, sp2 vs H Q E → sp vs H Q E) : FnG P w K mg base k f fd ps sp2 where
  len vs H Q E z := h.len vs H Q E (i vs H Q E z)
  run A outer s H args us vs Q E hr hG he hb hv z := h.run A outer s H args us vs Q E hr hG he hb hv (i vs H Q E z)
end Wv
end

section
set_option Elab.async false
set_option linter.all false
set_option maxRecDepth 100000
set_option maxHeartbeats 4000000
section
namespace Zl
open PySem
open PySem.Sem (wp)
/-- a zip whose last pair is still held -/
abbrev IsZipO (h : Heap) (z TI TO T : Addr) (f : Bool) : Prop :=
  h.get? z = some { cls := .type "zip", dict := none, data := .fields #[rawInt T, .bool f, .bool false, .ref TI, .ref TO], slots := #[] }
section
variable {prog : Program} {w : World} {A : Around} {E : Value → Shared → Prop} {s : Shared} {z TI TO T i1 i2 : Addr} {fp1 fp2 : List Addr} {n1 n2 i : Nat} {P1 P2 : Nat → Value → Prop} {St1 St2 : Nat → Heap → Prop} {a1 a2 : Value} {f : Bool} {oT : Obj}
theorem notFree {Q : Bool → Shared → Prop} (hz : IsZipO s.heap z TI TO T f) (ha : s.heap.get? T = some oT) (h : ∀ h', IsZipO h' z TI TO T true → Heap.SameBut z s.heap h' → Q false { s with heap := h' }) :
    wpAny (model prog w) A (Builtin.SmallTypes.ownedTupleIsFree (.ref z)) Q E s := by
  unfold Builtin.SmallTypes.ownedTupleIsFree
  refine wpAny_bind (wpAny_field hz rfl (x := rawInt T) rfl ?_)
  show wpAny _ _ (loadIfAlive ((T : Int).toNat) >>= _) _ _ _
  rw [Int.toNat_natCast]
  refine wpAny_bind (PySem.W.kdx_alive ha ?_)
  simp only [Option.isNone_some, Bool.false_eq_true, if_false]
  refine wpAny_bind (wpAny_field hz rfl (x := .bool f) rfl ?_)
  cases f with
  | true =>
    rw [if_neg (show ¬ ((Value.bool true != Value.bool true) = true) from Bool.false_ne_true)]
    exact wpAny_pure (h _ hz (Heap.SameBut.refl _ _))
  | false =>
    rw [if_pos (show (Value.bool false != Value.bool true) = true from rfl)]
    refine wpAny_bind (wpAny_setField_rec hz (by simp) fun h' hz' hs => ?_)
    exact wpAny_pure (h h' hz' hs)
theorem nextO_item {Q : Value → Shared → Prop} (S : ZipSep2 z TI TO i1 i2 fp1 fp2) (D1 : Draws prog w A i1 fp1 n1 P1 St1) (D2 : Draws prog w A i2 fp2 n2 P2 St2)
    (hz : IsZipO s.heap z TI TO T f) (ha : s.heap.get? T = some oT) (hTI : IsTupOf2 s.heap TI (.ref i1) (.ref i2)) (st1 : St1 i s.heap) (st2 : St2 i s.heap) (hlt1 : i < n1) (hlt2 : i < n2)
    (hQ : ∀ x1 x2 h' tk, P1 i x1 → P2 i x2 → IsZipO h' z TI TO T true → St1 (i + 1) h' → St2 (i + 1) h' → IsTupOf2 h' s.heap.objs.size x1 x2 → h'.objs.size = s.heap.objs.size + 1 →
      (∀ c o, c ≠ z → c ≠ i1 → c ≠ i2 → s.heap.get? c = some o → h'.get? c = some o) → Q (.ref s.heap.objs.size) { s with heap := h', toks := tk }) :
    wpAny (model prog w) A (Builtin.«zip.__next__» ⟨[.ref z], []⟩) (fun fin s' => ∃ v, fin = .done (.ret v) ∧ Q v s') E s := by
  obtain ⟨hp, g, d, tk0, os⟩ := s
  show wpAny _ _ (field (.ref z) 2 >>= _) _ _ _
  refine wpAny_bind (wpAny_field hz rfl (x := .bool false) rfl ?_)
  show wpAny _ _ (field (.ref z) 3 >>= _) _ _ _
  refine wpAny_bind (wpAny_field hz rfl (x := .ref TI) rfl ?_)
  refine wpAny_bind (wpAny_seqItems hTI rfl ?_)
  show wpAny _ _ (Builtin.SmallTypes.ownedTupleIsFree (.ref z) >>= _) _ _ _
  refine wpAny_bind (notFree hz ha fun g0 hz0 hs0 => ?_)
  replace hs0 : Heap.SameBut z hp g0 := hs0
  simp only [Bool.false_eq_true, if_false]
  refine wpAny_bind ?_
  first
  | rw [List.forIn_toArray]
  | (rw [← Array.forIn_toList]; simp only [List.toList_toArray])
  | rw [← Array.forIn_toList]
  simp only [List.forIn_cons, List.forIn_nil]
  refine wpAny_bind (wpAny_bind (wpAny_holding ?_))
  show wpAny _ _ (Builtin.SmallTypes.nextOf (.ref i1) >>= _) _ _ ⟨g0, g, d, tk0, os⟩
  refine wpAny_bind (D1.item i _ _ _ hlt1 (D1.over st1 hs0 S.zf1) fun x1 p1 tk1 hx1 sn1 hp1 => wpAny_pure ?_)
  replace hp1 : Heap.SameBut i1 g0 p1 := hp1
  refine wpAny_pure ?_
  refine wpAny_bind (wpAny_bind (wpAny_holding ?_))
  show wpAny _ _ (Builtin.SmallTypes.nextOf (.ref i2) >>= _) _ _ ⟨p1, g, d, tk1, os⟩
  refine wpAny_bind (D2.item i _ _ _ hlt2 (D2.over (D2.over st2 hs0 S.zf2) hp1 S.sep1_2) fun x2 p2 tk2 hx2 sn2 hp2 => wpAny_pure ?_)
  replace hp2 : Heap.SameBut i2 p1 p2 := hp2
  refine wpAny_pure ?_
  refine wpAny_pure ?_
  refine wpAny_bind (wpAny_newTuple (hsz := by show 2 ≤ 2 ^ 24; decide) ?_)
  have size : p2.objs.size = hp.objs.size := by rw [hp2.1, hp1.1, hs0.1]
  have keep : ∀ c o, c ≠ z → c ≠ i1 → c ≠ i2 → hp.get? c = some o → p2.get? c = some o := fun c o c0 c1 c2 e => hp2.extBut c o c2 (hp1.extBut c o c1 (hs0.extBut c o c0 e))
  have up : ∀ (c : Addr) o, p2.get? c = some o → (p2.push { cls := .type "tuple", data := .seq #[x1, x2] }).get? c = some o := fun c o e => Heap.get?_push_of_some _ e
  have new : IsTupOf2 (p2.push { cls := .type "tuple", data := .seq #[x1, x2] }) p2.objs.size x1 x2 := Heap.get?_push_size _ rfl
  have zz : IsZipO p2 z TI TO T true := hp2.extBut z _ S.zi2 (hp1.extBut z _ S.zi1 hz0)
  rw [size] at new
  refine wpAny_pure ⟨_, rfl, ?_⟩
  show Q (.ref p2.objs.size) ⟨p2.push { cls := .type "tuple", data := .seq #[x1, x2] }, g, d, tk2, os⟩
  rw [size]
  exact hQ x1 x2 _ tk2 hx1 hx2 (up z _ zz) (D1.frame _ _ _ (D1.over sn1 hp2 S.sep2_1) fun b _ o e => up b o e) (D2.frame _ _ _ sn2 fun b _ o e => up b o e) new (by rw [Heap.size_push, size])
    fun c o c0 c1 c2 e => up c o (keep c o c0 c1 c2 e)
theorem nextO_end {Q : Fin → Shared → Prop} (S : ZipSep2 z TI TO i1 i2 fp1 fp2) (D1 : Draws prog w A i1 fp1 n1 P1 St1) (D2 : Draws prog w A i2 fp2 n2 P2 St2)
    (hz : IsZipO s.heap z TI TO T f) (ha : s.heap.get? T = some oT) (hTI : IsTupOf2 s.heap TI (.ref i1) (.ref i2)) (st1 : St1 n1 s.heap)
    (hE : ∀ h' tk e, (∀ c o, c ≠ z → c ≠ i1 → c ≠ i2 → s.heap.get? c = some o → h'.get? c = some o) → (∃ o, h'.get? e = some o ∧ o.cls = .type "StopIteration") → E (.ref e) { s with heap := h', toks := tk }) :
    wpAny (model prog w) A (Builtin.«zip.__next__» ⟨[.ref z], []⟩) Q E s := by
  obtain ⟨hp, g, d, tk0, os⟩ := s
  show wpAny _ _ (field (.ref z) 2 >>= _) _ _ _
  refine wpAny_bind (wpAny_field hz rfl (x := .bool false) rfl ?_)
  show wpAny _ _ (field (.ref z) 3 >>= _) _ _ _
  refine wpAny_bind (wpAny_field hz rfl (x := .ref TI) rfl ?_)
  refine wpAny_bind (wpAny_seqItems hTI rfl ?_)
  show wpAny _ _ (Builtin.SmallTypes.ownedTupleIsFree (.ref z) >>= _) _ _ _
  refine wpAny_bind (notFree hz ha fun g0 hz0 hs0 => ?_)
  replace hs0 : Heap.SameBut z hp g0 := hs0
  simp only [Bool.false_eq_true, if_false]
  refine wpAny_bind ?_
  first
  | rw [List.forIn_toArray]
  | (rw [← Array.forIn_toList]; simp only [List.toList_toArray])
  | rw [← Array.forIn_toList]
  simp only [List.forIn_cons, List.forIn_nil]
  refine wpAny_bind (wpAny_bind (wpAny_holding ?_))
  show wpAny _ _ (Builtin.SmallTypes.nextOf (.ref i1) >>= _) _ _ ⟨g0, g, d, tk0, os⟩
  refine wpAny_bind (D1.done ⟨g0, g, d, tk0, os⟩ _ _ (D1.over st1 hs0 S.zf1) fun q e hq he => ?_)
  exact hE q tk0 e (fun c o c0 c1 _ x => hq c o c1 (hs0.extBut c o c0 x)) he
theorem pyNextO_item {Q : Option Value → Shared → Prop} (S : ZipSep2 z TI TO i1 i2 fp1 fp2) (D1 : Draws prog w A.in1 i1 fp1 n1 P1 St1) (D2 : Draws prog w A.in1 i2 fp2 n2 P2 St2)
    (hz : IsZipO s.heap z TI TO T f) (ha : s.heap.get? T = some oT) (hTI : IsTupOf2 s.heap TI (.ref i1) (.ref i2)) (st1 : St1 i s.heap) (st2 : St2 i s.heap) (hlt1 : i < n1) (hlt2 : i < n2)
    (hQ : ∀ x1 x2 h' tk, P1 i x1 → P2 i x2 → IsZipO h' z TI TO T true → St1 (i + 1) h' → St2 (i + 1) h' → IsTupOf2 h' s.heap.objs.size x1 x2 → h'.objs.size = s.heap.objs.size + 1 →
      (∀ c o, c ≠ z → c ≠ i1 → c ≠ i2 → s.heap.get? c = some o → h'.get? c = some o) → Q (some (.ref s.heap.objs.size)) { s with heap := h', toks := tk }) :
    wpAny (model prog w) A (pyNext (.ref z)) Q E s := by
  have hT : s.TypeIs (.ref z) "zip" := ⟨_, hz, rfl⟩
  unfold pyNext
  exact wpAny_bind (wpAny_attempt (wpAny_callSpecial?_slot (name := Str.ofString "__next__") hT F.slot_zip_next
    (wpAny_call_entry F.slot_zip_next hT F.entry_zip_next (nextO_item S D1 D2 hz ha hTI st1 st2 hlt1 hlt2 fun x1 x2 h' tk y1 y2 b1 d1 d2 b5 b6 b7 => wpAny_pure (hQ x1 x2 h' tk y1 y2 b1 d1 d2 b5 b6 b7)) (F.args_zip_next_1 _))))
theorem pyNextO_end {Q : Option Value → Shared → Prop} (S : ZipSep2 z TI TO i1 i2 fp1 fp2) (D1 : Draws prog w A.in1 i1 fp1 n1 P1 St1) (D2 : Draws prog w A.in1 i2 fp2 n2 P2 St2)
    (hz : IsZipO s.heap z TI TO T f) (ha : s.heap.get? T = some oT) (hTI : IsTupOf2 s.heap TI (.ref i1) (.ref i2)) (st1 : St1 n1 s.heap)
    (hQ : ∀ h' tk, (∀ c o, c ≠ z → c ≠ i1 → c ≠ i2 → s.heap.get? c = some o → h'.get? c = some o) → Q none { s with heap := h', toks := tk }) : wpAny (model prog w) A (pyNext (.ref z)) Q E s := by
  have hT : s.TypeIs (.ref z) "zip" := ⟨_, hz, rfl⟩
  unfold pyNext
  refine wpAny_bind (wpAny_attempt (wpAny_callSpecial?_slot (name := Str.ofString "__next__") hT F.slot_zip_next
    (wpAny_call_entry F.slot_zip_next hT F.entry_zip_next (nextO_end S D1 D2 hz ha hTI st1 fun h' tk e hk he => ?_) (F.args_zip_next_1 _))))
  obtain ⟨o, ho, hc⟩ := he
  refine wpAny_bind (wpAny_isInstance (T := "StopIteration") (b := true) ⟨o, ho, hc⟩ isSubtype_stop ?_)
  exact wpAny_pure (hQ _ _ hk)
end
end Zl
end
section
namespace Zl
open PySem
open PySem.Sem (wp)
/-- a zip that has given i pairs to somebody who keeps them -/
def ZSt (h : Heap) (z TI TO i1 i2 S : Addr) (i : Nat) : Prop :=
  (i = 0 ∧ IsZip h z TI TO .none ∧ ∃ a b, IsTupOf2 h TO a b) ∨ (0 < i ∧ ∃ T f oT, IsZipO h z TI TO T f ∧ h.get? T = some oT ∧ S < T)
/-- the new pairs, all behind lo -/
structure ZG (P1 P2 : Nat → Value → Prop) (lo : Addr) (h : Heap) (as : List Addr) : Prop where
  rise : as.Pairwise (· < ·)
  above : ∀ a ∈ as, lo < a
  pairs : ∀ (j : Nat) (a : Addr), as[j]? = some a → ∃ x y, P1 j x ∧ P2 j y ∧ IsTupOf2 h a x y
theorem ZG.there {P1 P2 : Nat → Value → Prop} {lo : Addr} {h : Heap} {as : List Addr} (g : ZG P1 P2 lo h as) {a : Addr} (ha : a ∈ as) : a < h.objs.size := by
  obtain ⟨j, hj⟩ := List.mem_iff_getElem?.mp ha
  obtain ⟨_, _, _, _, e⟩ := g.pairs j a hj
  exact Heap.lt_size e
section
variable {prog : Program} {w : World} {A : Around} {E : Value → Shared → Prop} {s : Shared} {R : Result → Shared → Prop} {z TI TO i1 i2 S : Addr} {fp1 fp2 : List Addr} {n i : Nat} {P1 P2 : Nat → Value → Prop} {St1 St2 : Nat → Heap → Prop}
theorem far {a b c : Addr} (h : a < b) (hc : b ≤ c) : c ≠ a := Nat.ne_of_gt (Nat.lt_of_lt_of_le h hc)
/-- where the cells lie -/
structure ZLay (z TI TO i1 i2 S : Addr) (fp1 fp2 : List Addr) : Prop extends ZipSep2 z TI TO i1 i2 fp1 fp2 where
  zS : z < S
  TIS : TI < S
  TOS : TO < S
  i1S : i1 < S
  i2S : i2 < S
  S1 : S ∉ fp1
  S2 : S ∉ fp2
theorem turn {Q : Option Value → Shared → Prop} (L : ZLay z TI TO i1 i2 S fp1 fp2) (D1 : Draws prog w A.in1 i1 fp1 n P1 St1) (D2 : Draws prog w A.in1 i2 fp2 n P2 St2)
    (hst : ZSt s.heap z TI TO i1 i2 S i) (hTI : IsTupOf2 s.heap TI (.ref i1) (.ref i2)) (st1 : St1 i s.heap) (st2 : St2 i s.heap) (hlt : i < n) (hS : S < s.heap.objs.size)
    (hQ : ∀ x y h' tk, P1 i x → P2 i y → ZSt h' z TI TO i1 i2 S (i + 1) → St1 (i + 1) h' → St2 (i + 1) h' → IsTupOf2 h' s.heap.objs.size x y → h'.objs.size = s.heap.objs.size + 1 →
      (∀ c o, c ≠ z → c ≠ TO → c ≠ i1 → c ≠ i2 → s.heap.get? c = some o → h'.get? c = some o) → Q (some (.ref s.heap.objs.size)) { s with heap := h', toks := tk }) :
    wpAny (model prog w) A (pyNext (.ref z)) Q E s := by
  rcases hst with ⟨rfl, hz, a, b, hTO⟩ | ⟨_, T, f, oT, hz, ha, hT⟩
  · refine wpAny_pyNext_zipD2_item L.toZipSep2 D1 D2 hz hTI hTO st1 st2 hlt hlt fun x y h' tk p1 p2 z' _ s1 s2 t' sz kp => ?_
    exact hQ x y h' tk p1 p2 (.inr ⟨Nat.succ_pos _, _, false, _, z', t', hS⟩) s1 s2 t' sz kp
  · refine pyNextO_item L.toZipSep2 D1 D2 hz ha hTI st1 st2 hlt hlt fun x y h' tk p1 p2 z' s1 s2 t' sz kp => ?_
    have l1 := L.zS
    have l2 := L.i1S
    have l3 := L.i2S
    exact hQ x y h' tk p1 p2 (.inr ⟨Nat.succ_pos _, T, true, oT, z', kp T oT (Nat.ne_of_gt (Nat.lt_trans l1 hT)) (Nat.ne_of_gt (Nat.lt_trans l2 hT)) (Nat.ne_of_gt (Nat.lt_trans l3 hT)) ha, hT⟩) s1 s2 t' sz fun c o c0 _ c1 c2 e => kp c o c0 c1 c2 e
theorem turnEnd {Q : Option Value → Shared → Prop} (L : ZLay z TI TO i1 i2 S fp1 fp2) (D1 : Draws prog w A.in1 i1 fp1 n P1 St1) (D2 : Draws prog w A.in1 i2 fp2 n P2 St2)
    (hst : ZSt s.heap z TI TO i1 i2 S n) (hTI : IsTupOf2 s.heap TI (.ref i1) (.ref i2)) (st1 : St1 n s.heap) (st2 : St2 n s.heap)
    (hQ : ∀ h' tk, (∀ c o, c ≠ z → c ≠ TO → c ≠ i1 → c ≠ i2 → s.heap.get? c = some o → h'.get? c = some o) → Q none { s with heap := h', toks := tk }) : wpAny (model prog w) A (pyNext (.ref z)) Q E s := by
  rcases hst with ⟨e, hz, a, b, hTO⟩ | ⟨_, T, f, oT, hz, ha, hT⟩
  · exact wpAny_pyNext_zipD2_end L.toZipSep2 D1 D2 hz hTI hTO st1 st2 (Nat.le_refl _) (Nat.le_refl _) (.inl rfl) hQ
  · exact pyNextO_end L.toZipSep2 D1 D2 hz ha hTI st1 fun h' tk kp => hQ h' tk fun c o c0 _ c1 c2 e => kp c o c0 c1 c2 e
/-- the pairs into a list -/
theorem fill (L : ZLay z TI TO i1 i2 S fp1 fp2) (D1 : Draws prog w A.in1.in1 i1 fp1 n P1 St1) (D2 : Draws prog w A.in1.in1 i2 fp2 n P2 St2) (hn : n ≤ sizeLine) (res : Value) {h₁ : Heap}
    (hR : ∀ h' tk acc c as, (∀ b o, b ≠ S → b ≠ z → b ≠ TO → b ≠ i1 → b ≠ i2 → h₁.get? b = some o → h'.get? b = some o) → h'.get? S = some { cls := .type "list", dict := none, data := .seq acc c, slots := #[] } → as.length = n →
      ZG P1 P2 S h' as → acc.toList = as.map Value.ref → R (.ok (.ret res)) { s with heap := h', toks := tk }) :
    ∀ (k i : Nat) (h : Heap) (tk c : Nat) (acc : Array Value) (as : List Addr), n - i = k → i ≤ n → ZSt h z TI TO i1 i2 S i → IsTupOf2 h TI (.ref i1) (.ref i2) → St1 i h → St2 i h →
      (∀ b o, b ≠ S → b ≠ z → b ≠ TO → b ≠ i1 → b ≠ i2 → h₁.get? b = some o → h.get? b = some o) → h.get? S = some { cls := .type "list", dict := none, data := .seq acc c, slots := #[] } → acc.toList = as.map Value.ref → as.length = i →
      ZG P1 P2 S h as → codeAny (model prog w) A (.builtin "list.extend.loop" ⟨[.ref S, .ref z, res], []⟩) R { s with heap := h, toks := tk } := by
  have sz := L.zS
  have sTI := L.TIS
  have sTO := L.TOS
  have s1 := L.i1S
  have s2 := L.i2S
  intro k
  induction k with
  | zero =>
    intro i h tk c acc as hk hi hst hTI st1 st2 hkeep hS hacc hal hG
    have hin : i = n := by omega
    subst hin
    refine codeAny_builtin F.entry_extend_loop ?_
    rw [Around.under_plainId F.plain_extend_loop _]
    show wpAny _ A.in1 (pyNext (.ref z) >>= _) _ _ _
    refine wpAny_bind (turnEnd (s := { s with heap := h, toks := tk }) L D1 D2 hst hTI st1 st2 fun h' tk' kp => ?_)
    have up : ∀ c o, S ≤ c → h.get? c = some o → h'.get? c = some o := fun c o hc e => kp c o (far sz hc) (far sTO hc) (far s1 hc) (far s2 hc) e
    refine wpAny_pure (hR h' tk' acc c as (fun b o h0 ha hb hc hd e => kp b o ha hb hc hd (hkeep b o h0 ha hb hc hd e)) (up S _ (Nat.le_refl _) hS) hal ⟨hG.rise, hG.above, fun j a hj => ?_⟩ hacc)
    obtain ⟨x, y, e1, e2, e3⟩ := hG.pairs j a hj
    exact ⟨x, y, e1, e2, up a _ (Nat.le_of_lt (hG.above a (List.mem_of_getElem? hj))) e3⟩
  | succ k ih =>
    intro i h tk c acc as hk hi hst hTI st1 st2 hkeep hS hacc hal hG
    have hlt : i < n := by omega
    have hsz : acc.size = i := by rw [← Array.length_toList, hacc, List.length_map, hal]
    have hSl : S < h.objs.size := Heap.lt_size hS
    refine codeAny_builtin F.entry_extend_loop ?_
    rw [Around.under_plainId F.plain_extend_loop _]
    show wpAny _ A.in1 (pyNext (.ref z) >>= _) _ _ _
    refine wpAny_bind (turn (s := { s with heap := h, toks := tk }) L D1 D2 hst hTI st1 st2 hlt hSl fun x y h' tk' p1 p2 hst' st1' st2' ht hz' kp => ?_)
    have kp : ∀ c o, c ≠ z → c ≠ TO → c ≠ i1 → c ≠ i2 → h.get? c = some o → h'.get? c = some o := kp
    have ht : IsTupOf2 h' h.objs.size x y := ht
    have keepS : ∀ c o, S ≤ c → h.get? c = some o → h'.get? c = some o := fun c o hc e => kp c o (far sz hc) (far sTO hc) (far s1 hc) (far s2 hc) e
    have hS' := keepS S _ (Nat.le_refl _) hS
    have up : ∀ b o, b ≠ S → h'.get? b = some o → (h'.update S (Obj.mapSeq (·.push (Value.ref h.objs.size)))).get? b = some o := fun b o hb e => (Heap.get?_update_other _ _ (Ne.symm hb)).trans e
    show wpAny _ A.in1 (updateSeq S (·.push (Value.ref h.objs.size)) >>= _) _ _ _
    refine wpAny_bind ?_
    refine wpAny_updateSeq (s := { s with heap := h', toks := tk' }) hS' rfl (wpAny_pure ⟨plainId_quiet F.plain_extend_loop _, ih (i + 1) (h'.update S (Obj.mapSeq (·.push (Value.ref h.objs.size)))) tk' _ (acc.push (Value.ref h.objs.size)) (as ++ [h.objs.size]) (by omega) hlt ?_
      (up TI _ (Nat.ne_of_lt sTI) (kp TI _ L.TIz L.TITO L.TIi1 L.TIi2 hTI)) (D1.frame _ _ _ st1' fun b hb o e => up b o (fun q => L.S1 (q ▸ hb)) e) (D2.frame _ _ _ st2' fun b hb o e => up b o (fun q => L.S2 (q ▸ hb)) e)
      (fun b o h0 ha hb hc hd e => up b o h0 (kp b o ha hb hc hd (hkeep b o h0 ha hb hc hd e))) (Heap.get?_update_self _ hS' rfl) (by rw [Array.toList_push, hacc, List.map_append]; rfl) (by rw [List.length_append, hal]; rfl) ⟨?_, ?_, ?_⟩⟩) (by rw [hsz]; omega) (by show (acc.push (Value.ref h.objs.size)).size ≤ sizeLine + 1; rw [Array.size_push, hsz]; omega)
    · rcases hst' with ⟨e, _⟩ | ⟨_, T, f, oT, g1, g2, g3⟩
      · omega
      · exact .inr ⟨Nat.succ_pos _, T, f, oT, up z _ (Nat.ne_of_lt sz) g1, up T _ (Nat.ne_of_gt g3) g2, g3⟩
    · refine List.pairwise_append.mpr ⟨hG.rise, List.pairwise_singleton _ _, fun a ha b hb => ?_⟩
      rw [List.mem_singleton.mp hb]
      exact hG.there ha
    · intro a ha
      rcases List.mem_append.mp ha with ha | ha
      · exact hG.above a ha
      · rw [List.mem_singleton.mp ha]; exact hSl
    · intro j b hj
      by_cases h1 : j < as.length
      · rw [List.getElem?_append_left h1] at hj
        obtain ⟨x', y', e1, e2, e3⟩ := hG.pairs j b hj
        have hb := hG.above b (List.mem_of_getElem? hj)
        exact ⟨x', y', e1, e2, up b _ (Nat.ne_of_gt hb) (keepS b _ (Nat.le_of_lt hb) e3)⟩
      · rw [List.getElem?_append_right (by omega)] at hj
        have hj0 : j - as.length = 0 := by
          have := (List.getElem?_eq_some_iff.mp hj).1
          simp at this
          omega
        rw [hj0] at hj
        have hb : h.objs.size = b := Option.some.inj hj
        subst hb
        have ej : j = i := by omega
        rw [ej]
        exact ⟨x, y, p1, p2, up _ _ (Nat.ne_of_gt hSl) ht⟩
theorem nolen_zip : typeLookup (.type "zip") "__len__" = pure none := by rw [typeLookup_type, builtinLookup_eq_fast]; kernel_rfl
theorem nohint_zip : typeLookup (.type "zip") "__length_hint__" = pure none := by rw [typeLookup_type, builtinLookup_eq_fast]; kernel_rfl
theorem fillAll (L : ZLay z TI TO i1 i2 S fp1 fp2) (D1 : Draws prog w A.in1.in1 i1 fp1 n P1 St1) (D2 : Draws prog w A.in1.in1 i2 fp2 n P2 St2) (hn : n ≤ sizeLine) (res : Value) (c₀ : Nat)
    (hz : IsZip s.heap z TI TO .none) (hTI : IsTupOf2 s.heap TI (.ref i1) (.ref i2)) {a b : Value} (hTO : IsTupOf2 s.heap TO a b) (st1 : St1 0 s.heap) (st2 : St2 0 s.heap) (hS : s.heap.get? S = some { cls := .type "list", data := .seq #[] c₀ })
    (hR : ∀ h' tk acc c as, (∀ b o, b ≠ S → b ≠ z → b ≠ TO → b ≠ i1 → b ≠ i2 → s.heap.get? b = some o → h'.get? b = some o) → h'.get? S = some { cls := .type "list", dict := none, data := .seq acc c, slots := #[] } → as.length = n →
      ZG P1 P2 S h' as → acc.toList = as.map Value.ref → R (.ok (.ret res)) { s with heap := h', toks := tk }) :
    wpAny (model prog w) A.in1 (Builtin.List.listExtendWith (.ref S) (.ref z) res)
      (fun fin s' => match fin with | .done f => R (.ok f) s' | .again c' => c'.quiet = true ∧ codeAny (model prog w) A c' R s') (fun e s' => R (.error e) s') s := by
  have hzT : ∀ t : Shared, IsZip t.heap z TI TO .none → t.TypeIs (.ref z) "zip" := fun t x => ⟨_, x, rfl⟩
  unfold Builtin.List.listExtendWith
  refine wpAny_bind (wpAny_typeOf (hzT s hz) ?_)
  have k1 : Builtin.List.listSameRef (.ref S) (.ref z) = false := by
    have := Nat.ne_of_gt L.zS
    simp [Builtin.List.listSameRef, this]
  have k2 : (Value.type "zip" == Value.type "list") = false := by decide
  have k3 : (Value.type "zip" == Value.type "tuple") = false := by decide
  simp only [k1, k2, k3, Bool.or_false, Bool.false_eq_true, if_false]
  refine wpAny_bind (wpAny_pyIter_zip hz ?_)
  refine wpAny_bind (wpAny_holding ?_)
  unfold Builtin.List.listLengthHint
  refine wpAny_bind (wpAny_specialOf (hzT s hz) nolen_zip ?_)
  show wpAny _ A.in1 (specialOf (Value.ref z) (Str.ofString "__length_hint__") >>= _) _ _ _
  refine wpAny_bind (wpAny_specialOf (hzT s hz) nohint_zip ?_)
  refine wpAny_pure ?_
  show wpAny _ A.in1 (rule "list.extend.makes-room" >>= fun _ => Builtin.List.listTouch (.ref S) >>= fun _ =>
    again (.builtin "list.extend.loop" ⟨[.ref S, .ref z, res], []⟩)) _ _ _
  refine wpAny_bind (wpAny_rule ?_)
  refine wpAny_bind ?_
  show wpAny _ A.in1 (updateSeq S (·.push .none) >>= fun _ => updateSeq S (·.pop)) _ _ _
  refine wpAny_bind (wpAny_updateSeq hS rfl ?_)
  have hS₂ := Heap.get?_update_self (Obj.mapSeq (·.push Value.none)) hS rfl
  refine wpAny_updateSeq (hz := by seq_fits) hS₂ rfl ?_
  have hS₃ := Heap.get?_update_self (Obj.mapSeq (·.pop)) hS₂ rfl
  have oth : ∀ b o, b ≠ S → s.heap.get? b = some o → ((s.heap.update S (Obj.mapSeq (·.push Value.none))).update S (Obj.mapSeq (·.pop))).get? b = some o :=
    fun b o hb e => (Heap.get?_update_other _ _ (Ne.symm hb)).trans ((Heap.get?_update_other _ _ (Ne.symm hb)).trans e)
  have l1 := L.zS
  have l2 := L.TIS
  have l3 := L.TOS
  exact wpAny_pure ⟨plainId_quiet F.plain_extend_loop _, fill (s := s) (h₁ := s.heap) L D1 D2 hn res hR n 0 _ s.toks _ #[] [] (Nat.sub_zero _) (Nat.zero_le _) (.inl ⟨rfl, oth z _ (Nat.ne_of_lt l1) hz, a, b, oth TO _ (Nat.ne_of_lt l3) hTO⟩) (oth TI _ (Nat.ne_of_lt l2) hTI)
    (D1.frame _ _ _ st1 fun b hb o e => oth b o (fun q => L.S1 (q ▸ hb)) e) (D2.frame _ _ _ st2 fun b hb o e => oth b o (fun q => L.S2 (q ▸ hb)) e) (fun b o h0 _ _ _ _ e => oth b o h0 e) hS₃ rfl rfl ⟨List.Pairwise.nil, (fun _ z => nomatch z), fun j a hj => by simp at hj⟩⟩
end
end Zl
end
section
namespace Zl
open PySem
open PySem.Sem (wp)
section
variable {prog : Program} {w : World} {A : Around} {E : Value → Shared → Prop} {s : Shared} {R : Result → Shared → Prop} {z TI TO i1 i2 S : Addr} {fp1 fp2 : List Addr} {n i : Nat} {P1 P2 : Nat → Value → Prop} {St1 St2 : Nat → Heap → Prop}
theorem initZip (L : ZLay z TI TO i1 i2 S fp1 fp2) (D1 : Draws prog w A.in1.in1 i1 fp1 n P1 St1) (D2 : Draws prog w A.in1.in1 i2 fp2 n P2 St2) (hn : n ≤ sizeLine)
    (hz : IsZip s.heap z TI TO .none) (hTI : IsTupOf2 s.heap TI (.ref i1) (.ref i2)) {a b : Value} (hTO : IsTupOf2 s.heap TO a b) (st1 : St1 0 s.heap) (st2 : St2 0 s.heap) (hS : s.heap.get? S = some { cls := .type "list", data := .seq #[] })
    (hR : ∀ h' tk acc c as, (∀ b o, b ≠ S → b ≠ z → b ≠ TO → b ≠ i1 → b ≠ i2 → s.heap.get? b = some o → h'.get? b = some o) → h'.get? S = some { cls := .type "list", dict := none, data := .seq acc c, slots := #[] } → as.length = n →
      ZG P1 P2 S h' as → acc.toList = as.map Value.ref → R (.ok (.ret .none)) { s with heap := h', toks := tk }) :
    wpAny (model prog w) A.in1 (Builtin.«list.__init__» ⟨[.ref S, .ref z], []⟩)
      (fun fin s' => match fin with | .done f => R (.ok f) s' | .again c' => c'.quiet = true ∧ codeAny (model prog w) A c' R s') (fun e s' => R (.error e) s') s := by
  show wpAny _ _ (do let old ← Builtin.List.listItems (.ref S); Builtin.List.listUpdate (.ref S) (fun _ => #[]); letGo old.toList.reverse; Builtin.List.listExtendWith (.ref S) (.ref z) .none) _ _ s
  refine wpAny_bind ?_
  unfold Builtin.List.listItems
  refine wpAny_bind (wpAny_seqItems hS rfl (wpAny_pure ?_))
  show wpAny _ _ (updateSeq S (fun _ => #[]) >>= fun _ => letGo (#[] : Array Value).toList.reverse >>= fun _ => Builtin.List.listExtendWith (.ref S) (.ref z) .none) _ _ s
  refine wpAny_bind (wpAny_updateSeq hS rfl ?_)
  have hS₂ := Heap.get?_update_self (Obj.mapSeq (fun _ => (#[] : Array Value))) hS rfl
  have oth : ∀ b o, b ≠ S → s.heap.get? b = some o → (s.heap.update S (Obj.mapSeq (fun _ => (#[] : Array Value)))).get? b = some o := fun b o hb e => (Heap.get?_update_other _ _ (Ne.symm hb)).trans e
  refine wpAny_bind (wpAny_letGo ?_)
  exact fillAll (s := { s with heap := s.heap.update S (Obj.mapSeq (fun _ => (#[] : Array Value))) }) L D1 D2 hn .none _ (oth z _ (Nat.ne_of_lt L.zS) hz) (oth TI _ (Nat.ne_of_lt L.TIS) hTI) (oth TO _ (Nat.ne_of_lt L.TOS) hTO)
    (D1.frame _ _ _ st1 fun b hb o e => oth b o (fun q => L.S1 (q ▸ hb)) e) (D2.frame _ _ _ st2 fun b hb o e => oth b o (fun q => L.S2 (q ▸ hb)) e) hS₂ fun h' tk acc c as hk hS' hl hG hacc =>
    hR h' tk acc c as (fun b o h0 h1 h2 h3 h4 e => hk b o h0 h1 h2 h3 h4 (oth b o h0 e)) hS' hl hG hacc
theorem callList {Q : Value → Shared → Prop} (L : ZLay z TI TO i1 i2 s.heap.objs.size fp1 fp2) (D1 : Draws prog w A.in1.in1.in1 i1 fp1 n P1 St1) (D2 : Draws prog w A.in1.in1.in1 i2 fp2 n P2 St2) (hn : n ≤ sizeLine)
    (hz : IsZip s.heap z TI TO .none) (hTI : IsTupOf2 s.heap TI (.ref i1) (.ref i2)) {a b : Value} (hTO : IsTupOf2 s.heap TO a b) (st1 : St1 0 s.heap) (st2 : St2 0 s.heap)
    (hQ : ∀ h' tk acc c as, (∀ b o, b ≠ z → b ≠ TO → b ≠ i1 → b ≠ i2 → s.heap.get? b = some o → h'.get? b = some o) → h'.get? s.heap.objs.size = some { cls := .type "list", dict := none, data := .seq acc c, slots := #[] } → as.length = n →
      ZG P1 P2 s.heap.objs.size h' as → acc.toList = as.map Value.ref → Q (.ref s.heap.objs.size) { s with heap := h', toks := tk }) :
    wpAny (model prog w) A (call (.type "list") [.ref z]) Q E s := by
  refine callType_codes (Q₁ := fun obj s₁ => obj = .ref s.heap.objs.size ∧ s₁ = { s with heap := s.heap.push { cls := .type "list", data := .seq #[] } }) F.called_list (F.typeCall_list_1 _) F.entry_list_init (code_list_new _ ⟨rfl, rfl⟩) fun obj s₁ h₁ => ?_
  obtain ⟨rfl, rfl⟩ := h₁
  have up : ∀ b o, s.heap.get? b = some o → (s.heap.push { cls := .type "list", data := .seq #[] }).get? b = some o := fun b o e => Heap.get?_push_of_some _ e
  have hS : (s.heap.push { cls := .type "list", data := .seq #[] }).get? s.heap.objs.size = some { cls := .type "list", data := .seq #[] } := Heap.get?_push_size _ rfl
  refine ⟨⟨_, hS, rfl⟩, F.args_list_init_2 _ _, ?_⟩
  refine initZip (A := A.in1) (s := { s with heap := s.heap.push { cls := .type "list", data := .seq #[] } }) L D1 D2 hn (up z _ hz) (up TI _ hTI) (up TO _ hTO) (D1.frame _ _ _ st1 fun b _ o e => up b o e) (D2.frame _ _ _ st2 fun b _ o e => up b o e) hS fun h' tk acc c as hk hS' hl hG hacc => ?_
  exact ⟨rfl, hQ h' tk acc c as (fun b o h1 h2 h3 h4 e => hk b o (Nat.ne_of_lt (Heap.lt_size e)) h1 h2 h3 h4 (up b o e)) hS' hl hG hacc⟩
theorem lay_of {N l1 l2 : Nat} (b1 : l1 < N) (b2 : l2 < N) : ZLay (N + 4) (N + 2) (N + 3) N (N + 1) (N + 5) [N, l1] [N + 1, l2] where
  TIz := fun (h : (N + 2 : Nat) = N + 4) => by omega
  TOz := fun (h : (N + 3 : Nat) = N + 4) => by omega
  TITO := fun (h : (N + 2 : Nat) = N + 3) => by omega
  TIi1 := fun (h : (N + 2 : Nat) = N) => by omega
  mem1 := List.mem_cons_self
  zf1 := fun h => by
    have h : (N + 4 : Nat) = N ∨ (N + 4 : Nat) = l1 := by simpa using h
    omega
  Tf1 := fun h => by
    have h : (N + 3 : Nat) = N ∨ (N + 3 : Nat) = l1 := by simpa using h
    omega
  TIi2 := fun (h : (N + 2 : Nat) = N + 1) => by omega
  mem2 := List.mem_cons_self
  zf2 := fun h => by
    have h : (N + 4 : Nat) = N + 1 ∨ (N + 4 : Nat) = l2 := by simpa using h
    omega
  Tf2 := fun h => by
    have h : (N + 3 : Nat) = N + 1 ∨ (N + 3 : Nat) = l2 := by simpa using h
    omega
  sep1_2 := fun h => by
    have h : (N : Nat) = N + 1 ∨ (N : Nat) = l2 := by simpa using h
    omega
  sep2_1 := fun h => by
    have h : (N + 1 : Nat) = N ∨ (N + 1 : Nat) = l1 := by simpa using h
    omega
  zS := (show (N + 4 : Nat) < N + 5 by omega)
  TIS := (show (N + 2 : Nat) < N + 5 by omega)
  TOS := (show (N + 3 : Nat) < N + 5 by omega)
  i1S := (show (N : Nat) < N + 5 by omega)
  i2S := (show (N + 1 : Nat) < N + 5 by omega)
  S1 := fun h => by
    have h : (N + 5 : Nat) = N ∨ (N + 5 : Nat) = l1 := by simpa using h
    omega
  S2 := fun h => by
    have h : (N + 5 : Nat) = N + 1 ∨ (N + 5 : Nat) = l2 := by simpa using h
    omega
theorem afterZip {l1 l2 : Addr} {h' : Heap} {Q : Value → Shared → Prop} (b1 : l1 < s.heap.objs.size) (b2 : l2 < s.heap.objs.size) (D1 : Draws prog w A.in1.in1.in1 s.heap.objs.size [s.heap.objs.size, l1] n P1 St1) (D2 : Draws prog w A.in1.in1.in1 (s.heap.objs.size + 1) [s.heap.objs.size + 1, l2] n P2 St2)
    (hn : n ≤ sizeLine) (hz : IsZip h' (s.heap.objs.size + 4) (s.heap.objs.size + 2) (s.heap.objs.size + 3) .none) (hTI : IsTupOf2 h' (s.heap.objs.size + 2) (.ref s.heap.objs.size) (.ref (s.heap.objs.size + 1))) (hTO : IsTupOf2 h' (s.heap.objs.size + 3) .none .none)
    (st1 : St1 0 h') (st2 : St2 0 h') (hsz : h'.objs.size = s.heap.objs.size + 5) (hk : ∀ c o, s.heap.get? c = some o → h'.get? c = some o)
    (hQ : ∀ h' tk acc c S as, s.heap.objs.size ≤ S → (∀ b o, s.heap.get? b = some o → h'.get? b = some o) → h'.get? S = some { cls := .type "list", dict := none, data := .seq acc c, slots := #[] } → as.length = n →
      ZG P1 P2 S h' as → acc.toList = as.map Value.ref → Q (.ref S) { s with heap := h', toks := tk }) :
    wpAny (model prog w) A (call (.type "list") [.ref (s.heap.objs.size + 4)]) Q E { s with heap := h' } := by
  have L : ZLay (s.heap.objs.size + 4) (s.heap.objs.size + 2) (s.heap.objs.size + 3) s.heap.objs.size (s.heap.objs.size + 1) ({ s with heap := h' } : Shared).heap.objs.size [s.heap.objs.size, l1] [s.heap.objs.size + 1, l2] := by
    show ZLay _ _ _ _ _ h'.objs.size _ _
    rw [hsz]
    exact lay_of b1 b2
  refine callList (s := { s with heap := h' }) L D1 D2 hn hz hTI hTO st1 st2 fun h2 tk acc c as hkeep hS hl hG hacc => ?_
  have hS : h2.get? h'.objs.size = _ := hS
  refine hQ h2 tk acc c h'.objs.size as (by rw [hsz]; exact Nat.le_add_right _ 5) (fun b o e => ?_) hS hl hG hacc
  have lt := Heap.lt_size e
  exact hkeep b o (Nat.ne_of_lt (Nat.lt_of_lt_of_le lt (Nat.le_add_right _ 4))) (Nat.ne_of_lt (Nat.lt_of_lt_of_le lt (Nat.le_add_right _ 3))) (Nat.ne_of_lt lt) (Nat.ne_of_lt (Nat.lt_of_lt_of_le lt (Nat.le_add_right _ 1))) (hk b o e)
/-- list(zip(x, y)): two lists of one length -/
theorem listZipL {l1 l2 : Addr} {xs ys : Array Value} {Q : Value → Shared → Prop} (hh : A.handled = none) (hl1 : s.heap.IsList l1 xs) (hl2 : s.heap.IsList l2 ys) (he : ys.size = xs.size) (hn : xs.size ≤ sizeLine)
    (hQ : ∀ h' tk acc c S as, s.heap.objs.size ≤ S → (∀ b o, s.heap.get? b = some o → h'.get? b = some o) → h'.get? S = some { cls := .type "list", dict := none, data := .seq acc c, slots := #[] } → as.length = xs.size →
      ZG (fun j x => xs[j]? = some x) (fun j y => ys[j]? = some y) S h' as → acc.toList = as.map Value.ref → Q (.ref S) { s with heap := h', toks := tk }) :
    wpAny (model prog w) A (call (.type "zip") [.ref l1, .ref l2]) (fun v s1 => wpAny (model prog w) A (call (.type "list") [v]) Q E s1) E s := by
  refine call_zip_2 hl1 hl2 fun h' hz hTI hTO h1 h2 hsz hk => ?_
  have hh3 : A.in1.in1.in1.handled = none := hh
  have b1 : l1 < s.heap.objs.size := by obtain ⟨o, e, _⟩ := hl1; exact Heap.lt_size e
  have b2 : l2 < s.heap.objs.size := by obtain ⟨o, e, _⟩ := hl2; exact Heap.lt_size e
  have D1 := Draws.list (prog := prog) (w := w) hh3 s.heap.objs.size l1 (Nat.ne_of_lt b1) xs
  have D2 := Draws.list (prog := prog) (w := w) hh3 (s.heap.objs.size + 1) l2 (Nat.ne_of_lt (Nat.lt_succ_of_lt b2)) ys
  rw [he] at D2
  exact afterZip b1 b2 D1 D2 hn hz hTI hTO ⟨h1, hl1.at fun o e => hk l1 o e⟩ ⟨h2, hl2.at fun o e => hk l2 o e⟩ hsz hk hQ
/-- .. and two tuples -/
theorem listZipT {l1 l2 : Addr} {xs ys : Array Value} {Q : Value → Shared → Prop} (hh : A.handled = none) (hl1 : s.heap.IsTuple l1 xs) (hl2 : s.heap.IsTuple l2 ys) (he : ys.size = xs.size) (hn : xs.size ≤ sizeLine)
    (hQ : ∀ h' tk acc c S as, s.heap.objs.size ≤ S → (∀ b o, s.heap.get? b = some o → h'.get? b = some o) → h'.get? S = some { cls := .type "list", dict := none, data := .seq acc c, slots := #[] } → as.length = xs.size →
      ZG (fun j x => xs[j]? = some x) (fun j y => ys[j]? = some y) S h' as → acc.toList = as.map Value.ref → Q (.ref S) { s with heap := h', toks := tk }) :
    wpAny (model prog w) A (call (.type "zip") [.ref l1, .ref l2]) (fun v s1 => wpAny (model prog w) A (call (.type "list") [v]) Q E s1) E s := by
  refine RZ.call_zipT hl1 hl2 fun h' hz hTI hTO h1 h2 hsz hk => ?_
  have hh3 : A.in1.in1.in1.handled = none := hh
  have b1 : l1 < s.heap.objs.size := by obtain ⟨o, e, _⟩ := hl1; exact Heap.lt_size e
  have b2 : l2 < s.heap.objs.size := by obtain ⟨o, e, _⟩ := hl2; exact Heap.lt_size e
  have D1 := Draws.tuple (prog := prog) (w := w) hh3 s.heap.objs.size l1 (Nat.ne_of_lt b1) xs
  have D2 := Draws.tuple (prog := prog) (w := w) hh3 (s.heap.objs.size + 1) l2 (Nat.ne_of_lt (Nat.lt_succ_of_lt b2)) ys
  rw [he] at D2
  exact afterZip b1 b2 D1 D2 hn hz hTI hTO ⟨h1, hl1.at fun o e => hk l1 o e⟩ ⟨h2, hl2.at fun o e => hk l2 o e⟩ hsz hk hQ
end
end Zl
end
section
namespace Wv
open PySem PySem.Spec PyProof.Rows L2 Evl
section
variable {X : Cx} {pins : List (Addr × Obj)} {σ : L2.St} {H H' : Hp} {s : Shared} {h' : Heap}
/-- many new objects at once -/
theorem grow {t' : Nat} (I : L2.Inv X pins σ H s) (k : ∀ b o, s.heap.get? b = some o → h'.get? b = some o) (same : ∀ b u, H b = some u → H' b = some u) (old : ∀ b, H b = none → b < s.heap.objs.size → H' b = none)
    (new : ∀ b u, H b = none → H' b = some u → ObjOk X.prog X.w H' h' b u) : L2.Inv X pins σ H' { s with heap := h', toks := t' } := by
  refine I.step (g' := s.gens) (d' := s.drawn) (ch := []) (fun b hb => nomatch hb) (fun b o _ _ _ e _ => k b o e) (fun b o _ _ _ e _ => ⟨o.slots, k b o e⟩)
    (fun b o _ e n => old b n (Heap.lt_size e)) (fun b o _ e => ⟨o, k b o e⟩) (fun b xs e => same _ _ e) (fun b o u e => same _ _ e) (fun b ps e => ⟨#[], by rw [same _ _ e]; simp⟩) (fun m hm => ?_) (fun b u e => ?_) I.bare
  · obtain ⟨o, es, ep, ho, r⟩ := hm
    exact ⟨o, es, ep, k _ o ho, r⟩
  · cases q : H b with
    | none => exact new b u q e
    | some v =>
      have e2 := same b v q
      rw [e2] at e
      cases e
      exact (I.hok b u q).stay (fun c v _ q => k c v q) (fun c q => same _ _ q) fun c xs q => same _ _ q
def laidT (H : Hp) : List Addr → List (V × V) → Hp
  | a :: as, p :: ps => upd (laidT H as ps) a (.tup [p.1, p.2])
  | _, _ => H
theorem laidT_out (H : Hp) {b : Addr} : ∀ {as : List Addr} {ps : List (V × V)}, b ∉ as → laidT H as ps b = H b
  | [], _, _ => rfl
  | a :: as, [], _ => rfl
  | a :: as, p :: ps, h => by
    have h := not_or.mp fun z => h (List.mem_cons.mpr z)
    show upd (laidT H as ps) a _ b = _
    rw [upd_ne h.1, laidT_out H h.2]
theorem laidT_at (H : Hp) : ∀ {as : List Addr} {ps : List (V × V)} {j : Nat} {a : Addr} {p : V × V}, as.Nodup → as[j]? = some a → ps[j]? = some p → laidT H as ps a = some (.tup [p.1, p.2])
  | b :: as, q :: ps, 0, a, p, _, h1, h2 => by
    cases h1
    cases h2
    exact upd_same
  | b :: as, q :: ps, j + 1, a, p, nd, h1, h2 => by
    have nd := List.nodup_cons.mp nd
    have h1 : as[j]? = some a := h1
    have ne : a ≠ b := fun z => nd.1 (z ▸ List.mem_of_getElem? h1)
    show upd (laidT H as ps) b _ a = _
    rw [upd_ne ne]
    exact laidT_at H nd.2 h1 h2
  | [], _, _, _, _, _, h1, _ => by simp at h1
  | _ :: _, [], _, _, _, _, _, h2 => by simp at h2
theorem nodup_rise : ∀ {as : List Addr}, as.Pairwise (· < ·) → as.Nodup
  | [], _ => List.nodup_nil
  | a :: as, h => by
    cases h with
    | cons h1 h2 => exact List.nodup_cons.mpr ⟨fun z => Nat.lt_irrefl _ (h1 a z), nodup_rise h2⟩
theorem vals_at {xs : List V} {us : List Value} (h : Vals xs us) : ∀ {j : Nat} {u : Value}, us[j]? = some u → ∃ x, xs[j]? = some x ∧ RelV x u := by
  induction h with
  | nil => intro j u e; simp at e
  | @cons x u xs us r _ ih =>
    intro j v e
    cases j with
    | zero => cases e; exact ⟨x, rfl, r⟩
    | succ j => exact ih e
theorem vals_len {xs : List V} {us : List Value} (h : Vals xs us) : us.length = xs.length := by
  induction h with
  | nil => rfl
  | cons _ _ ih => rw [List.length_cons, List.length_cons, ih]
theorem vals_refs : ∀ as : List Addr, Vals (as.map V.ref) (as.map Value.ref)
  | [] => .nil
  | a :: as => .cons rfl (vals_refs as)
/-- the list of new pairs, told -/
theorem zip_inv {its1 its2 : List Value} {xs ys : List V} {t' c : Nat} {S : Addr} {as : List Addr} {acc : Array Value} (I : L2.Inv X pins σ H s) (k : ∀ b o, s.heap.get? b = some o → h'.get? b = some o)
    (r1 : Vals xs its1) (r2 : Vals ys its2) (he : ys.length = xs.length) (hn : xs.length ≤ 40000) (hS : s.heap.objs.size ≤ S) (gS : h'.get? S = some { cls := .type "list", dict := none, data := .seq acc c, slots := #[] }) (hl : as.length = xs.length)
    (hG : Zl.ZG (fun j x => its1.toArray[j]? = some x) (fun j y => its2.toArray[j]? = some y) S h' as) (hacc : acc.toList = as.map Value.ref) :
    L2.Inv X pins σ (upd (laidT H as (xs.zip ys)) S (.lst (as.map V.ref))) { s with heap := h', toks := t' } ∧ H S = none ∧ (∀ a ∈ as, H a = none) ∧ as.Nodup ∧ S ∉ as := by
  have nd := nodup_rise hG.rise
  have Sn : S ∉ as := fun z => Nat.lt_irrefl _ (hG.above S z)
  have fS : H S = none := I.hok.fresh hS
  have fa : ∀ a ∈ as, H a = none := fun a ha => I.hok.fresh (Nat.le_of_lt (Nat.lt_of_le_of_lt hS (hG.above a ha)))
  refine ⟨grow I k (fun b u e => ?_) (fun b n lt => ?_) (fun b u n e => ?_), fS, fa, nd, Sn⟩
  · have n1 : b ≠ S := fun z => by rw [z, fS] at e; cases e
    have n2 : b ∉ as := fun z => by rw [fa b z] at e; cases e
    rw [upd_ne n1, laidT_out H n2]
    exact e
  · have n1 : b ≠ S := Nat.ne_of_lt (Nat.lt_of_lt_of_le lt hS)
    have n2 : b ∉ as := fun z => Nat.lt_irrefl _ (Nat.lt_of_lt_of_le lt (Nat.le_trans hS (Nat.le_of_lt (hG.above b z))))
    rw [upd_ne n1, laidT_out H n2]
    exact n
  · by_cases n1 : b = S
    · subst n1
      rw [upd_same] at e
      cases e
      refine ⟨by rw [List.length_map]; show as.length ≤ 2 ^ 24; omega, as.map Value.ref, c, vals_refs as, ?_⟩
      rw [gS, ← hacc, Array.toArray_toList]
    · rw [upd_ne n1] at e
      by_cases n2 : b ∈ as
      · obtain ⟨j, hj⟩ := List.mem_iff_getElem?.mp n2
        obtain ⟨x, y, e1, e2, e3⟩ := hG.pairs j b hj
        obtain ⟨vx, g1, g2⟩ := vals_at r1 (show its1[j]? = some x by simpa using e1)
        obtain ⟨vy, g3, g4⟩ := vals_at r2 (show its2[j]? = some y by simpa using e2)
        have z : (xs.zip ys)[j]? = some (vx, vy) := by
          rw [List.getElem?_zip_eq_some]
          exact ⟨g1, g3⟩
        rw [laidT_at H nd hj z] at e
        cases e
        exact ⟨by show 2 ≤ 2 ^ 24; decide, [x, y], .cons g2 (.cons g4 .nil), _, e3, rfl, _, rfl⟩
      · rw [laidT_out H n2, n] at e
        cases e
end
end Wv
end
section
namespace Wv
open PySem PySem.Spec PyProof.Rows L2 Evl
def tListZip (K : PySem.W.Frag) (ta : TA) : TE := fun σ H Q => ta σ H fun vs H1 => ∃ a b xs ys, vs = [.ref a, .ref b] ∧ ((SqL K H1 a xs ∧ SqL K H1 b ys) ∨ (SqT K H1 a xs ∧ SqT K H1 b ys)) ∧ ys.length = xs.length ∧ xs.length ≤ 40000 ∧
  ∀ (S : Addr) (as : List Addr), H1 S = none → (∀ c ∈ as, H1 c = none) → as.Nodup → S ∉ as → as.length = xs.length → Q (.ref S) (upd (laidT H1 as (xs.zip ys)) S (.lst (as.map V.ref)))
theorem pe_listZip {X : Cx} {e e2 : Expr} {ta : TA} {p pos p2 pos2 : Pos} (hc : X.calm = true) (hg : Gl X "list") (hm : X.mg "list" = none) (hg2 : Gl X "zip") (hm2 : X.mg "zip" = none) (ha : PA X [e, e2] ta)
    (hs : starEach [.Call (.Name "zip" p2) [e, e2] [] pos2] X.env = (false, eval (.Call (.Name "zip" p2) [e, e2] [] pos2) X.env) :: starEach [] X.env := by rfl)
    (hs2 : starEach [e, e2] X.env = (false, eval e X.env) :: starEach [e2] X.env := by rfl) (hpl : (backTo pos2 (starEach [e2] X.env)).any (·.1) = false := by rfl) :
    PE X (.Call (.Name "list" p) [.Call (.Name "zip" p2) [e, e2] [] pos2] [] pos) (tListZip X.K ta) := by
  refine ⟨fun pins s σ H Q I h => ?_⟩
  refine PyProof.Rows.Call_ (ld_blt I hg hm PyProof.Rows.boot_list (PyProof.Rows.callWith_type1 (PyProof.Rows.args_cons (PyProof.Rows.Call_ (ld_blt I hg2 hm2 PyProof.Rows.boot_zip (PyProof.Rows.callWith_type1 (thn (ha.run pos2 pins s σ H _ I h) fun us s1 ⟨vs, H1, I1, r1, q1⟩ => ?_) hs2 hpl) (by decide) (by decide))) hs) hs rfl) (by decide) (by decide))
  obtain ⟨a, b, xs, ys, ex, sq, he, hn, q⟩ := q1
  subst ex
  cases r1 with
  | cons r rr =>
    cases rr with
    | cons r' rr =>
      cases rr
      cases r
      cases r'
      have big : xs.length ≤ sizeLine := by show xs.length ≤ 2 ^ 24; omega
      rcases sq with ⟨hx, hy⟩ | ⟨hx, hy⟩
      · obtain ⟨its, rv, p1, _⟩ := I1.list hx
        obtain ⟨its2, rv2, p2, _⟩ := I1.list hy
        have len1 := vals_len rv
        have len2 := vals_len rv2
        refine wpAny_mono (Zl.listZipL (I1.ok.hd hc) p1.isList p2.isList (by simp [len1, len2, he]) (by simp [len1]; exact big) fun h' tk acc c S as hS hk gS hl hG hacc => ?_) (fun v s1 z => PyProof.Rows.args_nil z) fun _ _ z => z
        have hl : as.length = xs.length := by rw [hl]; simp [len1]
        obtain ⟨I2, fS, fa, nd, Sn⟩ := zip_inv (t' := tk) I1 hk rv rv2 he hn hS gS hl hG hacc
        exact ⟨V.ref S, _, I2, rfl, q S as fS fa nd Sn hl⟩
      · obtain ⟨its, rv, p1, _⟩ := I1.tuple hx
        obtain ⟨its2, rv2, p2, _⟩ := I1.tuple hy
        have len1 := vals_len rv
        have len2 := vals_len rv2
        refine wpAny_mono (Zl.listZipT (I1.ok.hd hc) p1 p2 (by simp [len1, len2, he]) (by simp [len1]; exact big) fun h' tk acc c S as hS hk gS hl hG hacc => ?_) (fun v s1 z => PyProof.Rows.args_nil z) fun _ _ z => z
        have hl : as.length = xs.length := by rw [hl]; simp [len1]
        obtain ⟨I2, fS, fa, nd, Sn⟩ := zip_inv (t' := tk) I1 hk rv rv2 he hn hS gS hl hG hacc
        exact ⟨V.ref S, _, I2, rfl, q S as fS fa nd Sn hl⟩
end Wv
end
section
namespace Wv
open PySem PySem.Spec PyProof.Rows L2 Evl
section
variable {K : PySem.W.Frag} {C : Cs} {U : UX} {G H G' H' G1 H1 G2 H2 : Hp} {sl sl' : Slots} {rt rt' rt2 : Roots} {σ : L2.St} {ρ ρ' ρ1 ρ2 : List Addr} {fps fps' fps1 fps2 : List (List Addr)}
variable {X : Cx} {e e2 : Expr} {p pos p2 pos2 : Pos}
/-! ### list(zip(a, b)) of data -/
theorem laidAll : ∀ {as : List Addr} {ps : List (V × V)}, RSt K C rt ρ fps G H → as.Nodup → (∀ c ∈ as, H c = none) → RSt K C rt ρ fps (laidT G as ps) (laidT H as ps) ∧ Nx fps.flatten G H (laidT G as ps) (laidT H as ps) fps.flatten
  | [], _, r, _, _ => ⟨r, Nx.refl _ G H⟩
  | a :: as, [], r, _, _ => ⟨r, Nx.refl _ G H⟩
  | a :: as, q :: ps, r, nd, fr => by
    have nd := List.nodup_cons.mp nd
    obtain ⟨r1, n1⟩ := laidAll (as := as) (ps := ps) r nd.2 fun c hc => fr c (List.mem_cons_of_mem _ hc)
    have ha : laidT H as ps a = none := by
      rw [laidT_out H nd.1]
      exact fr a (List.mem_cons_self ..)
    exact ⟨r1.laid ha, n1.trans (Nx.laid r1.sub ha _)⟩
theorem drs_get : ∀ {xs : List V} {ds : List D} {j : Nat} {v : V} {d : D}, DRs K C G xs ds → xs[j]? = some v → ds[j]? = some d → DR K C G v d
  | _, _, 0, _, _, .cons h _, e1, e2 => by
    cases e1
    cases e2
    exact h
  | _, _, j + 1, _, _, .cons _ r, e1, e2 => drs_get (j := j) r e1 e2
  | _, _, _, _, _, .nil, e1, _ => by simp at e1
def pairD (q : D × D) : D := .tup [q.1, q.2]
theorem trs_pairs : ∀ {as : List Addr} {ps : List (D × D)}, as.length = ps.length → (∀ (j : Nat) a q, as[j]? = some a → ps[j]? = some q → DR K C G (.ref a) (pairD q)) → TRs K C G H (as.map V.ref) ((ps.map pairD).map .dat) []
  | [], [], _, _ => .nil
  | a :: as, q :: ps, hl, h => TRs.cons (fp := []) (fq := []) (.dat (h 0 a q rfl rfl)) (trs_pairs (by simpa using hl) fun j a q h1 h2 => h (j + 1) a q h1 h2)
  | [], _ :: _, hl, _ => by simp at hl
  | _ :: _, [], hl, _ => by simp at hl
def zipD : Val → Val → Option (List D × List D)
  | .dat (.tup a), .dat (.tup b) => some (a, b)
  | .dat (.lst a), .dat (.lst b) => some (a, b)
  | _, _ => none
def wZipL (w : WA) : WO := fun sl rt k => w sl rt fun xs rt1 => match xs with
  | [x, y] => match zipD x y with
    | some q => q.2.length = q.1.length ∧ q.1.length ≤ 40000 ∧ k (.lst (((q.1.zip q.2).map pairD).map .dat)) rt1
    | none => False
  | _ => False
theorem o_zipL {w : WA} : ∀ σ H Q, tO K C U (wZipL w) σ H Q → tListZip K (tA K C U w) σ H Q := fun σ H Q ⟨sl, rt, ρ, fps, G, k, s, xf, w, q⟩ =>
  ⟨sl, rt, ρ, fps, G, _, s, xf, w, fun xs rt1 fps1 G1 H1 vs r1 n1 v1 w1 => by
    split at w1
    · rename_i x y
      cases hz : zipD x y with
      | none => rw [hz] at w1; exact w1.elim
      | some z =>
        rw [hz] at w1
        obtain ⟨he, hn, w1⟩ := w1
        obtain ⟨ds, es⟩ := z
        have he : es.length = ds.length := he
        have hn : ds.length ≤ 40000 := hn
        have w1 : k (.lst (((ds.zip es).map pairD).map .dat)) rt1 := w1
        have two : ∃ a b us ws, vs = [.ref a, .ref b] ∧ ((SqL K H1 a us ∧ SqL K H1 b ws) ∨ (SqT K H1 a us ∧ SqT K H1 b ws)) ∧ DRs K C G1 us ds ∧ DRs K C G1 ws es := by
          cases v1 with
          | cons h r =>
            cases r with
            | cons h2 r =>
              cases r
              unfold zipD at hz
              split at hz
              · cases hz
                cases h with
                | tup a1 a2 => cases h2 with
                  | tup b1 b2 => exact ⟨_, _, _, _, rfl, .inr ⟨ex_t r1.sub a1, ex_t r1.sub b1⟩, a2, b2⟩
              · cases hz
                cases h with
                | lst a1 a2 => cases h2 with
                  | lst b1 b2 => exact ⟨_, _, _, _, rfl, .inl ⟨sq_of (r1.sub _ _ a1), sq_of (r1.sub _ _ b1)⟩, a2, b2⟩
              · cases hz
        obtain ⟨a, b, us, ws, ev, sq, du, dw⟩ := two
        have lu := du.len
        have lw := dw.len
        refine ⟨a, b, us, ws, ev, sq, by omega, by omega, fun S as fS fa nd Sn hl => ?_⟩
        obtain ⟨r2, n2⟩ := laidAll (ps := us.zip ws) r1 nd fa
        have fS2 : laidT H1 as (us.zip ws) S = none := by rw [laidT_out H1 Sn]; exact fS
        have tr : TRs K C (laidT G1 as (us.zip ws)) (laidT H1 as (us.zip ws)) (as.map V.ref) (((ds.zip es).map pairD).map .dat) [] := by
          refine trs_pairs (by rw [List.length_zip]; omega) fun j c q h1 h2 => ?_
          obtain ⟨d, f⟩ := q
          rw [List.getElem?_zip_eq_some] at h2
          have hj : j < us.length := by
            have := (List.getElem?_eq_some_iff.mp h1).1
            omega
          have hj2 : j < ws.length := by omega
          have z : (us.zip ws)[j]? = some (us[j], ws[j]) := by
            rw [List.getElem?_zip_eq_some]
            exact ⟨List.getElem?_eq_getElem hj, List.getElem?_eq_getElem hj2⟩
          refine .tup (st_of (laidT_at G1 nd h1 z)) (.cons (DR.up n2.g _ _ (drs_get du (List.getElem?_eq_getElem hj) h2.1)) (.cons (DR.up n2.g _ _ (drs_get dw (List.getElem?_eq_getElem hj2) h2.2)) .nil))
        obtain ⟨r3, o3⟩ := r2.newL fS2 tr List.nodup_nil (fun _ z => nomatch z) (fun _ z => nomatch z) (fun _ z => nomatch z)
        refine q _ rt1 fps1 _ _ _ _ r3 ((n1.trans n2).trans (Nx.grow fS2)) o3 (fun c hc => ?_) w1
        have : c = S := by simpa using hc
        rw [this]
        exact .inr (n1.dom S fS)
    · exact w1.elim⟩
theorem wo_zipL {w : WA} (h : PE X e (tListZip K (tA K C U w))) : PE X e (tO K C U (wZipL w)) := pe_imp h o_zipL
end
end Wv
end
end

section
set_option Elab.async false
set_option linter.all false
set_option maxRecDepth 100000
set_option maxHeartbeats 4000000
namespace Wv
open PySem PySem.Spec PyProof.Rows L2 Evl
section
variable {K : PySem.W.Frag} {C : Cs} {U : UX} {G H G' H' G1 H1 G2 H2 : Hp} {sl sl' : Slots} {rt rt' rt2 : Roots} {σ : L2.St} {ρ ρ' ρ1 ρ2 : List Addr} {fps fps' fps1 fps2 : List (List Addr)}
variable {X : Cx} {a b c e o : Expr} {es rest : List Expr} {wa wb wc wo : WE} {pos p apos cpos p2 pos2 : Pos} {Z : WEnds} {st : Stmt} {te ta to : TE}
/-! ### xs[::-1] of data -/
def wRevL (w : WE) : WO := fun sl rt k => w sl rt fun x rt1 => ∃ ds, listOf x rt1 = some ds ∧ k (.lst (ds.reverse.map .dat)) rt1
theorem drs_app : ∀ {vs ws : List V} {ds es : List D}, DRs K C G vs ds → DRs K C G ws es → DRs K C G (vs ++ ws) (ds ++ es)
  | _, _, _, _, .nil, h => h
  | _, _, _, _, .cons h r, h2 => .cons h (drs_app r h2)
theorem drs_rev : ∀ {vs : List V} {ds : List D}, DRs K C G vs ds → DRs K C G vs.reverse ds.reverse
  | _, _, .nil => .nil
  | v :: vs, d :: ds, .cons h r => by
    rw [List.reverse_cons, List.reverse_cons]
    exact drs_app (drs_rev r) (.cons h .nil)
theorem o_revL {w : WE} : ∀ σ H Q, tO K C U (wRevL w) σ H Q → tRevL K (tE K C U w) σ H Q := fun σ H Q ⟨sl, rt, ρ, fps, G, k, s, xf, w, q⟩ =>
  ⟨sl, rt, ρ, fps, G, _, s, xf, w, fun x rt1 fps1 G1 H1 v r1 n1 v1 ⟨ds, e, w1⟩ => by
    obtain ⟨a, xs, rfl, h1, d1⟩ := r1.listOf e v1
    refine ⟨a, xs, rfl, h1, fun p hp => ?_⟩
    obtain ⟨r4, o4⟩ := r1.newL hp ((drs_rev d1).trs (H := H1)) List.nodup_nil (fun _ z => nomatch z) (fun _ z => nomatch z) (fun _ z => nomatch z)
    refine q _ rt1 fps1 _ G1 _ _ r4 (n1.trans (Nx.grow hp)) o4 (fun b hb => ?_) w1
    have : b = p := by simpa using hb
    rw [this]
    exact .inr (n1.dom p hp)⟩
theorem wo_revL {w : WE} {k : Nat} {p1 p2 p3 : Pos} (h : PE X e (tE K C U w)) (hK : X.K = K) : PE X (.Subscript e (.Slice none none (some (.UnaryOp .USub (.Constant (.int 1) k p1) p2)) p3) pos) (tO K C U (wRevL w)) := by
  subst hK
  exact pe_imp (pe_revL h) o_revL
/-! ### str(i) -/
def fStr : SemA := fun xs rt k => match xs with
  | [.dat (.int i)] => i.natAbs.log2 < 1920 ∧ k (.str (toString i))
  | _ => False
theorem sa_str : SA K C fStr (fun xs H Q => ∃ i, xs = [.int i] ∧ i.natAbs.log2 < 1920 ∧ Q (.str (toString i)) H) := fun rt ρ fps G H xs vs s v k Q w q => by
  unfold fStr at w
  split at w
  · cases v with
    | cons h r =>
      cases r
      cases h
      exact ⟨_, rfl, w.1, q _ _ w.2 (.str _)⟩
  · exact w.elim
/-! ### f-strings -/
def wFmt (w : WE) : WE := fun sl rt k => w sl rt fun x rt1 => match x with
  | .dat (.str y) => y.length ≤ sizeLine ∧ k (.dat (.str y)) rt1
  | .dat (.int i) => i.natAbs.log2 < 1920 ∧ k (.dat (.str (toString i))) rt1
  | _ => False
theorem we_fmt {w : WE} (h : PE X e (tE K C U w)) : PE X (.FormattedValue e (-1) none pos) (tE K C U (wFmt w)) := pe_imp (pe_fmt h) fun σ H Q ⟨sl, rt, ρ, fps, G, k, s, xf, w, q⟩ =>
  ⟨sl, rt, ρ, fps, G, _, s, xf, w, fun x rt1 fps1 G1 H1 v r1 n1 v1 w1 => by
    split at w1
    · cases v1
      exact .inl ⟨_, rfl, w1.1, q _ rt1 fps1 G1 H1 _ r1 n1 (show VR K C G1 H1 ρ (.dat (.str _)) _ from DR.str _) w1.2⟩
    · cases v1
      exact .inr ⟨_, rfl, w1.1, q _ rt1 fps1 G1 H1 _ r1 n1 (show VR K C G1 H1 ρ (.dat (.str _)) _ from DR.str _) w1.2⟩
    · exact w1.elim⟩
def jsGo : List WE → Str → Cxt → Roots → (Str → Roots → Prop) → Prop
  | [], acc, _, rt, k => k acc rt
  | w :: ws, acc, sl, rt, k => w sl rt fun x rt1 => match x with
    | .dat (.str y) => (acc ++ y).length ≤ sizeLine ∧ jsGo ws (acc ++ y) sl rt1 k
    | _ => False
def wJs (ws : List WE) : WE := fun sl rt k => jsGo ws Str.empty sl rt fun y rt1 => k (.dat (.str y)) rt1
inductive WJ (X : Cx) (K : PySem.W.Frag) (C : Cs) (U : UX) : List Expr → List WE → Prop where
  | nil : WJ X K C U [] []
  | cons {e : Expr} {w : WE} {es : List Expr} {ws : List WE} (h : PE X e (tE K C U w)) (r : WJ X K C U es ws) : WJ X K C U (e :: es) (w :: ws)
theorem WJ.pj : ∀ {es : List Expr} {ws : List WE}, WJ X K C U es ws → PJ X es (ws.map (tE K C U))
  | _, _, .nil => .nil
  | _, _, .cons h r => .cons h (WJ.pj r)
theorem js_go : ∀ (ws : List WE) (acc : Str) (sl : Cxt) (rt : Roots) (ρ : List Addr) (fps : List (List Addr)) (G H : Hp) (k : Str → Roots → Prop) (Q : Str → Hp → Prop), St K C sl.sl rt σ ρ fps G H → Xf K C U ρ fps G H sl.ex → jsGo ws acc sl rt k →
    (∀ y rt1 fps1 G1 H1, RSt K C rt1 ρ fps1 G1 H1 → Nx fps.flatten G H G1 H1 fps1.flatten → k y rt1 → Q y H1) → tJs (ws.map (tE K C U)) acc σ H Q
  | [], acc, sl, rt, ρ, fps, G, H, k, Q, s, xf, w, q => q acc rt fps G H s.toRSt (Nx.refl _ G H) w
  | w0 :: ws, acc, sl, rt, ρ, fps, G, H, k, Q, s, xf, w, q => ⟨sl, rt, ρ, fps, G, _, s, xf, w, fun x rt1 fps1 G1 H1 v r1 n1 v1 w1 => by
      split at w1
      · cases v1
        exact ⟨_, rfl, w1.1, js_go ws _ sl rt1 ρ fps1 G1 H1 k Q (s.step r1 n1 fun _ _ e => e) (xf.later n1 (Pre.refl _)) w1.2 fun y rt2 fps2 G2 H2 r2 n2 hk => q y rt2 fps2 G2 H2 r2 (n1.trans n2) hk⟩
      · exact w1.elim⟩
theorem we_js {v1 v2 : Expr} {w1 w2 : WE} {ws : List WE} (h : WJ X K C U (v1 :: v2 :: rest) (w1 :: w2 :: ws)) : PE X (.JoinedStr (v1 :: v2 :: rest) pos) (tE K C U (wJs (w1 :: w2 :: ws))) := pe_imp (pe_joined h.pj) fun σ H Q ⟨sl, rt, ρ, fps, G, k, s, xf, w, q⟩ =>
  js_go _ _ sl rt ρ fps G H _ _ s xf w fun y rt1 fps1 G1 H1 r1 n1 hk => q (.dat (.str y)) rt1 fps1 G1 H1 (.str y) r1 n1 (DR.str y) hk
/-! ### sep.join(texts) -/
def wJoin (w1 w2 : WE) : WE := fun sl rt k => w1 sl rt fun x rt1 => match x with
  | .dat (.str a) => w2 sl rt1 fun y rt2 => ∃ ys : List Str, seqOf y rt2 = some (ys.map D.str) ∧ (ys.map (·.length)).sum + ys.length * a.length ≤ 16777216 ∧ k (.dat (.str (Txt.join a ys))) rt2
  | _ => False
theorem drs_strs : ∀ {ys : List Str} {vs : List V}, DRs K C G vs (ys.map D.str) → vs = ys.map V.str
  | [], _, .nil => rfl
  | y :: ys, _, .cons h r => by
    cases h
    rw [drs_strs r]
    rfl
theorem we_join {w1 w2 : WE} (ho : PE X o (tE K C U w1)) (he : PE X e (tE K C U w2)) (hK : X.K = K) (hs : starEach [e] X.env = [(false, eval e X.env)] := by rfl) (hbase : attributeBase o "join" X.env (eval o X.env) = eval o X.env := by rfl) (hline : (apos.endLine == pos.line) = true := by rfl) :
    PE X (.Call (.Attribute o "join" apos) [e] [] pos) (tE K C U (wJoin w1 w2)) := pe_imp (pe_join ho he hs hbase hline) fun σ H Q ⟨sl, rt, ρ, fps, G, k, s, xf, w, q⟩ =>
  ⟨sl, rt, ρ, fps, G, _, s, xf, w, fun x rt1 fps1 G1 H1 v r1 n1 v1 w1 => by
    split at w1
    · rename_i a
      cases v1
      refine ⟨⟨_, rfl⟩, sl, rt1, ρ, fps1, G1, _, s.step r1 n1 fun _ _ e => e, xf.later n1 (Pre.refl _), w1, fun y rt2 fps2 G2 H2 u r2 n2 v2 w2 => ?_⟩
      obtain ⟨ys, e, hz, w2⟩ := w2
      obtain ⟨b, xs, rfl, h1, d1⟩ := r2.seqOf e v2
      have e2 := drs_strs d1
      subst e2
      subst hK
      exact ⟨a, b, ys, rfl, rfl, h1, hz, q (.dat (.str _)) rt2 fps2 G2 H2 _ r2 (n1.trans n2) (show VR _ C G2 H2 ρ (.dat (.str _)) _ from DR.str _) w2⟩
    · exact w1.elim⟩
/-! ### line += text -/
def wAugT (i : Nat) (w : WE) : WS := fun Z sl rt => match sl[i]? with
  | some (some (.dat (.str m))) => w ⟨sl, Z.ex⟩ rt fun y rt1 => match y with
    | .dat (.str n) => m.length + n.length ≤ sizeLine ∧ Z.nx (sl.set i (some (.dat (.str (m ++ n))))) rt1
    | _ => False
  | _ => False
def ipT : TIp := fun x y H Q => ∃ i j, x = .str i ∧ y = .str j ∧ i.length + j.length ≤ sizeLine ∧ Q (.str (i ++ j)) H
theorem ip_addT : PIp X .Add ipT := iop_add_str
theorem ws_augT {i : Nat} {w : WE} (h : PS X st (tAug i (tE K C U w) ipT)) : PS X st (tS K C U (wAugT i w)) := ps_imp h fun D σ H ⟨Z, sl, rt, ρ, fps, G, s, w, f⟩ => by
  unfold wAugT at w
  split at w
  · rename_i m e
    obtain ⟨v, h1, h2⟩ := s.slot i _ e
    cases h2
    refine ⟨_, h1, ⟨sl, Z.ex⟩, rt, ρ, fps, G, _, s, f.xf, w, fun y rt1 fps1 G1 H1 u r1 n1 v1 w1 => ?_⟩
    split at w1
    · cases v1
      exact ⟨m, _, rfl, rfl, w1.1, f.nx _ _ _ ρ fps1 G1 H1 ((s.step r1 n1 fun _ _ e => e).set (x := .dat (.str _)) (DR.str _)) n1 (Pre.refl _) w1.2⟩
    · exact w1.elim
  · exact w.elim
end
end Wv
end

section
set_option Elab.async false
set_option linter.all false
set_option maxRecDepth 100000
set_option maxHeartbeats 4000000
namespace Wv
open PySem PySem.Spec PyProof.Rows L2 Evl
section
variable {K : PySem.W.Frag} {C : Cs} {U : UX} {G H G' H' G1 H1 G2 H2 : Hp} {sl sl' : Slots} {rt rt' rt2 : Roots} {σ : L2.St} {ρ ρ' ρ1 ρ2 : List Addr} {fps fps' fps1 fps2 : List (List Addr)}
variable {X : Cx} {a b c e o : Expr} {es rest : List Expr} {wa wb wc wo : WE} {pos p apos cpos p2 pos2 : Pos} {Z : WEnds} {st : Stmt} {te ta to : TE}
/-! ### xs.extend(a list of data) -/
def wExt (wx w : WE) : WS := fun Z sl rt => wx ⟨sl, Z.ex⟩ rt fun x rt1 => match x with
  | .ref r p => match tat rt1 r p with
    | some (.lst _) => w ⟨sl, Z.ex⟩ rt1 fun y rt2 => match y with
      | .dat (.lst es) => match tat rt2 r p with
        | some (.lst ts) => ts.length + es.length ≤ 40000 ∧ Z.nx sl (rt2.modify r (T.put (.lst (ts ++ es.map .dat)) p))
        | _ => False
      | _ => False
    | _ => False
  | _ => False
theorem trs_data : ∀ {vs : List V} {es : List D}, DRs K C G vs es → TRs K C G H vs (es.map .dat) []
  | _, _, .nil => .nil
  | _, _, .cons h r => TRs.cons (fp := []) (fq := []) (.dat h) (trs_data r)
theorem trs_more : ∀ {vs ws : List V} {ts us : List T} {fp fq : List Addr}, TRs K C G H vs ts fp → TRs K C G H ws us fq → TRs K C G H (vs ++ ws) (ts ++ us) (fp ++ fq)
  | _, _, _, _, _, _, .nil, h => h
  | _, _, _, _, _, fq2, .cons (fp := fp) (fq := fq) h r, h2 => by
    rw [List.append_assoc]
    exact .cons h (trs_more r h2)
theorem s_ext {wx w : WE} : ∀ D σ H, tS K C U (wExt wx w) D σ H → tDrop (tBM K "list" rExtend (tE K C U wx) (tCons (tE K C U w) tNil)) D σ H := fun D σ H ⟨Z, sl, rt, ρ, fps, G, s, w, f⟩ =>
  ⟨⟨sl, Z.ex⟩, rt, ρ, fps, G, _, s, f.xf, w, fun x rt1 fps1 G1 H1 v r1 n1 v1 w1 => by
    split at w1
    · rename_i r p
      split at w1
      · rename_i ts0 ht0
        obtain ⟨a, fu, k1, k2, k3, _⟩ := r1.get ht0 v1
        cases k3 with
        | @lst b xs0 _ fq0 hb0 tr0 =>
          refine ⟨.inl ⟨rfl, xs0, sq_of hb0⟩, ⟨sl, Z.ex⟩, rt1, ρ, fps1, G1, _, s.step r1 n1 fun _ _ e => e, f.xf.later n1 (Pre.refl _), w1, fun y rt2 fps2 G2 H2 vy r2 n2 y2 w2 => ?_⟩
          have v2 := v1.up n2 fun _ _ e => e
          split at w2
          · rename_i es
            split at w2
            · rename_i ts ht
              obtain ⟨a', fu, z1, z2, z3, _⟩ := r2.get ht v2
              cases y2 with
              | @lst c ys _ hc dr =>
              cases z3 with
              | @lst _ xs _ fq hb tr =>
                have idn : Idn H2 (upd H2 b (.lst (xs ++ ys))) := idn_lst hb fun i q hq _ => by
                  rw [List.getElem?_append_left (List.getElem?_eq_some_iff.mp hq).1]
                  exact hq
                obtain ⟨fps3, r3, mem, hbF⟩ := r2.write (t' := .lst (ts ++ es.map .dat)) (fn := []) ht z1 z2 (by intro d q; cases q) idn (fun fu hfu => by
                  cases hfu with
                  | @lst _ xs' _ fq' hb' tr' =>
                    rw [hb] at hb'
                    cases hb'
                    refine ⟨List.mem_cons_self, fun nd dis => ?_⟩
                    have nb := (List.nodup_cons.mp nd).1
                    refine ⟨b :: (fq' ++ []), .lst upd_same (trs_more (TRs.stay (Ex.refl _) _ _ _ tr' fun q hq => upd_ne fun z => nb (by rw [← z]; exact hq)) (trs_data dr)), ?_⟩
                    exact List.Perm.refl _) List.nodup_nil (fun _ q => nomatch q) (fun _ q => nomatch q)
                have hc2 : H2 c = some (.lst ys) := r2.sub _ _ hc
                refine ⟨b, c, xs, ys, rfl, rfl, hb, hc2, sz_le (by rw [TRs.len tr, dr.len]; exact w2.1), ?_⟩
                have nW : Nx fps2.flatten G2 H2 G2 (upd H2 b (.lst (xs ++ ys))) fps2.flatten := Nx.write (fps' := fps2) hbF (by rw [hb]; exact fun q => nomatch q) idn (fp := []) (fun _ q => nomatch q)
                have n3 : Nx fps.flatten G H G2 (upd H2 b (.lst (xs ++ ys))) fps3.flatten := ((n1.trans n2).trans nW).less fun l hl => by
                  rcases mem l hl with q | q
                  · exact q
                  · cases q
                exact f.nx sl _ σ ρ fps3 G2 _ (s.step r3 n3 fun _ _ e => e) n3 (Pre.refl _) w2.2
            · exact w2.elim
          · exact w2.elim
      · exact w1.elim
    · exact w1.elim⟩
theorem ws_ext {wx w : WE} (h : PS X st (tDrop (tBM K "list" rExtend (tE K C U wx) (tCons (tE K C U w) tNil)))) : PS X st (tS K C U (wExt wx w)) := ps_imp h s_ext
/-! ### xs.pop() -/
def wPop0 (wo : WE) : WE := fun sl rt k => wo sl rt fun x rt1 => match x with
  | .ref r p => match tat rt1 r p with
    | some (.lst ts) => ts.all leafT = true ∧ ∃ d, ts[ts.length - 1]? = some (.dat d) ∧ k (.dat d) (rt1.modify r (T.put (.lst ts.dropLast) p))
    | _ => False
  | _ => False
theorem trs_drop : ∀ {ts : List T} {vs : List V}, TRs K C G H vs ts [] → ts.all leafT = true → TRs K C G H vs.dropLast ts.dropLast [] := by
  intro ts vs h l
  suffices ∀ {ts : List T} {vs : List V} {fp : List Addr}, TRs K C G H vs ts fp → ts.all leafT = true → TRs K C G H vs.dropLast ts.dropLast [] from this h l
  intro ts
  induction ts with
  | nil =>
    intro vs fp h _
    cases h
    exact .nil
  | cons t ts ih =>
    intro vs fp h l
    simp only [List.all_cons, Bool.and_eq_true] at l
    cases h with
    | cons h r =>
      obtain ⟨_, k1, _⟩ := leaf_ok l.1 h
      subst k1
      cases r with
      | nil => exact .nil
      | cons h2 r2 => exact TRs.cons (fp := []) (fq := []) h (ih (.cons h2 r2) l.2)
theorem e_pop0 {wo : WE} : ∀ σ H Q, tE K C U (wPop0 wo) σ H Q → tBM0 K "list" rPop (tE K C U wo) σ H Q := fun σ H Q ⟨sl, rt, ρ, fps, G, k, s, xf, w, q⟩ =>
  ⟨sl, rt, ρ, fps, G, _, s, xf, w, fun x rt1 fps1 G1 H1 v r1 n1 v1 w1 => by
    split at w1
    · rename_i r p
      split at w1
      · rename_i ts ht
        obtain ⟨hl, d, hd, w1⟩ := w1
        obtain ⟨a', fu, z1, z2, z3, _⟩ := r1.get ht v1
        cases z3 with
        | @lst b xs _ fq hb tr =>
          refine ⟨.inl ⟨rfl, xs, sq_of hb⟩, ?_⟩
          obtain ⟨e0, lv⟩ := tr.leaves hl
          subst e0
          have hx : ∀ (i : Nat) q, xs[i]? = some q → i + 1 ≠ xs.length → xs.dropLast[i]? = some q := fun i q e ne => by
            have hi := (List.getElem?_eq_some_iff.mp e).1
            rw [List.getElem?_dropLast, if_pos (by omega)]
            exact e
          have idn : Idn H1 (upd H1 b (.lst xs.dropLast)) := idn_lst hb fun i q hq hn => absurd hn (lv i q hq _ r1.sub)
          obtain ⟨fps3, r3, mem, hbF⟩ := r1.write (t' := .lst ts.dropLast) (fn := []) ht z1 z2 (by intro d q; cases q) idn (fun fu hfu => by
            cases hfu with
            | @lst _ xs' _ fq' hb' tr' =>
              rw [hb] at hb'
              cases hb'
              obtain ⟨e1, _⟩ := tr'.leaves hl
              subst e1
              refine ⟨List.mem_cons_self, fun nd dis => ⟨[b], .lst upd_same ?_, by simp⟩⟩
              exact trs_drop (TRs.stay (Ex.refl _) _ _ _ tr' fun q hq => nomatch hq) hl) List.nodup_nil (fun _ q => nomatch q) (fun _ q => nomatch q)
          obtain ⟨y, fy, y1, y2, _⟩ := tr.get hd
          have hlen := TRs.len tr
          refine ⟨b, xs, y, rfl, rfl, hb, by rw [hlen]; exact y1, ?_⟩
          have nW : Nx fps1.flatten G1 H1 G1 (upd H1 b (.lst xs.dropLast)) fps1.flatten := Nx.write (fps' := fps1) hbF (by rw [hb]; exact fun q => nomatch q) idn (fp := []) (fun _ q => nomatch q)
          have n5 : Nx fps.flatten G H G1 (upd H1 b (.lst xs.dropLast)) fps3.flatten := (n1.trans nW).less fun l hl => by
            rcases mem l hl with q | q
            · exact q
            · cases q
          cases y2 with
          | dat y2 => exact q (.dat d) _ fps3 G1 _ _ r3 n5 y2 w1
      · exact w1.elim
    · exact w1.elim⟩
theorem we_pop0 {wo : WE} (h : PE X e (tBM0 K "list" rPop (tE K C U wo))) : PE X e (tE K C U (wPop0 wo)) := pe_imp h e_pop0
end
end Wv
end

section
set_option Elab.async false
set_option linter.all false
set_option maxRecDepth 100000
set_option maxHeartbeats 4000000
namespace K41
open PySem PySem.Spec PyProof.Rows L2 Evl Wv
def topS (i : Nat) : Stmt := PySem.Challenge.pw_merestone_k41_printed_programs.main.body.getD i (.Pass ⟨0, 0, 0, 0⟩)
structure DefAt (K : PySem.W.Frag) (mg : Str → Option Value) (x : Str) (st : Stmt) (f : Addr) (fd : FuncData) (ps : List Str) : Prop where
  F : Fun K x x st f fd
  g : mg x = some (.ref f)
  b : Binds K fd ps []
structure MethAt (K : PySem.W.Frag) (x q : Str) (st : Stmt) (f : Addr) (fd : FuncData) (ps : List Str) : Prop where
  F : Fun K x q st f fd
  b : Binds K fd ps []
def fld_names : Nat → Option Nat := fun c => match c with
  | 0 => some 0
  | _ => none
def fld_body : Nat → Option Nat := fun c => match c with
  | 0 => some 1
  | _ => none
abbrev sUnrolled : Stmt := topS 1
abbrev NUnrolled : List Str := ["expression", "operations"]
abbrev PUnrolled : List Str := ["expression"]
theorem scUnrolled : FnScope NUnrolled PUnrolled (defScope sUnrolled) := ⟨rfl, rfl, rfl, by decide +kernel, rfl, by decide +kernel, by decide +kernel⟩
def weUnrolled : WS :=
(wSeq (wNew 1 (wLst wNil))
(wCut (wWhile (wB (wBin (sIn false) (wIdx (wVar 0) (wC (.int 0))) (wTup (wCons (wC (.str "op")) (wCons (wC (.str "shift")) wNil)))))
(wSeq (wApp (wVar 1) (wLift (wVar 0)))
(wAsg 0 (wIdx (wVar 0) (wC (.int 2))))))
(wRet (wTup (wCons (wVar 0) (wCons (wFrz (wRevL (wVar 1))) wNil))))))
@[irreducible] def cUnrolled : CW := cwOf 1 1 weUnrolled

abbrev sShownFirst : Stmt := topS 3
abbrev NShownFirst : List Str := ["expression", "kind"]
abbrev PShownFirst : List Str := ["expression"]
theorem scShownFirst : FnScope NShownFirst PShownFirst (defScope sShownFirst) := ⟨rfl, rfl, rfl, by decide +kernel, rfl, by decide +kernel, by decide +kernel⟩
def weShownFirst (rc : Nat → CW) : WS :=
(wSeq (wAsg 1 (wIdx (wVar 0) (wC (.int 0))))
(wSeq (wIf (wB (wBin (sEq false) (wVar 1) (wC (.str "number"))))
(wRet (wCB fStr (wCons (wIdx (wVar 0) (wC (.int 1))) wNil)))
wNext)
(wSeq (wIf (wB (wBin (sEq false) (wVar 1) (wC (.str "name"))))
(wRet (wIdx (wVar 0) (wC (.int 1))))
wNext)
(wSeq (wIf (wB (wBin (sEq false) (wVar 1) (wC (.str "not"))))
(wRet (wAdd (wC (.str "~")) (wFrz (wCall (rc 1) (wCons (wIdx (wVar 0) (wC (.int 1))) wNil)))))
wNext)
(wRet (wAdd (wAdd (wAdd (wIdx (wVar 0) (wC (.int 1))) (wC (.str "["))) (wFrz (wCall (rc 1) (wCons (wIdx (wVar 0) (wC (.int 2))) wNil)))) (wC (.str "]"))))))))
abbrev sShown : Stmt := topS 4
abbrev NShown : List Str := ["expression", "first", "operations", "text", "operation", "second"]
abbrev PShown : List Str := ["expression"]
theorem scShown : FnScope NShown PShown (defScope sShown) := ⟨rfl, rfl, rfl, by decide +kernel, rfl, by decide +kernel, by decide +kernel⟩
def weShown (rc : Nat → CW) : WS :=
(wSeq (wAsgT (tgTup [1, 2]) (wFrz (wCall cUnrolled (wCons (wVar 0) wNil))))
(wSeq (wAsg 3 (wFrz (wCall (rc 0) (wCons (wVar 1) wNil))))
(wCut (wFor (wItL (wVar 2)) (tgName 4)
(wCut (wIf (wB (wBin (sEq false) (wIdx (wVar 4) (wC (.int 0))) (wC (.str "shift"))))
(wAsg 5 (wCB fStr (wCons (wIdx (wVar 4) (wC (.int 3))) wNil)))
(wAsg 5 (wFrz (wCall (rc 1) (wCons (wIdx (wVar 4) (wC (.int 3))) wNil)))))
(wAsg 3 (wAdd (wAdd (wAdd (wAdd (wAdd (wAdd (wC (.str "(")) (wVar 3)) (wC (.str " "))) (wIdx (wVar 4) (wC (.int 1)))) (wC (.str " "))) (wVar 5)) (wC (.str ")"))))))
(wRet (wVar 3)))))
def stSh (rc : Nat → CW) : Nat → CW := fun j => match j with
  | 0 => cwOf 1 1 (weShownFirst rc)
  | 1 => cwOf 1 5 (weShown rc)
  | _ => cNever
@[irreducible] noncomputable def rcSh (n : Nat) : Nat → CW := Nat.rec (fun _ => cNever) (fun _ rc => stSh rc) n
theorem rcSh_z (j : Nat) : rcSh 0 j = cNever := by
  unfold rcSh
  rfl
theorem rcSh_s (n j : Nat) : rcSh (n + 1) j = stSh (rcSh n) j := by
  unfold rcSh
  rfl
theorem rcSh_0 (n : Nat) : rcSh (n + 1) 0 = cwOf 1 1 (weShownFirst (rcSh n)) := rcSh_s n 0
theorem rcSh_1 (n : Nat) : rcSh (n + 1) 1 = cwOf 1 5 (weShown (rcSh n)) := rcSh_s n 1


abbrev sShownName : Stmt := topS 5
abbrev NShownName : List Str := ["declared", "_", "name", "size", "words", "line", "word", "address"]
abbrev PShownName : List Str := ["declared"]
theorem scShownName : FnScope NShownName PShownName (defScope sShownName) := ⟨rfl, rfl, rfl, by decide +kernel, rfl, by decide +kernel, by decide +kernel⟩
def weShownName : WS :=
(wSeq (wIf (wB (wBin (sEq false) (wIdx (wVar 0) (wC (.int 0))) (wC (.str "table"))))
(wSeq (wAsgT (tgTup [1, 2, 3, 4]) (wVar 0))
(wSeq (wAsg 5 (wJs [(wC (.str "table ")), (wFmt (wVar 2)), (wC (.str " ")), (wFmt (wVar 3))]))
(wCut (wIf (wB (wBin sGt (wCB fLen (wCons (wVar 4) wNil)) (wC (.int 0))))
(wAugT 5 (wAdd (wC (.str " = ")) (wJoin (wC (.str ", ")) (wFrz (wLc (wItT (wVar 4)) (tgName 6) [6] wYes (wLift (wCB fStr (wCons (wVar 6) wNil))))))))
wNext)
(wRet (wVar 5)))))
wNext)
(wSeq (wIf (wB (wBin (sEq false) (wIdx (wVar 0) (wC (.int 0))) (wC (.str "page"))))
(wSeq (wAsgT (tgTup [1, 2, 7, 3]) (wVar 0))
(wRet (wJs [(wC (.str "page ")), (wFmt (wVar 2)), (wC (.str " ")), (wFmt (wVar 7)), (wC (.str " ")), (wFmt (wVar 3))])))
wNext)
(wSeq (wAsgT (tgTup [1, 2, 6]) (wVar 0))
(wRet (wJs [(wC (.str "var ")), (wFmt (wVar 2)), (wC (.str " = ")), (wFmt (wVar 6))])))))
@[irreducible] def cShownName : CW := cwOf 1 7 weShownName

abbrev sShownSend : Stmt := topS 6
abbrev NShownSend : List Str := ["statement", "_", "channel", "word", "name", "line"]
abbrev PShownSend : List Str := ["statement"]
theorem scShownSend : FnScope NShownSend PShownSend (defScope sShownSend) := ⟨rfl, rfl, rfl, by decide +kernel, rfl, by decide +kernel, by decide +kernel⟩
def weShownSend : WS :=
(wSeq (wAsgT (tgTup [1, 2, 3, 4]) (wVar 0))
(wSeq (wAsg 5 (wAdd (wJs [(wC (.str "send ")), (wFmt (wVar 2)), (wC (.str ", "))]) (wFrz (wCall (rcSh 10 1) (wCons (wVar 3) wNil)))))
(wCut (wIf (wB (wBin (sEq true) (wVar 4) (wC (.str ""))))
(wAugT 5 (wAdd (wC (.str " into ")) (wVar 4)))
wNext)
(wRet (wVar 5)))))
@[irreducible] def cShownSend : CW := cwOf 1 5 weShownSend

abbrev sShownPlain : Stmt := topS 7
abbrev NShownPlain : List Str := ["statement", "kind", "_", "channel", "told", "name"]
abbrev PShownPlain : List Str := ["statement"]
theorem scShownPlain : FnScope NShownPlain PShownPlain (defScope sShownPlain) := ⟨rfl, rfl, rfl, by decide +kernel, rfl, by decide +kernel, by decide +kernel⟩
def weShownPlain : WS :=
(wSeq (wAsg 1 (wIdx (wVar 0) (wC (.int 0))))
(wSeq (wIf (wB (wBin (sEq false) (wVar 1) (wC (.str "set"))))
(wRet (wAdd (wAdd (wIdx (wVar 0) (wC (.int 1))) (wC (.str " := "))) (wFrz (wCall (rcSh 10 1) (wCons (wIdx (wVar 0) (wC (.int 2))) wNil)))))
wNext)
(wSeq (wIf (wB (wBin (sEq false) (wVar 1) (wC (.str "put"))))
(wRet (wAdd (wAdd (wAdd (wAdd (wIdx (wVar 0) (wC (.int 1))) (wC (.str "["))) (wFrz (wCall (rcSh 10 1) (wCons (wIdx (wVar 0) (wC (.int 2))) wNil)))) (wC (.str "] := "))) (wFrz (wCall (rcSh 10 1) (wCons (wIdx (wVar 0) (wC (.int 3))) wNil)))))
wNext)
(wSeq (wIf (wB (wBin (sEq false) (wVar 1) (wC (.str "send"))))
(wRetO (wCall cShownSend (wCons (wVar 0) wNil)))
wNext)
(wSeq (wIf (wB (wBin (sEq false) (wVar 1) (wC (.str "receive"))))
(wSeq (wAsgT (tgTup [2, 3, 4, 5]) (wVar 0))
(wRet (wJs [(wC (.str "receive ")), (wFmt (wVar 3)), (wC (.str " into ")), (wFmt (wVar 4)), (wC (.str ", ")), (wFmt (wVar 5))])))
wNext)
(wSeq (wIf (wB (wBin (sEq false) (wVar 1) (wC (.str "frame"))))
(wRet (wAdd (wC (.str "frame into ")) (wIdx (wVar 0) (wC (.int 1)))))
wNext)
(wRet (wVar 1))))))))
@[irreducible] def cShownPlain : CW := cwOf 1 5 weShownPlain

abbrev sFurtherIn : Stmt := topS 8
abbrev NFurtherIn : List Str := ["lines", "line"]
abbrev PFurtherIn : List Str := ["lines"]
theorem scFurtherIn : FnScope NFurtherIn PFurtherIn (defScope sFurtherIn) := ⟨rfl, rfl, rfl, by decide +kernel, rfl, by decide +kernel, by decide +kernel⟩
def weFurtherIn : WS :=
(wRetO (wLc (wItL (wVar 0)) (tgName 1) [1] wYes (wLift (wAdd (wC (.str "  ")) (wVar 1)))))
@[irreducible] def cFurtherIn : CW := cwOf 1 1 weFurtherIn

abbrev sLinesOf : Stmt := topS 9
abbrev NLinesOf : List Str := ["statement", "kind", "lines"]
abbrev PLinesOf : List Str := ["statement"]
theorem scLinesOf : FnScope NLinesOf PLinesOf (defScope sLinesOf) := ⟨rfl, rfl, rfl, by decide +kernel, rfl, by decide +kernel, by decide +kernel⟩
def weLinesOf (rc : Nat → CW) : WS :=
(wSeq (wAsg 1 (wIdx (wVar 0) (wC (.int 0))))
(wSeq (wIf (wB (wBin (sIn true) (wVar 1) (wTup (wCons (wC (.str "if")) (wCons (wC (.str "while")) wNil)))))
(wRetO (wLst (wCons (wFrz (wCall cShownPlain (wCons (wVar 0) wNil))) wNil)))
wNext)
(wSeq (wNew 2 (wCatL (wFrz (wLst (wCons (wAdd (wAdd (wAdd (wVar 1) (wC (.str " "))) (wFrz (wCall (rcSh 10 1) (wCons (wIdx (wVar 0) (wC (.int 1))) wNil)))) (wC (.str " {"))) wNil))) (wFrz (wCall cFurtherIn (wCons (wFrz (wCall (rc 1) (wCons (wIdx (wVar 0) (wC (.int 2))) wNil))) wNil)))))
(wCut (wIf (wAndT (wB (wBin (sEq false) (wVar 1) (wC (.str "if")))) (wB (wBin sGt (wCB fLen (wCons (wIdx (wVar 0) (wC (.int 3))) wNil)) (wC (.int 0)))))
(wSeq (wApp (wVar 2) (wLift (wC (.str "} else {"))))
(wExt (wVar 2) (wFrz (wCall cFurtherIn (wCons (wFrz (wCall (rc 1) (wCons (wIdx (wVar 0) (wC (.int 3))) wNil))) wNil)))))
wNext)
(wRetO (wCatL (wVar 2) (wFrz (wLst (wCons (wC (.str "}")) wNil)))))))))
abbrev sLinesOfAll : Stmt := topS 10
abbrev NLinesOfAll : List Str := ["statements", "lines", "statement"]
abbrev PLinesOfAll : List Str := ["statements"]
theorem scLinesOfAll : FnScope NLinesOfAll PLinesOfAll (defScope sLinesOfAll) := ⟨rfl, rfl, rfl, by decide +kernel, rfl, by decide +kernel, by decide +kernel⟩
def weLinesOfAll (rc : Nat → CW) : WS :=
(wSeq (wNew 1 (wLst wNil))
(wCut (wFor (wItL (wVar 0)) (tgName 2)
(wExt (wVar 1) (wFrz (wCall (rc 0) (wCons (wVar 2) wNil)))))
(wRet (wVar 1))))
def stLi (rc : Nat → CW) : Nat → CW := fun j => match j with
  | 0 => cwOf 1 2 (weLinesOf rc)
  | 1 => cwOf 1 2 (weLinesOfAll rc)
  | _ => cNever
@[irreducible] noncomputable def rcLi (n : Nat) : Nat → CW := Nat.rec (fun _ => cNever) (fun _ rc => stLi rc) n
theorem rcLi_z (j : Nat) : rcLi 0 j = cNever := by
  unfold rcLi
  rfl
theorem rcLi_s (n j : Nat) : rcLi (n + 1) j = stLi (rcLi n) j := by
  unfold rcLi
  rfl
theorem rcLi_0 (n : Nat) : rcLi (n + 1) 0 = cwOf 1 2 (weLinesOf (rcLi n)) := rcLi_s n 0
theorem rcLi_1 (n : Nat) : rcLi (n + 1) 1 = cwOf 1 2 (weLinesOfAll (rcLi n)) := rcLi_s n 1


abbrev sPrintSource : Stmt := topS 11
abbrev NPrintSource : List Str := ["source", "lines", "declared", "line"]
abbrev PPrintSource : List Str := ["source"]
theorem scPrintSource : FnScope NPrintSource PPrintSource (defScope sPrintSource) := ⟨rfl, rfl, rfl, by decide +kernel, rfl, by decide +kernel, by decide +kernel⟩
def wePrintSource : WS :=
(wSeq (wAsg 1 (wFrz (wCatL (wFrz (wLc (wItL (wFld fld_names (wVar 0))) (tgName 2) [2] wYes (wCall cShownName (wCons (wVar 2) wNil)))) (wFrz (wCall (rcLi 12 1) (wCons (wFld fld_body (wVar 0)) wNil))))))
(wRet (wJoin (wC (.str "")) (wFrz (wLc (wItL (wVar 1)) (tgName 3) [3] wYes (wLift (wAdd (wVar 3) (wC (.str "\n")))))))))
@[irreducible] def cPrintSource : CW := cwOf 1 3 wePrintSource

abbrev sAreRows : Stmt := topS 13
abbrev NAreRows : List Str := ["first", "second"]
abbrev PAreRows : List Str := ["first", "second"]
theorem scAreRows : FnScope NAreRows PAreRows (defScope sAreRows) := ⟨rfl, rfl, rfl, by decide +kernel, rfl, by decide +kernel, by decide +kernel⟩
def weAreRows : WS :=
(wSeq (wIf (wB (wIsT "list" (wVar 0)))
(wRet (wIsT "list" (wVar 1)))
wNext)
(wRet (wAndV (wIsT "tuple" (wVar 0)) (wIsT "tuple" (wVar 1)))))
@[irreducible] def cAreRows : CW := cwOf 2 0 weAreRows

abbrev sSameTrees : Stmt := topS 14
abbrev NSameTrees : List Str := ["first", "second", "waiting", "one", "other"]
abbrev PSameTrees : List Str := ["first", "second"]
theorem scSameTrees : FnScope NSameTrees PSameTrees (defScope sSameTrees) := ⟨rfl, rfl, rfl, by decide +kernel, rfl, by decide +kernel, by decide +kernel⟩
def weSameTrees : WS :=
(wSeq (wNew 2 (wLst (wCons (wTup (wCons (wVar 0) (wCons (wVar 1) wNil))) wNil)))
(wCut (wWhile (wB (wBin sGt (wCB fLen (wCons (wVar 2) wNil)) (wC (.int 0))))
(wSeq (wAsgT (tgTup [3, 4]) (wPop0 (wVar 2)))
(wIf (wB (wFrz (wCall cAreRows (wCons (wVar 3) (wCons (wVar 4) wNil)))))
(wSeq (wIf (wB (wBin (sEq true) (wCB fLen (wCons (wVar 3) wNil)) (wCB fLen (wCons (wVar 4) wNil))))
(wRet (wC (.bool false)))
wNext)
(wExt (wVar 2) (wFrz (wZipL (wCons (wVar 3) (wCons (wVar 4) wNil))))))
(wIf (wB (wBin (sEq true) (wVar 3) (wVar 4)))
(wRet (wC (.bool false)))
wNext))))
(wRet (wC (.bool true)))))
@[irreducible] def cSameTrees : CW := cwOf 2 3 weSameTrees

abbrev sSourceInit : Stmt := inClass (topS 15) 0
abbrev NSourceInit : List Str := ["self", "names", "body"]
abbrev PSourceInit : List Str := ["self", "names", "body"]
theorem scSourceInit : FnScope NSourceInit PSourceInit (defScope sSourceInit) := ⟨rfl, rfl, rfl, by decide +kernel, rfl, by decide +kernel, by decide +kernel⟩
def weSourceInit : WS :=
(wSeq (wSetF fld_names (wListOf (wCons (wVar 1) wNil)) (wVar 0))
(wSetF fld_body (wListOf (wCons (wVar 2) wNil)) (wVar 0)))
@[irreducible] def cSourceInit : CW := cwOf 3 0 weSourceInit

abbrev sSourceEq : Stmt := inClass (topS 15) 1
abbrev NSourceEq : List Str := ["self", "other"]
abbrev PSourceEq : List Str := ["self", "other"]
theorem scSourceEq : FnScope NSourceEq PSourceEq (defScope sSourceEq) := ⟨rfl, rfl, rfl, by decide +kernel, rfl, by decide +kernel, by decide +kernel⟩
def weSourceEq : WS :=
(wRet (wAndV (wIsC 0 (wVar 1)) (wFrz (wCall cSameTrees (wCons (wTup (wCons (wFld fld_names (wVar 0)) (wCons (wFld fld_body (wVar 0)) wNil))) (wCons (wTup (wCons (wFld fld_names (wVar 1)) (wCons (wFld fld_body (wVar 1)) wNil))) wNil))))))
@[irreducible] def cSourceEq : CW := cwOf 2 0 weSourceEq

abbrev sLawDraw : Stmt := topS 17
abbrev NLawDraw : List Str := ["state", "script", "size", "cell", "mixed", "digit"]
abbrev PLawDraw : List Str := ["state", "script", "size"]
theorem scLawDraw : FnScope NLawDraw PLawDraw (defScope sLawDraw) := ⟨rfl, rfl, rfl, by decide +kernel, rfl, by decide +kernel, by decide +kernel⟩
def weLawDraw : WS :=
(wCut (wIf (wB (wBin (sEq false) (wIdx (wVar 0) (wC (.int 1))) (wC (.int 0))))
(wSeq (wAsg 3 (wC (.int 0)))
(wCut (wIf (wB (wBin sGt (wCB fLen (wCons (wVar 1) wNil)) (wC (.int 0))))
(wAsg 3 (wIdx (wVar 1) (wMod (wIdx (wVar 0) (wC (.int 0))) (wCB fLen (wCons (wVar 1) wNil)))))
wNext)
(wCut (wIf (wB (wBin sLt (wVar 3) (wC (.int 0))))
(wAsg 3 (wSub (wC (.int 1)) (wMul (wC (.int 2)) (wVar 3))))
wNext)
(wSeq (wAsg 4 (wMod (wCB fInt (wCons (wMul (wAdd (wAdd (wVar 3) (wMul (wIdx (wVar 0) (wC (.int 0))) (wC (.int 7919)))) (wC (.int 1))) (wC (.int 48271))) wNil)) (wC (.int 2147483647))))
(wSeq (wSetI (wMod (wCB fInt (wCons (wAdd (wMul (wVar 4) (wC (.int 69621))) (wMul (wIdx (wVar 0) (wC (.int 0))) (wC (.int 104729)))) wNil)) (wC (.int 4294967291))) (wVar 0) (wC (.int 1)))
(wCut (wIf (wAndT (wB (wBin sGe (wVar 3) (wPow (wC (.int 10)) (wC (.int 18))))) (wB (wBin sLt (wIdx (wVar 0) (wC (.int 0))) (wCB fLen (wCons (wVar 1) wNil)))))
(wSetI (wVar 3) (wVar 0) (wC (.int 1)))
wNext)
(wSetI (wAdd (wIdx (wVar 0) (wC (.int 0))) (wC (.int 1))) (wVar 0) (wC (.int 0)))))))))
wNext)
(wSeq (wAsg 5 (wMod (wCB fInt (wCons (wIdx (wVar 0) (wC (.int 1))) wNil)) (wVar 2)))
(wSeq (wSetI (wDiv (wIdx (wVar 0) (wC (.int 1))) (wVar 2)) (wVar 0) (wC (.int 1)))
(wRet (wVar 5)))))
@[irreducible] def cLawDraw : CW := cwOf 3 3 weLawDraw

abbrev sLawNames : Stmt := topS 18
abbrev NLawNames : List Str := ["state", "script", "pages", "names", "k", "size", "words", "j"]
abbrev PLawNames : List Str := ["state", "script", "pages"]
theorem scLawNames : FnScope NLawNames PLawNames (defScope sLawNames) := ⟨rfl, rfl, rfl, by decide +kernel, rfl, by decide +kernel, by decide +kernel⟩
def weLawNames : WS :=
(wSeq (wNew 3 (wLst wNil))
(wCut (wFor (wRng1 (wCons (wFrz (wCall cLawDraw (wCons (wVar 0) (wCons (wVar 1) (wCons (wC (.int 5)) wNil))))) wNil)) (tgName 4)
(wApp (wVar 3) (wLift (wTup (wCons (wC (.str "var")) (wCons (wAdd (wC (.str "v")) (wCB fStr (wCons (wVar 4) wNil))) (wCons (wIdx (wFrz (wLst (wCons (wC (.int 0)) (wCons (wC (.int 65535)) (wCons (wFrz (wCall cLawDraw (wCons (wVar 0) (wCons (wVar 1) (wCons (wC (.int 9)) wNil))))) wNil))))) (wFrz (wCall cLawDraw (wCons (wVar 0) (wCons (wVar 1) (wCons (wC (.int 3)) wNil)))))) wNil)))))))
(wCut (wFor (wRng1 (wCons (wFrz (wCall cLawDraw (wCons (wVar 0) (wCons (wVar 1) (wCons (wC (.int 3)) wNil))))) wNil)) (tgName 4)
(wSeq (wAsg 5 (wShl (wC (.int 1)) (wFrz (wCall cLawDraw (wCons (wVar 0) (wCons (wVar 1) (wCons (wC (.int 4)) wNil)))))))
(wSeq (wAsg 6 (wTupOf (wCons (wFrz (wLc (wRng1 (wCons (wFrz (wCall cLawDraw (wCons (wVar 0) (wCons (wVar 1) (wCons (wAdd (wVar 5) (wC (.int 1))) wNil))))) wNil)) (tgName 7) [7] wYes (wCall cLawDraw (wCons (wVar 0) (wCons (wVar 1) (wCons (wC (.int 300)) wNil)))))) wNil)))
(wApp (wVar 3) (wLift (wTup (wCons (wC (.str "table")) (wCons (wAdd (wC (.str "t")) (wCB fStr (wCons (wVar 4) wNil))) (wCons (wVar 5) (wCons (wVar 6) wNil))))))))))
(wCut (wFor (wRng1 (wCons (wCB fMin (wCons (wVar 2) (wCons (wFrz (wCall cLawDraw (wCons (wVar 0) (wCons (wVar 1) (wCons (wC (.int 3)) wNil))))) wNil))) wNil)) (tgName 4)
(wApp (wVar 3) (wLift (wTup (wCons (wC (.str "page")) (wCons (wAdd (wC (.str "p")) (wCB fStr (wCons (wVar 4) wNil))) (wCons (wAdd (wSub (wC (.int 112)) (wMul (wC (.int 16)) (wVar 4))) (wMul (wC (.int 4)) (wFrz (wCall cLawDraw (wCons (wVar 0) (wCons (wVar 1) (wCons (wC (.int 2)) wNil))))))) (wCons (wShl (wC (.int 1)) (wFrz (wCall cLawDraw (wCons (wVar 0) (wCons (wVar 1) (wCons (wC (.int 4)) wNil)))))) wNil))))))))
(wRet (wVar 3))))))
@[irreducible] def cLawNames : CW := cwOf 3 5 weLawNames

abbrev sLawOf : Stmt := topS 19
abbrev NLawOf : List Str := ["names", "kinds", "name"]
abbrev PLawOf : List Str := ["names", "kinds"]
theorem scLawOf : FnScope NLawOf PLawOf (defScope sLawOf) := ⟨rfl, rfl, rfl, by decide +kernel, rfl, by decide +kernel, by decide +kernel⟩
def weLawOf : WS :=
(wRetO (wLc (wItL (wVar 0)) (tgName 2) [2] (wB (wBin (sIn false) (wIdx (wVar 2) (wC (.int 0))) (wVar 1))) (wLift (wIdx (wVar 2) (wC (.int 1))))))
@[irreducible] def cLawOf : CW := cwOf 2 1 weLawOf

abbrev sLawPick : Stmt := topS 20
abbrev NLawPick : List Str := ["state", "script", "items"]
abbrev PLawPick : List Str := ["state", "script", "items"]
theorem scLawPick : FnScope NLawPick PLawPick (defScope sLawPick) := ⟨rfl, rfl, rfl, by decide +kernel, rfl, by decide +kernel, by decide +kernel⟩
def weLawPick : WS :=
(wRet (wIdx (wVar 2) (wFrz (wCall cLawDraw (wCons (wVar 0) (wCons (wVar 1) (wCons (wCB fLen (wCons (wVar 2) wNil)) wNil)))))))
@[irreducible] def cLawPick : CW := cwOf 3 0 weLawPick

abbrev sLawExpression : Stmt := topS 21
abbrev NLawExpression : List Str := ["state", "script", "names", "depth", "kind", "items", "found", "first", "sign"]
abbrev PLawExpression : List Str := ["state", "script", "names", "depth"]
theorem scLawExpression : FnScope NLawExpression PLawExpression (defScope sLawExpression) := ⟨rfl, rfl, rfl, by decide +kernel, rfl, by decide +kernel, by decide +kernel⟩
def weLawExpression (rc : Nat → CW) : WS :=
(wSeq (wAsg 4 (wFrz (wCall cLawDraw (wCons (wVar 0) (wCons (wVar 1) (wCons (wC (.int 10)) wNil))))))
(wSeq (wAsg 5 (wFrz (wCall cLawOf (wCons (wVar 2) (wCons (wTup (wCons (wC (.str "table")) (wCons (wC (.str "page")) wNil))) wNil)))))
(wSeq (wIf (wOrT (wB (wBin (sEq false) (wVar 3) (wC (.int 0)))) (wB (wBin sLt (wVar 4) (wC (.int 3)))))
(wSeq (wAsg 6 (wFrz (wCall cLawOf (wCons (wVar 2) (wCons (wTup (wCons (wC (.str "var")) wNil)) wNil)))))
(wSeq (wIf (wAndD (wB (wBin sGt (wCB fLen (wCons (wVar 6) wNil)) (wC (.int 0)))) (wB (wBin (sEq false) (wFrz (wCall cLawDraw (wCons (wVar 0) (wCons (wVar 1) (wCons (wC (.int 2)) wNil))))) (wC (.int 1)))))
(wRet (wTup (wCons (wC (.str "name")) (wCons (wFrz (wCall cLawPick (wCons (wVar 0) (wCons (wVar 1) (wCons (wVar 6) wNil))))) wNil))))
wNext)
(wRet (wTup (wCons (wC (.str "number")) (wCons (wIdx (wFrz (wLst (wCons (wC (.int 0)) (wCons (wC (.int 1)) (wCons (wC (.int 65535)) (wCons (wFrz (wCall cLawDraw (wCons (wVar 0) (wCons (wVar 1) (wCons (wC (.int 9)) wNil))))) (wCons (wFrz (wCall cLawDraw (wCons (wVar 0) (wCons (wVar 1) (wCons (wC (.int 65536)) wNil))))) wNil))))))) (wFrz (wCall cLawDraw (wCons (wVar 0) (wCons (wVar 1) (wCons (wC (.int 5)) wNil)))))) wNil))))))
wNext)
(wSeq (wIf (wAndT (wB (wBin (sEq false) (wVar 4) (wC (.int 3)))) (wB (wBin sGt (wCB fLen (wCons (wVar 5) wNil)) (wC (.int 0)))))
(wRet (wTup (wCons (wC (.str "item")) (wCons (wFrz (wCall cLawPick (wCons (wVar 0) (wCons (wVar 1) (wCons (wVar 5) wNil))))) (wCons (wFrz (wCall (rc 0) (wCons (wVar 0) (wCons (wVar 1) (wCons (wVar 2) (wCons (wSub (wVar 3) (wC (.int 1))) wNil)))))) wNil)))))
wNext)
(wSeq (wIf (wB (wBin (sEq false) (wVar 4) (wC (.int 4))))
(wRet (wTup (wCons (wC (.str "not")) (wCons (wFrz (wCall (rc 0) (wCons (wVar 0) (wCons (wVar 1) (wCons (wVar 2) (wCons (wSub (wVar 3) (wC (.int 1))) wNil)))))) wNil))))
wNext)
(wSeq (wIf (wB (wBin (sEq false) (wVar 4) (wC (.int 5))))
(wSeq (wAsg 7 (wFrz (wCall (rc 0) (wCons (wVar 0) (wCons (wVar 1) (wCons (wVar 2) (wCons (wSub (wVar 3) (wC (.int 1))) wNil)))))))
(wRet (wTup (wCons (wC (.str "shift")) (wCons (wIdx (wFrz (wLst (wCons (wC (.str "<<")) (wCons (wC (.str ">>")) wNil)))) (wFrz (wCall cLawDraw (wCons (wVar 0) (wCons (wVar 1) (wCons (wC (.int 2)) wNil)))))) (wCons (wVar 7) (wCons (wFrz (wCall cLawDraw (wCons (wVar 0) (wCons (wVar 1) (wCons (wC (.int 16)) wNil))))) wNil)))))))
wNext)
(wSeq (wAsg 8 (wFrz (wCall cLawPick (wCons (wVar 0) (wCons (wVar 1) (wCons (wFrz (wLst (wCons (wC (.str "==")) (wCons (wC (.str "!=")) (wCons (wC (.str "<")) (wCons (wC (.str "+")) (wCons (wC (.str "-")) (wCons (wC (.str "|")) (wCons (wC (.str "^")) (wCons (wC (.str "*")) (wCons (wC (.str "&")) wNil))))))))))) wNil))))))
(wSeq (wAsg 7 (wFrz (wCall (rc 0) (wCons (wVar 0) (wCons (wVar 1) (wCons (wVar 2) (wCons (wSub (wVar 3) (wC (.int 1))) wNil)))))))
(wRet (wTup (wCons (wC (.str "op")) (wCons (wVar 8) (wCons (wVar 7) (wCons (wFrz (wCall (rc 0) (wCons (wVar 0) (wCons (wVar 1) (wCons (wVar 2) (wCons (wSub (wVar 3) (wC (.int 1))) wNil)))))) wNil))))))))))))))
def stEx (rc : Nat → CW) : Nat → CW := fun j => match j with
  | 0 => cwOf 4 5 (weLawExpression rc)
  | _ => cNever
@[irreducible] noncomputable def rcEx (n : Nat) : Nat → CW := Nat.rec (fun _ => cNever) (fun _ rc => stEx rc) n
theorem rcEx_z (j : Nat) : rcEx 0 j = cNever := by
  unfold rcEx
  rfl
theorem rcEx_s (n j : Nat) : rcEx (n + 1) j = stEx (rcEx n) j := by
  unfold rcEx
  rfl
theorem rcEx_0 (n : Nat) : rcEx (n + 1) 0 = cwOf 4 5 (weLawExpression (rcEx n)) := rcEx_s n 0

abbrev sLawCall : Stmt := topS 22
abbrev NLawCall : List Str := ["state", "script", "names", "depth", "found", "kind", "channel", "told"]
abbrev PLawCall : List Str := ["state", "script", "names", "depth"]
theorem scLawCall : FnScope NLawCall PLawCall (defScope sLawCall) := ⟨rfl, rfl, rfl, by decide +kernel, rfl, by decide +kernel, by decide +kernel⟩
def weLawCall : WS :=
(wSeq (wAsg 4 (wFrz (wCall cLawOf (wCons (wVar 2) (wCons (wTup (wCons (wC (.str "var")) wNil)) wNil)))))
(wSeq (wAsg 5 (wFrz (wCall cLawDraw (wCons (wVar 0) (wCons (wVar 1) (wCons (wC (.int 4)) wNil))))))
(wSeq (wAsg 6 (wIdx (wFrz (wLst (wCons (wC (.int 0)) (wCons (wC (.int 1)) (wCons (wC (.int 2)) (wCons (wC (.int 65535)) wNil)))))) (wFrz (wCall cLawDraw (wCons (wVar 0) (wCons (wVar 1) (wCons (wC (.int 4)) wNil)))))))
(wSeq (wIf (wOrT (wB (wBin sLt (wVar 5) (wC (.int 2)))) (wB (wBin (sEq false) (wCB fLen (wCons (wVar 4) wNil)) (wC (.int 0)))))
(wSeq (wAsg 7 (wIdx (wFrz (wCatL (wVar 4) (wFrz (wLst (wCons (wC (.str "")) wNil))))) (wFrz (wCall cLawDraw (wCons (wVar 0) (wCons (wVar 1) (wCons (wAdd (wCB fLen (wCons (wVar 4) wNil)) (wC (.int 1))) wNil)))))))
(wRet (wTup (wCons (wC (.str "send")) (wCons (wVar 6) (wCons (wFrz (wCall (rcEx 4 0) (wCons (wVar 0) (wCons (wVar 1) (wCons (wVar 2) (wCons (wVar 3) wNil)))))) (wCons (wVar 7) wNil)))))))
wNext)
(wSeq (wIf (wB (wBin (sEq false) (wVar 5) (wC (.int 2))))
(wRet (wTup (wCons (wC (.str "receive")) (wCons (wVar 6) (wCons (wFrz (wCall cLawPick (wCons (wVar 0) (wCons (wVar 1) (wCons (wVar 4) wNil))))) (wCons (wFrz (wCall cLawPick (wCons (wVar 0) (wCons (wVar 1) (wCons (wVar 4) wNil))))) wNil))))))
wNext)
(wRet (wTup (wCons (wC (.str "frame")) (wCons (wFrz (wCall cLawPick (wCons (wVar 0) (wCons (wVar 1) (wCons (wVar 4) wNil))))) wNil)))))))))
@[irreducible] def cLawCall : CW := cwOf 4 4 weLawCall

abbrev sLawStatement : Stmt := topS 23
abbrev NLawStatement : List Str := ["state", "script", "names", "depth", "loop", "kind", "found", "items", "place", "test", "first"]
abbrev PLawStatement : List Str := ["state", "script", "names", "depth", "loop"]
theorem scLawStatement : FnScope NLawStatement PLawStatement (defScope sLawStatement) := ⟨rfl, rfl, rfl, by decide +kernel, rfl, by decide +kernel, by decide +kernel⟩
def weLawStatement (rc : Nat → CW) : WS :=
(wSeq (wAsg 5 (wFrz (wCall cLawDraw (wCons (wVar 0) (wCons (wVar 1) (wCons (wC (.int 12)) wNil))))))
(wSeq (wAsg 6 (wFrz (wCall cLawOf (wCons (wVar 2) (wCons (wTup (wCons (wC (.str "var")) wNil)) wNil)))))
(wSeq (wAsg 7 (wFrz (wCall cLawOf (wCons (wVar 2) (wCons (wTup (wCons (wC (.str "table")) (wCons (wC (.str "page")) wNil))) wNil)))))
(wSeq (wIf (wAndT (wB (wBin sLt (wVar 5) (wC (.int 3)))) (wB (wBin sGt (wCB fLen (wCons (wVar 6) wNil)) (wC (.int 0)))))
(wRet (wTup (wCons (wC (.str "set")) (wCons (wFrz (wCall cLawPick (wCons (wVar 0) (wCons (wVar 1) (wCons (wVar 6) wNil))))) (wCons (wFrz (wCall (rcEx 4 0) (wCons (wVar 0) (wCons (wVar 1) (wCons (wVar 2) (wCons (wC (.int 2)) wNil)))))) wNil)))))
wNext)
(wSeq (wIf (wAndT (wB (wBin sLt (wVar 5) (wC (.int 5)))) (wB (wBin sGt (wCB fLen (wCons (wVar 7) wNil)) (wC (.int 0)))))
(wSeq (wAsg 8 (wFrz (wCall (rcEx 4 0) (wCons (wVar 0) (wCons (wVar 1) (wCons (wVar 2) (wCons (wC (.int 1)) wNil)))))))
(wRet (wTup (wCons (wC (.str "put")) (wCons (wFrz (wCall cLawPick (wCons (wVar 0) (wCons (wVar 1) (wCons (wVar 7) wNil))))) (wCons (wVar 8) (wCons (wFrz (wCall (rcEx 4 0) (wCons (wVar 0) (wCons (wVar 1) (wCons (wVar 2) (wCons (wC (.int 1)) wNil)))))) wNil)))))))
wNext)
(wSeq (wIf (wAndT (wB (wBin sLt (wVar 5) (wC (.int 8)))) (wB (wBin sGt (wVar 3) (wC (.int 0)))))
(wSeq (wAsg 9 (wFrz (wCall (rcEx 4 0) (wCons (wVar 0) (wCons (wVar 1) (wCons (wVar 2) (wCons (wC (.int 1)) wNil)))))))
(wSeq (wAsg 10 (wFrz (wCall (rc 1) (wCons (wVar 0) (wCons (wVar 1) (wCons (wVar 2) (wCons (wSub (wVar 3) (wC (.int 1))) (wCons (wVar 4) wNil))))))))
(wSeq (wIf (wAndT (wB (wBin (sEq false) (wVar 5) (wC (.int 7)))) (wB (wVar 4)))
(wRet (wTup (wCons (wC (.str "while")) (wCons (wVar 9) (wCons (wVar 10) wNil)))))
wNext)
(wRet (wTup (wCons (wC (.str "if")) (wCons (wVar 9) (wCons (wVar 10) (wCons (wIdx (wFrz (wLst (wCons (wFrz (wCall (rc 1) (wCons (wVar 0) (wCons (wVar 1) (wCons (wVar 2) (wCons (wSub (wVar 3) (wC (.int 1))) (wCons (wVar 4) wNil))))))) (wCons (wFrz (wLst wNil)) wNil)))) (wFrz (wCall cLawDraw (wCons (wVar 0) (wCons (wVar 1) (wCons (wC (.int 2)) wNil)))))) wNil)))))))))
wNext)
(wSeq (wIf (wB (wBin (sEq false) (wVar 5) (wC (.int 8))))
(wRet (wTup (wCons (wC (.str "rest")) wNil)))
wNext)
(wSeq (wIf (wAndD (wB (wBin (sEq false) (wVar 5) (wC (.int 9)))) (wB (wBin (sEq false) (wFrz (wCall cLawDraw (wCons (wVar 0) (wCons (wVar 1) (wCons (wC (.int 4)) wNil))))) (wC (.int 1)))))
(wRet (wTup (wCons (wC (.str "stop")) wNil)))
wNext)
(wRetO (wCall cLawCall (wCons (wVar 0) (wCons (wVar 1) (wCons (wVar 2) (wCons (wC (.int 2)) wNil))))))))))))))
abbrev sLawBody : Stmt := topS 24
abbrev NLawBody : List Str := ["state", "script", "names", "depth", "loop", "k"]
abbrev PLawBody : List Str := ["state", "script", "names", "depth", "loop"]
theorem scLawBody : FnScope NLawBody PLawBody (defScope sLawBody) := ⟨rfl, rfl, rfl, by decide +kernel, rfl, by decide +kernel, by decide +kernel⟩
def weLawBody (rc : Nat → CW) : WS :=
(wRetO (wLc (wRng1 (wCons (wFrz (wCall cLawDraw (wCons (wVar 0) (wCons (wVar 1) (wCons (wC (.int 4)) wNil))))) wNil)) (tgName 5) [5] wYes (wCall (rc 0) (wCons (wVar 0) (wCons (wVar 1) (wCons (wVar 2) (wCons (wVar 3) (wCons (wVar 4) wNil))))))))
def stSt (rc : Nat → CW) : Nat → CW := fun j => match j with
  | 0 => cwOf 5 6 (weLawStatement rc)
  | 1 => cwOf 5 1 (weLawBody rc)
  | _ => cNever
@[irreducible] noncomputable def rcSt (n : Nat) : Nat → CW := Nat.rec (fun _ => cNever) (fun _ rc => stSt rc) n
theorem rcSt_z (j : Nat) : rcSt 0 j = cNever := by
  unfold rcSt
  rfl
theorem rcSt_s (n j : Nat) : rcSt (n + 1) j = stSt (rcSt n) j := by
  unfold rcSt
  rfl
theorem rcSt_0 (n : Nat) : rcSt (n + 1) 0 = cwOf 5 6 (weLawStatement (rcSt n)) := rcSt_s n 0
theorem rcSt_1 (n : Nat) : rcSt (n + 1) 1 = cwOf 5 1 (weLawBody (rcSt n)) := rcSt_s n 1


abbrev sLawShown : Stmt := topS 25
abbrev NLawShown : List Str := ["e", "word"]
abbrev PLawShown : List Str := ["e"]
theorem scLawShown : FnScope NLawShown PLawShown (defScope sLawShown) := ⟨rfl, rfl, rfl, by decide +kernel, rfl, by decide +kernel, by decide +kernel⟩
def weLawShown (rc : Nat → CW) : WS :=
(wSeq (wAsg 1 (wIdx (wVar 0) (wC (.int 0))))
(wSeq (wIf (wB (wBin (sEq false) (wVar 1) (wC (.str "number"))))
(wRet (wCB fStr (wCons (wIdx (wVar 0) (wC (.int 1))) wNil)))
wNext)
(wSeq (wIf (wB (wBin (sEq false) (wVar 1) (wC (.str "name"))))
(wRet (wIdx (wVar 0) (wC (.int 1))))
wNext)
(wSeq (wIf (wB (wBin (sEq false) (wVar 1) (wC (.str "item"))))
(wRet (wAdd (wAdd (wAdd (wIdx (wVar 0) (wC (.int 1))) (wC (.str "["))) (wFrz (wCall (rc 0) (wCons (wIdx (wVar 0) (wC (.int 2))) wNil)))) (wC (.str "]"))))
wNext)
(wSeq (wIf (wB (wBin (sEq false) (wVar 1) (wC (.str "not"))))
(wRet (wAdd (wC (.str "~")) (wFrz (wCall (rc 0) (wCons (wIdx (wVar 0) (wC (.int 1))) wNil)))))
wNext)
(wSeq (wIf (wB (wBin (sEq false) (wVar 1) (wC (.str "shift"))))
(wRet (wAdd (wAdd (wAdd (wAdd (wAdd (wAdd (wC (.str "(")) (wFrz (wCall (rc 0) (wCons (wIdx (wVar 0) (wC (.int 2))) wNil)))) (wC (.str " "))) (wIdx (wVar 0) (wC (.int 1)))) (wC (.str " "))) (wCB fStr (wCons (wIdx (wVar 0) (wC (.int 3))) wNil))) (wC (.str ")"))))
wNext)
(wRet (wAdd (wAdd (wAdd (wAdd (wAdd (wAdd (wC (.str "(")) (wFrz (wCall (rc 0) (wCons (wIdx (wVar 0) (wC (.int 2))) wNil)))) (wC (.str " "))) (wIdx (wVar 0) (wC (.int 1)))) (wC (.str " "))) (wFrz (wCall (rc 0) (wCons (wIdx (wVar 0) (wC (.int 3))) wNil)))) (wC (.str ")"))))))))))
def stLs (rc : Nat → CW) : Nat → CW := fun j => match j with
  | 0 => cwOf 1 1 (weLawShown rc)
  | _ => cNever
@[irreducible] noncomputable def rcLs (n : Nat) : Nat → CW := Nat.rec (fun _ => cNever) (fun _ rc => stLs rc) n
theorem rcLs_z (j : Nat) : rcLs 0 j = cNever := by
  unfold rcLs
  rfl
theorem rcLs_s (n j : Nat) : rcLs (n + 1) j = stLs (rcLs n) j := by
  unfold rcLs
  rfl
theorem rcLs_0 (n : Nat) : rcLs (n + 1) 0 = cwOf 1 1 (weLawShown (rcLs n)) := rcLs_s n 0

abbrev sLawSimple : Stmt := topS 26
abbrev NLawSimple : List Str := ["one", "word"]
abbrev PLawSimple : List Str := ["one"]
theorem scLawSimple : FnScope NLawSimple PLawSimple (defScope sLawSimple) := ⟨rfl, rfl, rfl, by decide +kernel, rfl, by decide +kernel, by decide +kernel⟩
def weLawSimple : WS :=
(wSeq (wAsg 1 (wIdx (wVar 0) (wC (.int 0))))
(wSeq (wIf (wB (wBin (sEq false) (wVar 1) (wC (.str "set"))))
(wRet (wAdd (wAdd (wIdx (wVar 0) (wC (.int 1))) (wC (.str " := "))) (wFrz (wCall (rcLs 6 0) (wCons (wIdx (wVar 0) (wC (.int 2))) wNil)))))
wNext)
(wSeq (wIf (wB (wBin (sEq false) (wVar 1) (wC (.str "put"))))
(wRet (wAdd (wAdd (wAdd (wAdd (wIdx (wVar 0) (wC (.int 1))) (wC (.str "["))) (wFrz (wCall (rcLs 6 0) (wCons (wIdx (wVar 0) (wC (.int 2))) wNil)))) (wC (.str "] := "))) (wFrz (wCall (rcLs 6 0) (wCons (wIdx (wVar 0) (wC (.int 3))) wNil)))))
wNext)
(wSeq (wIf (wB (wBin (sEq false) (wVar 1) (wC (.str "send"))))
(wRet (wAdd (wAdd (wAdd (wAdd (wC (.str "send ")) (wCB fStr (wCons (wIdx (wVar 0) (wC (.int 1))) wNil))) (wC (.str ", "))) (wFrz (wCall (rcLs 6 0) (wCons (wIdx (wVar 0) (wC (.int 2))) wNil)))) (wIdx (wFrz (wLst (wCons (wC (.str "")) (wCons (wAdd (wC (.str " into ")) (wIdx (wVar 0) (wC (.int 3)))) wNil)))) (wCB fInt (wCons (wBin (sEq true) (wIdx (wVar 0) (wC (.int 3))) (wC (.str ""))) wNil)))))
wNext)
(wSeq (wIf (wB (wBin (sEq false) (wVar 1) (wC (.str "receive"))))
(wRet (wAdd (wAdd (wAdd (wAdd (wAdd (wC (.str "receive ")) (wCB fStr (wCons (wIdx (wVar 0) (wC (.int 1))) wNil))) (wC (.str " into "))) (wIdx (wVar 0) (wC (.int 2)))) (wC (.str ", "))) (wIdx (wVar 0) (wC (.int 3)))))
wNext)
(wSeq (wIf (wB (wBin (sEq false) (wVar 1) (wC (.str "frame"))))
(wRet (wAdd (wC (.str "frame into ")) (wIdx (wVar 0) (wC (.int 1)))))
wNext)
(wRet (wVar 1))))))))
@[irreducible] def cLawSimple : CW := cwOf 1 1 weLawSimple

abbrev sLawLines : Stmt := topS 27
abbrev NLawLines : List Str := ["body", "inside", "lines", "one"]
abbrev PLawLines : List Str := ["body", "inside"]
theorem scLawLines : FnScope NLawLines PLawLines (defScope sLawLines) := ⟨rfl, rfl, rfl, by decide +kernel, rfl, by decide +kernel, by decide +kernel⟩
def weLawLines (rc : Nat → CW) : WS :=
(wSeq (wNew 2 (wLst wNil))
(wCut (wFor (wItL (wVar 0)) (tgName 3)
(wIf (wB (wBin (sIn false) (wIdx (wVar 3) (wC (.int 0))) (wTup (wCons (wC (.str "if")) (wCons (wC (.str "while")) wNil)))))
(wSeq (wApp (wVar 2) (wLift (wAdd (wAdd (wAdd (wAdd (wVar 1) (wIdx (wVar 3) (wC (.int 0)))) (wC (.str " "))) (wFrz (wCall (rcLs 6 0) (wCons (wIdx (wVar 3) (wC (.int 1))) wNil)))) (wC (.str " {")))))
(wSeq (wNew 2 (wCatL (wVar 2) (wFrz (wCall (rc 0) (wCons (wIdx (wVar 3) (wC (.int 2))) (wCons (wAdd (wVar 1) (wC (.str "  "))) wNil))))))
(wCut (wIf (wAndT (wB (wBin (sEq false) (wIdx (wVar 3) (wC (.int 0))) (wC (.str "if")))) (wB (wBin (sEqV true) (wIdx (wVar 3) (wC (.int 3))) (wFrz (wLst wNil)))))
(wNew 2 (wCatL (wFrz (wCatL (wVar 2) (wFrz (wLst (wCons (wAdd (wVar 1) (wC (.str "} else {"))) wNil))))) (wFrz (wCall (rc 0) (wCons (wIdx (wVar 3) (wC (.int 3))) (wCons (wAdd (wVar 1) (wC (.str "  "))) wNil))))))
wNext)
(wApp (wVar 2) (wLift (wAdd (wVar 1) (wC (.str "}"))))))))
(wApp (wVar 2) (wLift (wAdd (wVar 1) (wFrz (wCall cLawSimple (wCons (wVar 3) wNil))))))))
(wRet (wVar 2))))
def stLl (rc : Nat → CW) : Nat → CW := fun j => match j with
  | 0 => cwOf 2 2 (weLawLines rc)
  | _ => cNever
@[irreducible] noncomputable def rcLl (n : Nat) : Nat → CW := Nat.rec (fun _ => cNever) (fun _ rc => stLl rc) n
theorem rcLl_z (j : Nat) : rcLl 0 j = cNever := by
  unfold rcLl
  rfl
theorem rcLl_s (n j : Nat) : rcLl (n + 1) j = stLl (rcLl n) j := by
  unfold rcLl
  rfl
theorem rcLl_0 (n : Nat) : rcLl (n + 1) 0 = cwOf 2 2 (weLawLines (rcLl n)) := rcLl_s n 0

abbrev sLawDeclared : Stmt := topS 28
abbrev NLawDeclared : List Str := ["name", "words", "word"]
abbrev PLawDeclared : List Str := ["name"]
theorem scLawDeclared : FnScope NLawDeclared PLawDeclared (defScope sLawDeclared) := ⟨rfl, rfl, rfl, by decide +kernel, rfl, by decide +kernel, by decide +kernel⟩
def weLawDeclared : WS :=
(wSeq (wIf (wB (wBin (sEq false) (wIdx (wVar 0) (wC (.int 0))) (wC (.str "var"))))
(wRet (wAdd (wAdd (wAdd (wC (.str "var ")) (wIdx (wVar 0) (wC (.int 1)))) (wC (.str " = "))) (wCB fStr (wCons (wIdx (wVar 0) (wC (.int 2))) wNil))))
wNext)
(wSeq (wIf (wB (wBin (sEq false) (wIdx (wVar 0) (wC (.int 0))) (wC (.str "page"))))
(wRet (wAdd (wAdd (wAdd (wAdd (wAdd (wC (.str "page ")) (wIdx (wVar 0) (wC (.int 1)))) (wC (.str " "))) (wCB fStr (wCons (wIdx (wVar 0) (wC (.int 2))) wNil))) (wC (.str " "))) (wCB fStr (wCons (wIdx (wVar 0) (wC (.int 3))) wNil))))
wNext)
(wSeq (wAsg 1 (wJoin (wC (.str ", ")) (wFrz (wLc (wItT (wIdx (wVar 0) (wC (.int 3)))) (tgName 2) [2] wYes (wLift (wCB fStr (wCons (wVar 2) wNil)))))))
(wRet (wAdd (wAdd (wAdd (wAdd (wC (.str "table ")) (wIdx (wVar 0) (wC (.int 1)))) (wC (.str " "))) (wCB fStr (wCons (wIdx (wVar 0) (wC (.int 2))) wNil))) (wIdx (wFrz (wLst (wCons (wC (.str "")) (wCons (wAdd (wC (.str " = ")) (wVar 1)) wNil)))) (wCB fInt (wCons (wBin sGt (wCB fLen (wCons (wIdx (wVar 0) (wC (.int 3))) wNil)) (wC (.int 0))) wNil))))))))
@[irreducible] def cLawDeclared : CW := cwOf 1 2 weLawDeclared

abbrev sLaw : Stmt := topS 29
abbrev NLaw : List Str := ["script", "state", "names", "body", "source", "lines", "name", "line"]
abbrev PLaw : List Str := ["script"]
theorem scLaw : FnScope NLaw PLaw (defScope sLaw) := ⟨rfl, rfl, rfl, by decide +kernel, rfl, by decide +kernel, by decide +kernel⟩
def weLaw : WS :=
(wSeq (wNew 1 (wLst (wCons (wC (.int 0)) (wCons (wC (.int 0)) wNil))))
(wSeq (wAsg 2 (wFrz (wCall cLawNames (wCons (wVar 1) (wCons (wVar 0) (wCons (wC (.int 2)) wNil))))))
(wSeq (wAsg 3 (wFrz (wCall (rcSt 10 1) (wCons (wVar 1) (wCons (wVar 0) (wCons (wVar 2) (wCons (wC (.int 3)) (wCons (wC (.bool true)) wNil))))))))
(wSeq (wAsg 4 (wFrz (wMake 0 cSourceInit (wCons (wVar 2) (wCons (wVar 3) wNil)))))
(wSeq (wAsg 5 (wFrz (wCatL (wFrz (wLc (wItL (wVar 2)) (tgName 6) [6] wYes (wCall cLawDeclared (wCons (wVar 6) wNil)))) (wFrz (wCall (rcLl 6 0) (wCons (wVar 3) (wCons (wC (.str "")) wNil)))))))
(wRet (wAndV (wBin (sEq false) (wFrz (wCall cPrintSource (wCons (wVar 4) wNil))) (wJoin (wC (.str "")) (wFrz (wLc (wItL (wVar 5)) (tgName 7) [7] wYes (wLift (wAdd (wVar 7) (wC (.str "\n")))))))) (wOwn 0 cSourceEq false (wVar 4) (wFrz (wMake 0 cSourceInit (wCons (wVar 2) (wCons (wVar 3) wNil))))))))))))
@[irreducible] def cLaw : CW := cwOf 1 7 weLaw

structure Tx (K : PySem.W.Frag) (w : World) (mg : Str → Option Value) where
  cSource : Addr
  gSource : mg "Source" = some (.ref cSource)
  clSource : Cls K cSource
  aUnrolled : Addr
  fdUnrolled : FuncData
  dUnrolled : DefAt K mg "unrolled" sUnrolled aUnrolled fdUnrolled PUnrolled
  aShownFirst : Addr
  fdShownFirst : FuncData
  dShownFirst : DefAt K mg "shown_first" sShownFirst aShownFirst fdShownFirst PShownFirst
  aShown : Addr
  fdShown : FuncData
  dShown : DefAt K mg "shown" sShown aShown fdShown PShown
  aShownName : Addr
  fdShownName : FuncData
  dShownName : DefAt K mg "shown_name" sShownName aShownName fdShownName PShownName
  aShownSend : Addr
  fdShownSend : FuncData
  dShownSend : DefAt K mg "shown_send" sShownSend aShownSend fdShownSend PShownSend
  aShownPlain : Addr
  fdShownPlain : FuncData
  dShownPlain : DefAt K mg "shown_plain" sShownPlain aShownPlain fdShownPlain PShownPlain
  aFurtherIn : Addr
  fdFurtherIn : FuncData
  dFurtherIn : DefAt K mg "further_in" sFurtherIn aFurtherIn fdFurtherIn PFurtherIn
  aLinesOf : Addr
  fdLinesOf : FuncData
  dLinesOf : DefAt K mg "lines_of" sLinesOf aLinesOf fdLinesOf PLinesOf
  aLinesOfAll : Addr
  fdLinesOfAll : FuncData
  dLinesOfAll : DefAt K mg "lines_of_all" sLinesOfAll aLinesOfAll fdLinesOfAll PLinesOfAll
  aPrintSource : Addr
  fdPrintSource : FuncData
  dPrintSource : DefAt K mg "print_source" sPrintSource aPrintSource fdPrintSource PPrintSource
  aAreRows : Addr
  fdAreRows : FuncData
  dAreRows : DefAt K mg "are_rows" sAreRows aAreRows fdAreRows PAreRows
  aSameTrees : Addr
  fdSameTrees : FuncData
  dSameTrees : DefAt K mg "same_trees" sSameTrees aSameTrees fdSameTrees PSameTrees
  aSourceInit : Addr
  fdSourceInit : FuncData
  mSourceInit : MethAt K "__init__" "Source.__init__" sSourceInit aSourceInit fdSourceInit PSourceInit
  mkSource : Mk K cSource aSourceInit
  aSourceEq : Addr
  fdSourceEq : FuncData
  mSourceEq : MethAt K "__eq__" "Source.__eq__" sSourceEq aSourceEq fdSourceEq PSourceEq
  eqSource : EqK K cSource aSourceEq
  aLawDraw : Addr
  fdLawDraw : FuncData
  dLawDraw : DefAt K mg "_law_draw" sLawDraw aLawDraw fdLawDraw PLawDraw
  aLawNames : Addr
  fdLawNames : FuncData
  dLawNames : DefAt K mg "_law_names" sLawNames aLawNames fdLawNames PLawNames
  aLawOf : Addr
  fdLawOf : FuncData
  dLawOf : DefAt K mg "_law_of" sLawOf aLawOf fdLawOf PLawOf
  aLawPick : Addr
  fdLawPick : FuncData
  dLawPick : DefAt K mg "_law_pick" sLawPick aLawPick fdLawPick PLawPick
  aLawExpression : Addr
  fdLawExpression : FuncData
  dLawExpression : DefAt K mg "_law_expression" sLawExpression aLawExpression fdLawExpression PLawExpression
  aLawCall : Addr
  fdLawCall : FuncData
  dLawCall : DefAt K mg "_law_call" sLawCall aLawCall fdLawCall PLawCall
  aLawStatement : Addr
  fdLawStatement : FuncData
  dLawStatement : DefAt K mg "_law_statement" sLawStatement aLawStatement fdLawStatement PLawStatement
  aLawBody : Addr
  fdLawBody : FuncData
  dLawBody : DefAt K mg "_law_body" sLawBody aLawBody fdLawBody PLawBody
  aLawShown : Addr
  fdLawShown : FuncData
  dLawShown : DefAt K mg "_law_shown" sLawShown aLawShown fdLawShown PLawShown
  aLawSimple : Addr
  fdLawSimple : FuncData
  dLawSimple : DefAt K mg "_law_simple" sLawSimple aLawSimple fdLawSimple PLawSimple
  aLawLines : Addr
  fdLawLines : FuncData
  dLawLines : DefAt K mg "_law_lines" sLawLines aLawLines fdLawLines PLawLines
  aLawDeclared : Addr
  fdLawDeclared : FuncData
  dLawDeclared : DefAt K mg "_law_declared" sLawDeclared aLawDeclared fdLawDeclared PLawDeclared
  aLaw : Addr
  fdLaw : FuncData
  dLaw : DefAt K mg "law" sLaw aLaw fdLaw PLaw
  nSource_names : NoAttr K cSource "names"
  nSource_body : NoAttr K cSource "body"
  isSource : IsK K cSource
  b_len : mg "len" = none
  b_int : mg "int" = none
  b_range : mg "range" = none
  b_tuple : mg "tuple" = none
  b_list : mg "list" = none
  b_isinstance : mg "isinstance" = none
  b_str : mg "str" = none
  b_min : mg "min" = none
  b_zip : mg "zip" = none
def lys : List (List Str) := [["names", "body"]]
def Tx.cs {K : PySem.W.Frag} {w : World} {mg : Str → Option Value} (T : Tx K w mg) : Cs := ⟨fun c => ([T.cSource] : List Addr).getD c 0, fun c => lys.getD c [], fun _ => 0⟩
theorem Tx.fk_names {K : PySem.W.Frag} {w : World} {mg : Str → Option Value} (T : Tx K w mg) : FOk K T.cs fld_names "names" := fun c i h => by
  unfold fld_names at h
  split at h
  · cases h
    exact ⟨T.clSource, T.nSource_names, rfl, show (lys.getD 0 []).Nodup by decide +kernel⟩
  · cases h
theorem Tx.fk_body {K : PySem.W.Frag} {w : World} {mg : Str → Option Value} (T : Tx K w mg) : FOk K T.cs fld_body "body" := fun c i h => by
  unfold fld_body at h
  split at h
  · cases h
    exact ⟨T.clSource, T.nSource_body, rfl, show (lys.getD 0 []).Nodup by decide +kernel⟩
  · cases h
section
variable {P : Program} {w : World} {K : PySem.W.Frag} {mg : Str → Option Value} {base : Heap}
theorem ok_Unrolled (T : Tx K w mg) : FnOk P w K mg base (L2N.CX P w) 1 T.aUnrolled T.fdUnrolled PUnrolled (spW K T.cs cUnrolled) := by
  unfold cUnrolled
  exact ok_W T.dUnrolled.F scUnrolled rfl fun cdv A outer s H E hr tk => by
    unfold weUnrolled
    exact (wss_cons (ws_new (ps_set (i := 1) scUnrolled.nd rfl (Or.inl rfl) (wo_lst wa_nil)))
(wss_cut (ws_while PassesOwn.leaving (wt_cmp op_in_seq s_in (we_idx (we_var (pv 0)) we_int (fun _ _ => rfl)) (we_tup (wa_cons we_str (wa_cons we_str wa_nil))) rfl) (wss_cons (ws_app (ps_expr (pe_bm PySem.F.plainAttrs_list PySem.F.slot_list_append PySem.F.type_list_append mt_append (we_var (pv 1)) (pa_cons (wo_lift (we_var (pv 0))) pa_nil))))
(wss_one (ws_asg (ps_set (i := 0) scUnrolled.nd rfl (Or.inl rfl) (we_idx (we_var (pv 0)) we_int (fun _ _ => rfl)))))))
(wss_one (ws_ret (we_tup (wa_cons (we_var (pv 0)) (wa_cons (we_frz (wo_revL (we_var (pv 1)) rfl)) wa_nil)))))))

theorem ok_Sh (T : Tx K w mg) : ∀ n : Nat, FnOk P w K mg base (L2N.CX P w) (2 + n) T.aShownFirst T.fdShownFirst PShownFirst (spW K T.cs (rcSh n 0)) ∧
    FnOk P w K mg base (L2N.CX P w) (2 + n) T.aShown T.fdShown PShown (spW K T.cs (rcSh n 1)) := by
  intro n
  induction n with
  | zero =>
    refine ⟨?_, ?_⟩ <;> (rw [rcSh_z]; exact ok_never)
  | succ n ih =>
    obtain ⟨i0, i1⟩ := ih
    refine ⟨?_, ?_⟩
    · rw [rcSh_0]
      exact ok_W T.dShownFirst.F scShownFirst rfl fun cdv A outer s H E hr tk => by
        unfold weShownFirst
        exact (wss_cons (ws_asg (ps_set (i := 1) scShownFirst.nd rfl (Or.inl rfl) (we_idx (we_var (pv 0)) we_int (fun _ _ => rfl))))
(wss_cons (ws_if (wt_cmp (op_eqA hr.units) s_eq (we_var (pv 1)) we_str (nomark _)) (wss_one (ws_ret (pe_imp (pe_callTy call_str_int (by rfl) T.b_str (by decide +kernel) (wa_cons (we_idx (we_var (pv 0)) we_int (fun _ _ => rfl)) wa_nil)) (e_cb sa_str)))) wss_nil)
(wss_cons (ws_if (wt_cmp (op_eqA hr.units) s_eq (we_var (pv 1)) we_str (nomark _)) (wss_one (ws_ret (we_idx (we_var (pv 0)) we_int (fun _ _ => rfl)))) wss_nil)
(wss_cons (ws_if (wt_cmp (op_eqA hr.units) s_eq (we_var (pv 1)) we_str (nomark _)) (wss_one (ws_ret (we_add we_str (we_frz (wo_call (pe_callS i1 (hr.mono (by show _ ≤ 2 + n; omega)) (by rfl) T.dShown.g T.dShown.F.kp T.dShown.b (fun σ => L2N.passAt tk σ) (wa_cons (we_idx (we_var (pv 0)) we_int (fun _ _ => rfl)) wa_nil))))))) wss_nil)
(wss_one (ws_ret (we_add (we_add (we_add (we_idx (we_var (pv 0)) we_int (fun _ _ => rfl)) we_str) (we_frz (wo_call (pe_callS i1 (hr.mono (by show _ ≤ 2 + n; omega)) (by rfl) T.dShown.g T.dShown.F.kp T.dShown.b (fun σ => L2N.passAt tk σ) (wa_cons (we_idx (we_var (pv 0)) we_int (fun _ _ => rfl)) wa_nil))))) we_str)))))))
    · rw [rcSh_1]
      exact ok_W T.dShown.F scShown rfl fun cdv A outer s H E hr tk => by
        unfold weShown
        exact (wss_cons (ws_asgT (tg_tup (js := [1, 2]) rfl) (ps_asg (we_frz (wo_call (pe_callS (ok_Unrolled T) (hr.mono (by show _ ≤ 2 + n; omega)) (by rfl) T.dUnrolled.g T.dUnrolled.F.kp T.dUnrolled.b (fun σ => L2N.passAt tk σ) (wa_cons (we_var (pv 0)) wa_nil)))) (pg_tup rfl (pgs_cons (pg_name (i := 1) scShown.nd rfl (Or.inl rfl)) (pgs_cons (pg_name (i := 2) scShown.nd rfl (Or.inl rfl)) pgs_nil)))))
(wss_cons (ws_asg (ps_set (i := 3) scShown.nd rfl (Or.inl rfl) (we_frz (wo_call (pe_callS i0 (hr.mono (by show _ ≤ 2 + n; omega)) (by rfl) T.dShownFirst.g T.dShownFirst.F.kp T.dShownFirst.b (fun σ => L2N.passAt tk σ) (wa_cons (we_var (pv 1)) wa_nil))))))
(wss_cut (ws_for tg_name (ps_for PassesOwn.leaving rfl (wi_list (we_var (pv 2))) (pg_name (i := 4) scShown.nd rfl (Or.inl rfl)) (wss_cut (ws_if (wt_cmp (op_eqA hr.units) s_eq (we_idx (we_var (pv 4)) we_int (fun _ _ => rfl)) we_str (nomark _)) (wss_one (ws_asg (ps_set (i := 5) scShown.nd rfl (Or.inl rfl) (pe_imp (pe_callTy call_str_int (by rfl) T.b_str (by decide +kernel) (wa_cons (we_idx (we_var (pv 4)) we_int (fun _ _ => rfl)) wa_nil)) (e_cb sa_str))))) (wss_one (ws_asg (ps_set (i := 5) scShown.nd rfl (Or.inl rfl) (we_frz (wo_call (pe_callS i1 (hr.mono (by show _ ≤ 2 + n; omega)) (by rfl) T.dShown.g T.dShown.F.kp T.dShown.b (fun σ => L2N.passAt tk σ) (wa_cons (we_idx (we_var (pv 4)) we_int (fun _ _ => rfl)) wa_nil))))))))
(wss_one (ws_asg (ps_set (i := 3) scShown.nd rfl (Or.inl rfl) (we_add (we_add (we_add (we_add (we_add (we_add we_str (we_var (pv 3))) we_str) (we_idx (we_var (pv 4)) we_int (fun _ _ => rfl))) we_str) (we_var (pv 5))) we_str)))))))
(wss_one (ws_ret (we_var (pv 3)))))))


theorem ok_ShownName (T : Tx K w mg) : FnOk P w K mg base (L2N.CX P w) 1 T.aShownName T.fdShownName PShownName (spW K T.cs cShownName) := by
  unfold cShownName
  exact ok_W T.dShownName.F scShownName rfl fun cdv A outer s H E hr tk => by
    unfold weShownName
    exact (wss_cons (ws_if (wt_cmp (op_eqA hr.units) s_eq (we_idx (we_var (pv 0)) we_int (fun _ _ => rfl)) we_str (nomark _)) (wss_cons (ws_asgT (tg_tup (js := [1, 2, 3, 4]) rfl) (ps_asg (we_var (pv 0)) (pg_tup rfl (pgs_cons (pg_name (i := 1) scShownName.nd rfl (Or.inl rfl)) (pgs_cons (pg_name (i := 2) scShownName.nd rfl (Or.inl rfl)) (pgs_cons (pg_name (i := 3) scShownName.nd rfl (Or.inl rfl)) (pgs_cons (pg_name (i := 4) scShownName.nd rfl (Or.inl rfl)) pgs_nil)))))))
(wss_cons (ws_asg (ps_set (i := 5) scShownName.nd rfl (Or.inl rfl) (we_js (.cons we_str (.cons (we_fmt (we_var (pv 2))) (.cons we_str (.cons (we_fmt (we_var (pv 3))) .nil)))))))
(wss_cut (ws_if (wt_cmp op_gt s_gt (pe_imp (pe_callB call_len (by rfl) T.b_len PySem.boot_len (wa_cons (we_var (pv 4)) wa_nil)) (e_cb sa_len)) we_int (nomark _)) (wss_one (ws_augT (ps_aug (i := 5) scShownName.nd rfl (Or.inl rfl) (we_add we_str (we_join we_str (we_frz (wo_lc tg_name (tgw_name (by decide)) (pe_lc (own := [("word", 6)]) rfl scShownName.nd (wi_tup (we_var (pv 4))) (blkOk_by (own := [("word", 6)]) (N := NShownName) (sc := defScope sShownName) (by decide +kernel)) (fun _ _ _ _ _ => (pg_name (i := 6) scShownName.nd rfl (Or.inl rfl))) (fun _ _ _ _ _ => wts_nil) (fun _ _ _ _ _ => (wo_lift (pe_imp (pe_callTy call_str_int (by rfl) T.b_str (by decide +kernel) (wa_cons (we_var (pv 6)) wa_nil)) (e_cb sa_str))))))) rfl)) ip_addT))) wss_nil)
(wss_one (ws_ret (we_var (pv 5))))))) wss_nil)
(wss_cons (ws_if (wt_cmp (op_eqA hr.units) s_eq (we_idx (we_var (pv 0)) we_int (fun _ _ => rfl)) we_str (nomark _)) (wss_cons (ws_asgT (tg_tup (js := [1, 2, 7, 3]) rfl) (ps_asg (we_var (pv 0)) (pg_tup rfl (pgs_cons (pg_name (i := 1) scShownName.nd rfl (Or.inl rfl)) (pgs_cons (pg_name (i := 2) scShownName.nd rfl (Or.inl rfl)) (pgs_cons (pg_name (i := 7) scShownName.nd rfl (Or.inl rfl)) (pgs_cons (pg_name (i := 3) scShownName.nd rfl (Or.inl rfl)) pgs_nil)))))))
(wss_one (ws_ret (we_js (.cons we_str (.cons (we_fmt (we_var (pv 2))) (.cons we_str (.cons (we_fmt (we_var (pv 7))) (.cons we_str (.cons (we_fmt (we_var (pv 3))) .nil)))))))))) wss_nil)
(wss_cons (ws_asgT (tg_tup (js := [1, 2, 6]) rfl) (ps_asg (we_var (pv 0)) (pg_tup rfl (pgs_cons (pg_name (i := 1) scShownName.nd rfl (Or.inl rfl)) (pgs_cons (pg_name (i := 2) scShownName.nd rfl (Or.inl rfl)) (pgs_cons (pg_name (i := 6) scShownName.nd rfl (Or.inl rfl)) pgs_nil))))))
(wss_one (ws_ret (we_js (.cons we_str (.cons (we_fmt (we_var (pv 2))) (.cons we_str (.cons (we_fmt (we_var (pv 6))) .nil))))))))))

theorem ok_ShownSend (T : Tx K w mg) : FnOk P w K mg base (L2N.CX P w) 13 T.aShownSend T.fdShownSend PShownSend (spW K T.cs cShownSend) := by
  unfold cShownSend
  exact ok_W T.dShownSend.F scShownSend rfl fun cdv A outer s H E hr tk => by
    unfold weShownSend
    exact (wss_cons (ws_asgT (tg_tup (js := [1, 2, 3, 4]) rfl) (ps_asg (we_var (pv 0)) (pg_tup rfl (pgs_cons (pg_name (i := 1) scShownSend.nd rfl (Or.inl rfl)) (pgs_cons (pg_name (i := 2) scShownSend.nd rfl (Or.inl rfl)) (pgs_cons (pg_name (i := 3) scShownSend.nd rfl (Or.inl rfl)) (pgs_cons (pg_name (i := 4) scShownSend.nd rfl (Or.inl rfl)) pgs_nil)))))))
(wss_cons (ws_asg (ps_set (i := 5) scShownSend.nd rfl (Or.inl rfl) (we_add (we_js (.cons we_str (.cons (we_fmt (we_var (pv 2))) (.cons we_str .nil)))) (we_frz (wo_call (pe_callS (ok_Sh T 10).2 (hr.mono (by decide)) (by rfl) T.dShown.g T.dShown.F.kp T.dShown.b (fun σ => L2N.passAt tk σ) (wa_cons (we_var (pv 3)) wa_nil)))))))
(wss_cut (ws_if (wt_cmp (op_neA hr.units) s_ne (we_var (pv 4)) we_str (nomark _)) (wss_one (ws_augT (ps_aug (i := 5) scShownSend.nd rfl (Or.inl rfl) (we_add we_str (we_var (pv 4))) ip_addT))) wss_nil)
(wss_one (ws_ret (we_var (pv 5)))))))

theorem ok_ShownPlain (T : Tx K w mg) : FnOk P w K mg base (L2N.CX P w) 14 T.aShownPlain T.fdShownPlain PShownPlain (spW K T.cs cShownPlain) := by
  unfold cShownPlain
  exact ok_W T.dShownPlain.F scShownPlain rfl fun cdv A outer s H E hr tk => by
    unfold weShownPlain
    exact (wss_cons (ws_asg (ps_set (i := 1) scShownPlain.nd rfl (Or.inl rfl) (we_idx (we_var (pv 0)) we_int (fun _ _ => rfl))))
(wss_cons (ws_if (wt_cmp (op_eqA hr.units) s_eq (we_var (pv 1)) we_str (nomark _)) (wss_one (ws_ret (we_add (we_add (we_idx (we_var (pv 0)) we_int (fun _ _ => rfl)) we_str) (we_frz (wo_call (pe_callS (ok_Sh T 10).2 (hr.mono (by decide)) (by rfl) T.dShown.g T.dShown.F.kp T.dShown.b (fun σ => L2N.passAt tk σ) (wa_cons (we_idx (we_var (pv 0)) we_int (fun _ _ => rfl)) wa_nil))))))) wss_nil)
(wss_cons (ws_if (wt_cmp (op_eqA hr.units) s_eq (we_var (pv 1)) we_str (nomark _)) (wss_one (ws_ret (we_add (we_add (we_add (we_add (we_idx (we_var (pv 0)) we_int (fun _ _ => rfl)) we_str) (we_frz (wo_call (pe_callS (ok_Sh T 10).2 (hr.mono (by decide)) (by rfl) T.dShown.g T.dShown.F.kp T.dShown.b (fun σ => L2N.passAt tk σ) (wa_cons (we_idx (we_var (pv 0)) we_int (fun _ _ => rfl)) wa_nil))))) we_str) (we_frz (wo_call (pe_callS (ok_Sh T 10).2 (hr.mono (by decide)) (by rfl) T.dShown.g T.dShown.F.kp T.dShown.b (fun σ => L2N.passAt tk σ) (wa_cons (we_idx (we_var (pv 0)) we_int (fun _ _ => rfl)) wa_nil))))))) wss_nil)
(wss_cons (ws_if (wt_cmp (op_eqA hr.units) s_eq (we_var (pv 1)) we_str (nomark _)) (wss_one (ws_retO (wo_call (pe_callS (ok_ShownSend T) (hr.mono (by decide)) (by rfl) T.dShownSend.g T.dShownSend.F.kp T.dShownSend.b (fun σ => L2N.passAt tk σ) (wa_cons (we_var (pv 0)) wa_nil))))) wss_nil)
(wss_cons (ws_if (wt_cmp (op_eqA hr.units) s_eq (we_var (pv 1)) we_str (nomark _)) (wss_cons (ws_asgT (tg_tup (js := [2, 3, 4, 5]) rfl) (ps_asg (we_var (pv 0)) (pg_tup rfl (pgs_cons (pg_name (i := 2) scShownPlain.nd rfl (Or.inl rfl)) (pgs_cons (pg_name (i := 3) scShownPlain.nd rfl (Or.inl rfl)) (pgs_cons (pg_name (i := 4) scShownPlain.nd rfl (Or.inl rfl)) (pgs_cons (pg_name (i := 5) scShownPlain.nd rfl (Or.inl rfl)) pgs_nil)))))))
(wss_one (ws_ret (we_js (.cons we_str (.cons (we_fmt (we_var (pv 3))) (.cons we_str (.cons (we_fmt (we_var (pv 4))) (.cons we_str (.cons (we_fmt (we_var (pv 5))) .nil)))))))))) wss_nil)
(wss_cons (ws_if (wt_cmp (op_eqA hr.units) s_eq (we_var (pv 1)) we_str (nomark _)) (wss_one (ws_ret (we_add we_str (we_idx (we_var (pv 0)) we_int (fun _ _ => rfl))))) wss_nil)
(wss_one (ws_ret (we_var (pv 1))))))))))

theorem ok_FurtherIn (T : Tx K w mg) : FnOk P w K mg base (L2N.CX P w) 1 T.aFurtherIn T.fdFurtherIn PFurtherIn (spW K T.cs cFurtherIn) := by
  unfold cFurtherIn
  exact ok_W T.dFurtherIn.F scFurtherIn rfl fun cdv A outer s H E hr tk => by
    unfold weFurtherIn
    exact (wss_one (ws_retO (wo_lc tg_name (tgw_name (by decide)) (pe_lc (own := [("line", 1)]) rfl scFurtherIn.nd (wi_list (we_var (pv 0))) (blkOk_by (own := [("line", 1)]) (N := NFurtherIn) (sc := defScope sFurtherIn) (by decide +kernel)) (fun _ _ _ _ _ => (pg_name (i := 1) scFurtherIn.nd rfl (Or.inl rfl))) (fun _ _ _ _ _ => wts_nil) (fun _ _ _ _ _ => (wo_lift (we_add we_str (we_var (pv 1)))))))))

theorem ok_Li (T : Tx K w mg) : ∀ n : Nat, FnOk P w K mg base (L2N.CX P w) (15 + n) T.aLinesOf T.fdLinesOf PLinesOf (spW K T.cs (rcLi n 0)) ∧
    FnOk P w K mg base (L2N.CX P w) (15 + n) T.aLinesOfAll T.fdLinesOfAll PLinesOfAll (spW K T.cs (rcLi n 1)) := by
  intro n
  induction n with
  | zero =>
    refine ⟨?_, ?_⟩ <;> (rw [rcLi_z]; exact ok_never)
  | succ n ih =>
    obtain ⟨i0, i1⟩ := ih
    refine ⟨?_, ?_⟩
    · rw [rcLi_0]
      exact ok_W T.dLinesOf.F scLinesOf rfl fun cdv A outer s H E hr tk => by
        unfold weLinesOf
        exact (wss_cons (ws_asg (ps_set (i := 1) scLinesOf.nd rfl (Or.inl rfl) (we_idx (we_var (pv 0)) we_int (fun _ _ => rfl))))
(wss_cons (ws_if (wt_cmp op_notIn_seq s_in (we_var (pv 1)) (we_tup (wa_cons we_str (wa_cons we_str wa_nil))) rfl) (wss_one (ws_retO (wo_lst (wa_cons (we_frz (wo_call (pe_callS (ok_ShownPlain T) (hr.mono (by show _ ≤ 15 + n; omega)) (by rfl) T.dShownPlain.g T.dShownPlain.F.kp T.dShownPlain.b (fun σ => L2N.passAt tk σ) (wa_cons (we_var (pv 0)) wa_nil)))) wa_nil)))) wss_nil)
(wss_cons (ws_new (ps_set (i := 2) scLinesOf.nd rfl (Or.inl rfl) (wo_catL (we_frz (wo_lst (wa_cons (we_add (we_add (we_add (we_var (pv 1)) we_str) (we_frz (wo_call (pe_callS (ok_Sh T 10).2 (hr.mono (by show _ ≤ 15 + n; omega)) (by rfl) T.dShown.g T.dShown.F.kp T.dShown.b (fun σ => L2N.passAt tk σ) (wa_cons (we_idx (we_var (pv 0)) we_int (fun _ _ => rfl)) wa_nil))))) we_str) wa_nil))) (we_frz (wo_call (pe_callS (ok_FurtherIn T) (hr.mono (by show _ ≤ 15 + n; omega)) (by rfl) T.dFurtherIn.g T.dFurtherIn.F.kp T.dFurtherIn.b (fun σ => L2N.passAt tk σ) (wa_cons (we_frz (wo_call (pe_callS i1 (hr.mono (by show _ ≤ 15 + n; omega)) (by rfl) T.dLinesOfAll.g T.dLinesOfAll.F.kp T.dLinesOfAll.b (fun σ => L2N.passAt tk σ) (wa_cons (we_idx (we_var (pv 0)) we_int (fun _ _ => rfl)) wa_nil)))) wa_nil)))))))
(wss_cut (ws_if (ww_and (wt_cmp (op_eqA hr.units) s_eq (we_var (pv 1)) we_str (nomark _)) (pw_and1 (wt_cmp op_gt s_gt (pe_imp (pe_callB call_len (by rfl) T.b_len PySem.boot_len (wa_cons (we_idx (we_var (pv 0)) we_int (fun _ _ => rfl)) wa_nil)) (e_cb sa_len)) we_int (nomark _)))).pt (wss_cons (ws_app (ps_expr (pe_bm PySem.F.plainAttrs_list PySem.F.slot_list_append PySem.F.type_list_append mt_append (we_var (pv 2)) (pa_cons (wo_lift we_str) pa_nil))))
(wss_one (ws_ext (ps_expr (pe_bm PySem.F.plainAttrs_list PySem.F.slot_list_extend PySem.F.type_list_extend mt_extend (we_var (pv 2)) (pa_cons (we_frz (wo_call (pe_callS (ok_FurtherIn T) (hr.mono (by show _ ≤ 15 + n; omega)) (by rfl) T.dFurtherIn.g T.dFurtherIn.F.kp T.dFurtherIn.b (fun σ => L2N.passAt tk σ) (wa_cons (we_frz (wo_call (pe_callS i1 (hr.mono (by show _ ≤ 15 + n; omega)) (by rfl) T.dLinesOfAll.g T.dLinesOfAll.F.kp T.dLinesOfAll.b (fun σ => L2N.passAt tk σ) (wa_cons (we_idx (we_var (pv 0)) we_int (fun _ _ => rfl)) wa_nil)))) wa_nil)))) pa_nil)))))) wss_nil)
(wss_one (ws_retO (wo_catL (we_var (pv 2)) (we_frz (wo_lst (wa_cons we_str wa_nil))))))))))
    · rw [rcLi_1]
      exact ok_W T.dLinesOfAll.F scLinesOfAll rfl fun cdv A outer s H E hr tk => by
        unfold weLinesOfAll
        exact (wss_cons (ws_new (ps_set (i := 1) scLinesOfAll.nd rfl (Or.inl rfl) (wo_lst wa_nil)))
(wss_cut (ws_for tg_name (ps_for PassesOwn.leaving rfl (wi_list (we_var (pv 0))) (pg_name (i := 2) scLinesOfAll.nd rfl (Or.inl rfl)) (wss_one (ws_ext (ps_expr (pe_bm PySem.F.plainAttrs_list PySem.F.slot_list_extend PySem.F.type_list_extend mt_extend (we_var (pv 1)) (pa_cons (we_frz (wo_call (pe_callS i0 (hr.mono (by show _ ≤ 15 + n; omega)) (by rfl) T.dLinesOf.g T.dLinesOf.F.kp T.dLinesOf.b (fun σ => L2N.passAt tk σ) (wa_cons (we_var (pv 2)) wa_nil)))) pa_nil)))))))
(wss_one (ws_ret (we_var (pv 1))))))


theorem ok_PrintSource (T : Tx K w mg) : FnOk P w K mg base (L2N.CX P w) 28 T.aPrintSource T.fdPrintSource PPrintSource (spW K T.cs cPrintSource) := by
  unfold cPrintSource
  exact ok_W T.dPrintSource.F scPrintSource rfl fun cdv A outer s H E hr tk => by
    unfold wePrintSource
    exact (wss_cons (ws_asg (ps_set (i := 1) scPrintSource.nd rfl (Or.inl rfl) (we_frz (wo_catL (we_frz (wo_lc tg_name (tgw_name (by decide)) (pe_lc (own := [("declared", 2)]) rfl scPrintSource.nd (wi_list (we_fld T.fk_names (we_var (pv 0)) rfl)) (blkOk_by (own := [("declared", 2)]) (N := NPrintSource) (sc := defScope sPrintSource) (by decide +kernel)) (fun _ _ _ _ _ => (pg_name (i := 2) scPrintSource.nd rfl (Or.inl rfl))) (fun _ _ _ _ _ => wts_nil) (fun _ _ _ _ _ => (wo_call (pe_callS (ok_ShownName T) (hr.mono (by decide)) (by rfl) T.dShownName.g T.dShownName.F.kp T.dShownName.b (fun σ => L2N.passAt takesNo σ) (wa_cons (we_var (pv 2)) wa_nil))))))) (we_frz (wo_call (pe_callS (ok_Li T 12).2 (hr.mono (by decide)) (by rfl) T.dLinesOfAll.g T.dLinesOfAll.F.kp T.dLinesOfAll.b (fun σ => L2N.passAt tk σ) (wa_cons (we_fld T.fk_body (we_var (pv 0)) rfl) wa_nil))))))))
(wss_one (ws_ret (we_join we_str (we_frz (wo_lc tg_name (tgw_name (by decide)) (pe_lc (own := [("line", 3)]) rfl scPrintSource.nd (wi_list (we_var (pv 1))) (blkOk_by (own := [("line", 3)]) (N := NPrintSource) (sc := defScope sPrintSource) (by decide +kernel)) (fun _ _ _ _ _ => (pg_name (i := 3) scPrintSource.nd rfl (Or.inl rfl))) (fun _ _ _ _ _ => wts_nil) (fun _ _ _ _ _ => (wo_lift (we_add (we_var (pv 3)) we_str)))))) rfl))))

theorem ok_AreRows (T : Tx K w mg) : FnOk P w K mg base (L2N.CX P w) 1 T.aAreRows T.fdAreRows PAreRows (spW K T.cs cAreRows) := by
  unfold cAreRows
  exact ok_W T.dAreRows.F scAreRows rfl fun cdv A outer s H E hr tk => by
    unfold weAreRows
    exact (wss_cons (ws_if (wt_val (we_isT (pe_callB (id := "isinstance") call_isi (by rfl) T.b_isinstance (by decide +kernel) (pa_cons (we_var (pv 0)) (pa_cons (pe_bltn (v := .ty "list") (by rfl) T.b_list (by decide +kernel) rfl) pa_nil))))) (wss_one (ws_ret (we_isT (pe_callB (id := "isinstance") call_isi (by rfl) T.b_isinstance (by decide +kernel) (pa_cons (we_var (pv 1)) (pa_cons (pe_bltn (v := .ty "list") (by rfl) T.b_list (by decide +kernel) rfl) pa_nil)))))) wss_nil)
(wss_one (ws_ret (we_andV (we_isT (pe_callB (id := "isinstance") call_isi (by rfl) T.b_isinstance (by decide +kernel) (pa_cons (we_var (pv 0)) (pa_cons (pe_bltn (v := .ty "tuple") (by rfl) T.b_tuple (by decide +kernel) rfl) pa_nil)))) (pe_one (we_isT (pe_callB (id := "isinstance") call_isi (by rfl) T.b_isinstance (by decide +kernel) (pa_cons (we_var (pv 1)) (pa_cons (pe_bltn (v := .ty "tuple") (by rfl) T.b_tuple (by decide +kernel) rfl) pa_nil)))))))))

theorem ok_SameTrees (T : Tx K w mg) : FnOk P w K mg base (L2N.CX P w) 2 T.aSameTrees T.fdSameTrees PSameTrees (spW K T.cs cSameTrees) := by
  unfold cSameTrees
  exact ok_W T.dSameTrees.F scSameTrees rfl fun cdv A outer s H E hr tk => by
    unfold weSameTrees
    exact (wss_cons (ws_new (ps_set (i := 2) scSameTrees.nd rfl (Or.inl rfl) (wo_lst (wa_cons (we_tup (wa_cons (we_var (pv 0)) (wa_cons (we_var (pv 1)) wa_nil))) wa_nil))))
(wss_cut (ws_while PassesOwn.leaving (wt_cmp op_gt s_gt (pe_imp (pe_callB call_len (by rfl) T.b_len PySem.boot_len (wa_cons (we_var (pv 2)) wa_nil)) (e_cb sa_len)) we_int (nomark _)) (wss_cons (ws_asgT (tg_tup (js := [3, 4]) rfl) (ps_asg (we_pop0 (pe_bm0 PySem.F.plainAttrs_list PySem.F.slot_list_pop PySem.F.type_list_pop mt_pop (we_var (pv 2)))) (pg_tup rfl (pgs_cons (pg_name (i := 3) scSameTrees.nd rfl (Or.inl rfl)) (pgs_cons (pg_name (i := 4) scSameTrees.nd rfl (Or.inl rfl)) pgs_nil)))))
(wss_one (ws_if (wt_val (we_frz (wo_call (pe_callS (ok_AreRows T) (hr.mono (by decide)) (by rfl) T.dAreRows.g T.dAreRows.F.kp T.dAreRows.b (fun σ => L2N.passAt tk σ) (wa_cons (we_var (pv 3)) (wa_cons (we_var (pv 4)) wa_nil)))))) (wss_cons (ws_if (wt_cmp (op_neA hr.units) s_ne (pe_imp (pe_callB call_len (by rfl) T.b_len PySem.boot_len (wa_cons (we_var (pv 3)) wa_nil)) (e_cb sa_len)) (pe_imp (pe_callB call_len (by rfl) T.b_len PySem.boot_len (wa_cons (we_var (pv 4)) wa_nil)) (e_cb sa_len)) (nomark _)) (wss_one (ws_ret we_bl)) wss_nil)
(wss_one (ws_ext (ps_expr (pe_bm PySem.F.plainAttrs_list PySem.F.slot_list_extend PySem.F.type_list_extend mt_extend (we_var (pv 2)) (pa_cons (we_frz (wo_zipL (pe_listZip rfl (by rfl) T.b_list (by rfl) T.b_zip (wa_cons (we_var (pv 3)) (wa_cons (we_var (pv 4)) wa_nil))))) pa_nil)))))) (wss_one (ws_if (wt_cmp (op_neA hr.units) s_ne (we_var (pv 3)) (we_var (pv 4)) (nomark _)) (wss_one (ws_ret we_bl)) wss_nil))))))
(wss_one (ws_ret we_bl))))

theorem ok_SourceInit (T : Tx K w mg) : FnOk P w K mg base (L2N.CX P w) 1 T.aSourceInit T.fdSourceInit PSourceInit (spW K T.cs cSourceInit) := by
  unfold cSourceInit
  exact ok_W T.mSourceInit.F scSourceInit rfl fun cdv A outer s H E hr tk => by
    unfold weSourceInit
    exact (wss_cons (ws_setF T.fk_names (we_var (pv 0)) (pe_imp (pe_callTy call_list_of (by rfl) T.b_list (by decide +kernel) (wa_cons (we_var (pv 1)) wa_nil)) o_listOf) rfl)
(wss_one (ws_setF T.fk_body (we_var (pv 0)) (pe_imp (pe_callTy call_list_of (by rfl) T.b_list (by decide +kernel) (wa_cons (we_var (pv 2)) wa_nil)) o_listOf) rfl)))

theorem ok_SourceEq (T : Tx K w mg) : FnOk P w K mg base (L2N.CX P w) 3 T.aSourceEq T.fdSourceEq PSourceEq (spW K T.cs cSourceEq) := by
  unfold cSourceEq
  exact ok_W T.mSourceEq.F scSourceEq rfl fun cdv A outer s H E hr tk => by
    unfold weSourceEq
    exact (wss_one (ws_ret (we_andV (we_isC T.isSource (pe_callB (id := "isinstance") call_isi (by rfl) T.b_isinstance (by decide +kernel) (pa_cons (we_var (pv 1)) (pa_cons (pe_glob (v := .ref T.cSource) (by rfl) T.gSource rfl) pa_nil)))) (pe_one (we_frz (wo_call (pe_callS (ok_SameTrees T) (hr.mono (by decide)) (by rfl) T.dSameTrees.g T.dSameTrees.F.kp T.dSameTrees.b (fun σ => L2N.passAt tk σ) (wa_cons (we_tup (wa_cons (we_fld T.fk_names (we_var (pv 0)) rfl) (wa_cons (we_fld T.fk_body (we_var (pv 0)) rfl) wa_nil))) (wa_cons (we_tup (wa_cons (we_fld T.fk_names (we_var (pv 1)) rfl) (wa_cons (we_fld T.fk_body (we_var (pv 1)) rfl) wa_nil))) wa_nil)))))))))

theorem ok_LawDraw (T : Tx K w mg) : FnOk P w K mg base (L2N.CX P w) 1 T.aLawDraw T.fdLawDraw PLawDraw (spW K T.cs cLawDraw) := by
  unfold cLawDraw
  exact ok_W T.dLawDraw.F scLawDraw rfl fun cdv A outer s H E hr tk => by
    unfold weLawDraw
    exact (wss_cut (ws_if (wt_cmp (op_eqA hr.units) s_eq (we_idx (we_var (pv 0)) we_int (fun _ _ => rfl)) we_int (nomark _)) (wss_cons (ws_asg (ps_set (i := 3) scLawDraw.nd rfl (Or.inl rfl) we_int))
(wss_cut (ws_if (wt_cmp op_gt s_gt (pe_imp (pe_callB call_len (by rfl) T.b_len PySem.boot_len (wa_cons (we_var (pv 1)) wa_nil)) (e_cb sa_len)) we_int (nomark _)) (wss_one (ws_asg (ps_set (i := 3) scLawDraw.nd rfl (Or.inl rfl) (we_idx (we_var (pv 1)) (we_mod (we_idx (we_var (pv 0)) we_int (fun _ _ => rfl)) (pe_imp (pe_callB call_len (by rfl) T.b_len PySem.boot_len (wa_cons (we_var (pv 1)) wa_nil)) (e_cb sa_len))) (fun _ _ => rfl))))) wss_nil)
(wss_cut (ws_if (wt_cmp op_lt s_lt (we_var (pv 3)) we_int (nomark _)) (wss_one (ws_asg (ps_set (i := 3) scLawDraw.nd rfl (Or.inl rfl) (we_sub we_int (we_mul we_int (we_var (pv 3))))))) wss_nil)
(wss_cons (ws_asg (ps_set (i := 4) scLawDraw.nd rfl (Or.inl rfl) (we_mod (pe_imp (pe_callTy call_int1 (by rfl) T.b_int (by decide +kernel) (wa_cons (we_mul (we_add (we_add (we_var (pv 3)) (we_mul (we_idx (we_var (pv 0)) we_int (fun _ _ => rfl)) we_int)) we_int) we_int) wa_nil)) (e_cb sa_int)) we_int)))
(wss_cons (ws_setI (ps_asg (we_mod (pe_imp (pe_callTy call_int1 (by rfl) T.b_int (by decide +kernel) (wa_cons (we_add (we_mul (we_var (pv 4)) we_int) (we_mul (we_idx (we_var (pv 0)) we_int (fun _ _ => rfl)) we_int)) wa_nil)) (e_cb sa_int)) we_int) (pg_sub (we_var (pv 0)) we_int set_list)))
(wss_cut (ws_if (ww_and (wt_cmp op_ge s_ge (we_var (pv 3)) (we_pow we_int we_int) (nomark _)) (pw_and1 (wt_cmp op_lt s_lt (we_idx (we_var (pv 0)) we_int (fun _ _ => rfl)) (pe_imp (pe_callB call_len (by rfl) T.b_len PySem.boot_len (wa_cons (we_var (pv 1)) wa_nil)) (e_cb sa_len)) (nomark _)))).pt (wss_one (ws_setI (ps_asg (we_var (pv 3)) (pg_sub (we_var (pv 0)) we_int set_list)))) wss_nil)
(wss_one (ws_setI (ps_asg (we_add (we_idx (we_var (pv 0)) we_int (fun _ _ => rfl)) we_int) (pg_sub (we_var (pv 0)) we_int set_list)))))))))) wss_nil)
(wss_cons (ws_asg (ps_set (i := 5) scLawDraw.nd rfl (Or.inl rfl) (we_mod (pe_imp (pe_callTy call_int1 (by rfl) T.b_int (by decide +kernel) (wa_cons (we_idx (we_var (pv 0)) we_int (fun _ _ => rfl)) wa_nil)) (e_cb sa_int)) (we_var (pv 2)))))
(wss_cons (ws_setI (ps_asg (we_fdiv (we_idx (we_var (pv 0)) we_int (fun _ _ => rfl)) (we_var (pv 2))) (pg_sub (we_var (pv 0)) we_int set_list)))
(wss_one (ws_ret (we_var (pv 5)))))))

theorem ok_LawNames (T : Tx K w mg) : FnOk P w K mg base (L2N.CX P w) 2 T.aLawNames T.fdLawNames PLawNames (spW K T.cs cLawNames) := by
  unfold cLawNames
  exact ok_W T.dLawNames.F scLawNames rfl fun cdv A outer s H E hr tk => by
    unfold weLawNames
    exact (wss_cons (ws_new (ps_set (i := 3) scLawNames.nd rfl (Or.inl rfl) (wo_lst wa_nil)))
(wss_cut (ws_for tg_name (ps_for PassesOwn.leaving rfl (wi_rng1 (pi_range1 (by rfl) T.b_range (wa_cons (we_frz (wo_call (pe_callS (ok_LawDraw T) (hr.mono (by decide)) (by rfl) T.dLawDraw.g T.dLawDraw.F.kp T.dLawDraw.b (fun σ => L2N.passAt tk σ) (wa_cons (we_var (pv 0)) (wa_cons (we_var (pv 1)) (wa_cons we_int wa_nil)))))) wa_nil))) (pg_name (i := 4) scLawNames.nd rfl (Or.inl rfl)) (wss_one (ws_app (ps_expr (pe_bm PySem.F.plainAttrs_list PySem.F.slot_list_append PySem.F.type_list_append mt_append (we_var (pv 3)) (pa_cons (wo_lift (we_tup (wa_cons we_str (wa_cons (we_add we_str (pe_imp (pe_callTy call_str_int (by rfl) T.b_str (by decide +kernel) (wa_cons (we_var (pv 4)) wa_nil)) (e_cb sa_str))) (wa_cons (we_idx (we_frz (wo_lst (wa_cons we_int (wa_cons we_int (wa_cons (we_frz (wo_call (pe_callS (ok_LawDraw T) (hr.mono (by decide)) (by rfl) T.dLawDraw.g T.dLawDraw.F.kp T.dLawDraw.b (fun σ => L2N.passAt tk σ) (wa_cons (we_var (pv 0)) (wa_cons (we_var (pv 1)) (wa_cons we_int wa_nil)))))) wa_nil))))) (we_frz (wo_call (pe_callS (ok_LawDraw T) (hr.mono (by decide)) (by rfl) T.dLawDraw.g T.dLawDraw.F.kp T.dLawDraw.b (fun σ => L2N.passAt tk σ) (wa_cons (we_var (pv 0)) (wa_cons (we_var (pv 1)) (wa_cons we_int wa_nil)))))) (fun _ _ => rfl)) wa_nil))))) pa_nil)))))))
(wss_cut (ws_for tg_name (ps_for PassesOwn.leaving rfl (wi_rng1 (pi_range1 (by rfl) T.b_range (wa_cons (we_frz (wo_call (pe_callS (ok_LawDraw T) (hr.mono (by decide)) (by rfl) T.dLawDraw.g T.dLawDraw.F.kp T.dLawDraw.b (fun σ => L2N.passAt tk σ) (wa_cons (we_var (pv 0)) (wa_cons (we_var (pv 1)) (wa_cons we_int wa_nil)))))) wa_nil))) (pg_name (i := 4) scLawNames.nd rfl (Or.inl rfl)) (wss_cons (ws_asg (ps_set (i := 5) scLawNames.nd rfl (Or.inl rfl) (we_shl we_int (we_frz (wo_call (pe_callS (ok_LawDraw T) (hr.mono (by decide)) (by rfl) T.dLawDraw.g T.dLawDraw.F.kp T.dLawDraw.b (fun σ => L2N.passAt tk σ) (wa_cons (we_var (pv 0)) (wa_cons (we_var (pv 1)) (wa_cons we_int wa_nil)))))))))
(wss_cons (ws_asg (ps_set (i := 6) scLawNames.nd rfl (Or.inl rfl) (pe_imp (pe_callTy call_tuple_of (by rfl) T.b_tuple (by decide +kernel) (wa_cons (we_frz (wo_lc tg_name (tgw_name (by decide)) (pe_lc (own := [("j", 7)]) rfl scLawNames.nd (wi_rng1 (pi_range1 (by rfl) T.b_range (wa_cons (we_frz (wo_call (pe_callS (ok_LawDraw T) (hr.mono (by decide)) (by rfl) T.dLawDraw.g T.dLawDraw.F.kp T.dLawDraw.b (fun σ => L2N.passAt tk σ) (wa_cons (we_var (pv 0)) (wa_cons (we_var (pv 1)) (wa_cons (we_add (we_var (pv 5)) we_int) wa_nil)))))) wa_nil))) (blkOk_by (own := [("j", 7)]) (N := NLawNames) (sc := defScope sLawNames) (by decide +kernel)) (fun _ _ _ _ _ => (pg_name (i := 7) scLawNames.nd rfl (Or.inl rfl))) (fun _ _ _ _ _ => wts_nil) (fun _ _ _ _ _ => (wo_call (pe_callS (ok_LawDraw T) (hr.mono (by decide)) (by rfl) T.dLawDraw.g T.dLawDraw.F.kp T.dLawDraw.b (fun σ => L2N.passAt takesNo σ) (wa_cons (we_var (pv 0)) (wa_cons (we_var (pv 1)) (wa_cons we_int wa_nil))))))))) wa_nil)) (e_tupOf))))
(wss_one (ws_app (ps_expr (pe_bm PySem.F.plainAttrs_list PySem.F.slot_list_append PySem.F.type_list_append mt_append (we_var (pv 3)) (pa_cons (wo_lift (we_tup (wa_cons we_str (wa_cons (we_add we_str (pe_imp (pe_callTy call_str_int (by rfl) T.b_str (by decide +kernel) (wa_cons (we_var (pv 4)) wa_nil)) (e_cb sa_str))) (wa_cons (we_var (pv 5)) (wa_cons (we_var (pv 6)) wa_nil)))))) pa_nil)))))))))
(wss_cut (ws_for tg_name (ps_for PassesOwn.leaving rfl (wi_rng1 (pi_range1 (by rfl) T.b_range (wa_cons (pe_imp (pe_callB (call_min2 rfl) (by rfl) T.b_min (by decide +kernel) (wa_cons (we_var (pv 2)) (wa_cons (we_frz (wo_call (pe_callS (ok_LawDraw T) (hr.mono (by decide)) (by rfl) T.dLawDraw.g T.dLawDraw.F.kp T.dLawDraw.b (fun σ => L2N.passAt tk σ) (wa_cons (we_var (pv 0)) (wa_cons (we_var (pv 1)) (wa_cons we_int wa_nil)))))) wa_nil))) (e_cb sa_min)) wa_nil))) (pg_name (i := 4) scLawNames.nd rfl (Or.inl rfl)) (wss_one (ws_app (ps_expr (pe_bm PySem.F.plainAttrs_list PySem.F.slot_list_append PySem.F.type_list_append mt_append (we_var (pv 3)) (pa_cons (wo_lift (we_tup (wa_cons we_str (wa_cons (we_add we_str (pe_imp (pe_callTy call_str_int (by rfl) T.b_str (by decide +kernel) (wa_cons (we_var (pv 4)) wa_nil)) (e_cb sa_str))) (wa_cons (we_add (we_sub we_int (we_mul we_int (we_var (pv 4)))) (we_mul we_int (we_frz (wo_call (pe_callS (ok_LawDraw T) (hr.mono (by decide)) (by rfl) T.dLawDraw.g T.dLawDraw.F.kp T.dLawDraw.b (fun σ => L2N.passAt tk σ) (wa_cons (we_var (pv 0)) (wa_cons (we_var (pv 1)) (wa_cons we_int wa_nil)))))))) (wa_cons (we_shl we_int (we_frz (wo_call (pe_callS (ok_LawDraw T) (hr.mono (by decide)) (by rfl) T.dLawDraw.g T.dLawDraw.F.kp T.dLawDraw.b (fun σ => L2N.passAt tk σ) (wa_cons (we_var (pv 0)) (wa_cons (we_var (pv 1)) (wa_cons we_int wa_nil))))))) wa_nil)))))) pa_nil)))))))
(wss_one (ws_ret (we_var (pv 3))))))))

theorem ok_LawOf (T : Tx K w mg) : FnOk P w K mg base (L2N.CX P w) 1 T.aLawOf T.fdLawOf PLawOf (spW K T.cs cLawOf) := by
  unfold cLawOf
  exact ok_W T.dLawOf.F scLawOf rfl fun cdv A outer s H E hr tk => by
    unfold weLawOf
    exact (wss_one (ws_retO (wo_lc tg_name (tgw_name (by decide)) (pe_lc (own := [("name", 2)]) rfl scLawOf.nd (wi_list (we_var (pv 0))) (blkOk_by (own := [("name", 2)]) (N := NLawOf) (sc := defScope sLawOf) (by decide +kernel)) (fun _ _ _ _ _ => (pg_name (i := 2) scLawOf.nd rfl (Or.inl rfl))) (fun _ _ _ _ _ => pts_one (wt_cmp op_in_seq s_in (we_idx (we_var (pv 2)) we_int (fun _ _ => rfl)) (we_var (pv 1)) rfl)) (fun _ _ _ _ _ => (wo_lift (we_idx (we_var (pv 2)) we_int (fun _ _ => rfl))))))))

theorem ok_LawPick (T : Tx K w mg) : FnOk P w K mg base (L2N.CX P w) 2 T.aLawPick T.fdLawPick PLawPick (spW K T.cs cLawPick) := by
  unfold cLawPick
  exact ok_W T.dLawPick.F scLawPick rfl fun cdv A outer s H E hr tk => by
    unfold weLawPick
    exact (wss_one (ws_ret (we_idx (we_var (pv 2)) (we_frz (wo_call (pe_callS (ok_LawDraw T) (hr.mono (by decide)) (by rfl) T.dLawDraw.g T.dLawDraw.F.kp T.dLawDraw.b (fun σ => L2N.passAt tk σ) (wa_cons (we_var (pv 0)) (wa_cons (we_var (pv 1)) (wa_cons (pe_imp (pe_callB call_len (by rfl) T.b_len PySem.boot_len (wa_cons (we_var (pv 2)) wa_nil)) (e_cb sa_len)) wa_nil)))))) (fun _ _ => rfl))))

theorem ok_Ex (T : Tx K w mg) : ∀ n : Nat, FnOk P w K mg base (L2N.CX P w) (3 + n) T.aLawExpression T.fdLawExpression PLawExpression (spW K T.cs (rcEx n 0)) := by
  intro n
  induction n with
  | zero =>
    refine ?_ <;> (rw [rcEx_z]; exact ok_never)
  | succ n ih =>
    have i0 := ih
    refine ?_
    · rw [rcEx_0]
      exact ok_W T.dLawExpression.F scLawExpression rfl fun cdv A outer s H E hr tk => by
        unfold weLawExpression
        exact (wss_cons (ws_asg (ps_set (i := 4) scLawExpression.nd rfl (Or.inl rfl) (we_frz (wo_call (pe_callS (ok_LawDraw T) (hr.mono (by show _ ≤ 3 + n; omega)) (by rfl) T.dLawDraw.g T.dLawDraw.F.kp T.dLawDraw.b (fun σ => L2N.passAt tk σ) (wa_cons (we_var (pv 0)) (wa_cons (we_var (pv 1)) (wa_cons we_int wa_nil))))))))
(wss_cons (ws_asg (ps_set (i := 5) scLawExpression.nd rfl (Or.inl rfl) (we_frz (wo_call (pe_callS (ok_LawOf T) (hr.mono (by show _ ≤ 3 + n; omega)) (by rfl) T.dLawOf.g T.dLawOf.F.kp T.dLawOf.b (fun σ => L2N.passAt tk σ) (wa_cons (we_var (pv 2)) (wa_cons (we_tup (wa_cons we_str (wa_cons we_str wa_nil))) wa_nil)))))))
(wss_cons (ws_if (ww_or (wt_cmp (op_eqA hr.units) s_eq (we_var (pv 3)) we_int (nomark _)) (pw_or1 (wt_cmp op_lt s_lt (we_var (pv 4)) we_int (nomark _)))).pt (wss_cons (ws_asg (ps_set (i := 6) scLawExpression.nd rfl (Or.inl rfl) (we_frz (wo_call (pe_callS (ok_LawOf T) (hr.mono (by show _ ≤ 3 + n; omega)) (by rfl) T.dLawOf.g T.dLawOf.F.kp T.dLawOf.b (fun σ => L2N.passAt tk σ) (wa_cons (we_var (pv 2)) (wa_cons (we_tup (wa_cons we_str wa_nil)) wa_nil)))))))
(wss_cons (ws_if (ww_andD (wt_cmp op_gt s_gt (pe_imp (pe_callB call_len (by rfl) T.b_len PySem.boot_len (wa_cons (we_var (pv 6)) wa_nil)) (e_cb sa_len)) we_int (nomark _)) (pw_and1 (wt_cmp (op_eqA hr.units) s_eq (we_frz (wo_call (pe_callS (ok_LawDraw T) (hr.mono (by show _ ≤ 3 + n; omega)) (by rfl) T.dLawDraw.g T.dLawDraw.F.kp T.dLawDraw.b (fun σ => L2N.passAt tk σ) (wa_cons (we_var (pv 0)) (wa_cons (we_var (pv 1)) (wa_cons we_int wa_nil)))))) we_int (nomark _)))).pt (wss_one (ws_ret (we_tup (wa_cons we_str (wa_cons (we_frz (wo_call (pe_callS (ok_LawPick T) (hr.mono (by show _ ≤ 3 + n; omega)) (by rfl) T.dLawPick.g T.dLawPick.F.kp T.dLawPick.b (fun σ => L2N.passAt tk σ) (wa_cons (we_var (pv 0)) (wa_cons (we_var (pv 1)) (wa_cons (we_var (pv 6)) wa_nil)))))) wa_nil))))) wss_nil)
(wss_one (ws_ret (we_tup (wa_cons we_str (wa_cons (we_idx (we_frz (wo_lst (wa_cons we_int (wa_cons we_int (wa_cons we_int (wa_cons (we_frz (wo_call (pe_callS (ok_LawDraw T) (hr.mono (by show _ ≤ 3 + n; omega)) (by rfl) T.dLawDraw.g T.dLawDraw.F.kp T.dLawDraw.b (fun σ => L2N.passAt tk σ) (wa_cons (we_var (pv 0)) (wa_cons (we_var (pv 1)) (wa_cons we_int wa_nil)))))) (wa_cons (we_frz (wo_call (pe_callS (ok_LawDraw T) (hr.mono (by show _ ≤ 3 + n; omega)) (by rfl) T.dLawDraw.g T.dLawDraw.F.kp T.dLawDraw.b (fun σ => L2N.passAt tk σ) (wa_cons (we_var (pv 0)) (wa_cons (we_var (pv 1)) (wa_cons we_int wa_nil)))))) wa_nil))))))) (we_frz (wo_call (pe_callS (ok_LawDraw T) (hr.mono (by show _ ≤ 3 + n; omega)) (by rfl) T.dLawDraw.g T.dLawDraw.F.kp T.dLawDraw.b (fun σ => L2N.passAt tk σ) (wa_cons (we_var (pv 0)) (wa_cons (we_var (pv 1)) (wa_cons we_int wa_nil)))))) (fun _ _ => rfl)) wa_nil))))))) wss_nil)
(wss_cons (ws_if (ww_and (wt_cmp (op_eqA hr.units) s_eq (we_var (pv 4)) we_int (nomark _)) (pw_and1 (wt_cmp op_gt s_gt (pe_imp (pe_callB call_len (by rfl) T.b_len PySem.boot_len (wa_cons (we_var (pv 5)) wa_nil)) (e_cb sa_len)) we_int (nomark _)))).pt (wss_one (ws_ret (we_tup (wa_cons we_str (wa_cons (we_frz (wo_call (pe_callS (ok_LawPick T) (hr.mono (by show _ ≤ 3 + n; omega)) (by rfl) T.dLawPick.g T.dLawPick.F.kp T.dLawPick.b (fun σ => L2N.passAt tk σ) (wa_cons (we_var (pv 0)) (wa_cons (we_var (pv 1)) (wa_cons (we_var (pv 5)) wa_nil)))))) (wa_cons (we_frz (wo_call (pe_callS i0 (hr.mono (by show _ ≤ 3 + n; omega)) (by rfl) T.dLawExpression.g T.dLawExpression.F.kp T.dLawExpression.b (fun σ => L2N.passAt tk σ) (wa_cons (we_var (pv 0)) (wa_cons (we_var (pv 1)) (wa_cons (we_var (pv 2)) (wa_cons (we_sub (we_var (pv 3)) we_int) wa_nil))))))) wa_nil)))))) wss_nil)
(wss_cons (ws_if (wt_cmp (op_eqA hr.units) s_eq (we_var (pv 4)) we_int (nomark _)) (wss_one (ws_ret (we_tup (wa_cons we_str (wa_cons (we_frz (wo_call (pe_callS i0 (hr.mono (by show _ ≤ 3 + n; omega)) (by rfl) T.dLawExpression.g T.dLawExpression.F.kp T.dLawExpression.b (fun σ => L2N.passAt tk σ) (wa_cons (we_var (pv 0)) (wa_cons (we_var (pv 1)) (wa_cons (we_var (pv 2)) (wa_cons (we_sub (we_var (pv 3)) we_int) wa_nil))))))) wa_nil))))) wss_nil)
(wss_cons (ws_if (wt_cmp (op_eqA hr.units) s_eq (we_var (pv 4)) we_int (nomark _)) (wss_cons (ws_asg (ps_set (i := 7) scLawExpression.nd rfl (Or.inl rfl) (we_frz (wo_call (pe_callS i0 (hr.mono (by show _ ≤ 3 + n; omega)) (by rfl) T.dLawExpression.g T.dLawExpression.F.kp T.dLawExpression.b (fun σ => L2N.passAt tk σ) (wa_cons (we_var (pv 0)) (wa_cons (we_var (pv 1)) (wa_cons (we_var (pv 2)) (wa_cons (we_sub (we_var (pv 3)) we_int) wa_nil)))))))))
(wss_one (ws_ret (we_tup (wa_cons we_str (wa_cons (we_idx (we_frz (wo_lst (wa_cons we_str (wa_cons we_str wa_nil)))) (we_frz (wo_call (pe_callS (ok_LawDraw T) (hr.mono (by show _ ≤ 3 + n; omega)) (by rfl) T.dLawDraw.g T.dLawDraw.F.kp T.dLawDraw.b (fun σ => L2N.passAt tk σ) (wa_cons (we_var (pv 0)) (wa_cons (we_var (pv 1)) (wa_cons we_int wa_nil)))))) (fun _ _ => rfl)) (wa_cons (we_var (pv 7)) (wa_cons (we_frz (wo_call (pe_callS (ok_LawDraw T) (hr.mono (by show _ ≤ 3 + n; omega)) (by rfl) T.dLawDraw.g T.dLawDraw.F.kp T.dLawDraw.b (fun σ => L2N.passAt tk σ) (wa_cons (we_var (pv 0)) (wa_cons (we_var (pv 1)) (wa_cons we_int wa_nil)))))) wa_nil)))))))) wss_nil)
(wss_cons (ws_asg (ps_set (i := 8) scLawExpression.nd rfl (Or.inl rfl) (we_frz (wo_call (pe_callS (ok_LawPick T) (hr.mono (by show _ ≤ 3 + n; omega)) (by rfl) T.dLawPick.g T.dLawPick.F.kp T.dLawPick.b (fun σ => L2N.passAt tk σ) (wa_cons (we_var (pv 0)) (wa_cons (we_var (pv 1)) (wa_cons (we_frz (wo_lst (wa_cons we_str (wa_cons we_str (wa_cons we_str (wa_cons we_str (wa_cons we_str (wa_cons we_str (wa_cons we_str (wa_cons we_str (wa_cons we_str wa_nil))))))))))) wa_nil))))))))
(wss_cons (ws_asg (ps_set (i := 7) scLawExpression.nd rfl (Or.inl rfl) (we_frz (wo_call (pe_callS i0 (hr.mono (by show _ ≤ 3 + n; omega)) (by rfl) T.dLawExpression.g T.dLawExpression.F.kp T.dLawExpression.b (fun σ => L2N.passAt tk σ) (wa_cons (we_var (pv 0)) (wa_cons (we_var (pv 1)) (wa_cons (we_var (pv 2)) (wa_cons (we_sub (we_var (pv 3)) we_int) wa_nil)))))))))
(wss_one (ws_ret (we_tup (wa_cons we_str (wa_cons (we_var (pv 8)) (wa_cons (we_var (pv 7)) (wa_cons (we_frz (wo_call (pe_callS i0 (hr.mono (by show _ ≤ 3 + n; omega)) (by rfl) T.dLawExpression.g T.dLawExpression.F.kp T.dLawExpression.b (fun σ => L2N.passAt tk σ) (wa_cons (we_var (pv 0)) (wa_cons (we_var (pv 1)) (wa_cons (we_var (pv 2)) (wa_cons (we_sub (we_var (pv 3)) we_int) wa_nil))))))) wa_nil)))))))))))))))

theorem ok_LawCall (T : Tx K w mg) : FnOk P w K mg base (L2N.CX P w) 8 T.aLawCall T.fdLawCall PLawCall (spW K T.cs cLawCall) := by
  unfold cLawCall
  exact ok_W T.dLawCall.F scLawCall rfl fun cdv A outer s H E hr tk => by
    unfold weLawCall
    exact (wss_cons (ws_asg (ps_set (i := 4) scLawCall.nd rfl (Or.inl rfl) (we_frz (wo_call (pe_callS (ok_LawOf T) (hr.mono (by decide)) (by rfl) T.dLawOf.g T.dLawOf.F.kp T.dLawOf.b (fun σ => L2N.passAt tk σ) (wa_cons (we_var (pv 2)) (wa_cons (we_tup (wa_cons we_str wa_nil)) wa_nil)))))))
(wss_cons (ws_asg (ps_set (i := 5) scLawCall.nd rfl (Or.inl rfl) (we_frz (wo_call (pe_callS (ok_LawDraw T) (hr.mono (by decide)) (by rfl) T.dLawDraw.g T.dLawDraw.F.kp T.dLawDraw.b (fun σ => L2N.passAt tk σ) (wa_cons (we_var (pv 0)) (wa_cons (we_var (pv 1)) (wa_cons we_int wa_nil))))))))
(wss_cons (ws_asg (ps_set (i := 6) scLawCall.nd rfl (Or.inl rfl) (we_idx (we_frz (wo_lst (wa_cons we_int (wa_cons we_int (wa_cons we_int (wa_cons we_int wa_nil)))))) (we_frz (wo_call (pe_callS (ok_LawDraw T) (hr.mono (by decide)) (by rfl) T.dLawDraw.g T.dLawDraw.F.kp T.dLawDraw.b (fun σ => L2N.passAt tk σ) (wa_cons (we_var (pv 0)) (wa_cons (we_var (pv 1)) (wa_cons we_int wa_nil)))))) (fun _ _ => rfl))))
(wss_cons (ws_if (ww_or (wt_cmp op_lt s_lt (we_var (pv 5)) we_int (nomark _)) (pw_or1 (wt_cmp (op_eqA hr.units) s_eq (pe_imp (pe_callB call_len (by rfl) T.b_len PySem.boot_len (wa_cons (we_var (pv 4)) wa_nil)) (e_cb sa_len)) we_int (nomark _)))).pt (wss_cons (ws_asg (ps_set (i := 7) scLawCall.nd rfl (Or.inl rfl) (we_idx (we_frz (wo_catL (we_var (pv 4)) (we_frz (wo_lst (wa_cons we_str wa_nil))))) (we_frz (wo_call (pe_callS (ok_LawDraw T) (hr.mono (by decide)) (by rfl) T.dLawDraw.g T.dLawDraw.F.kp T.dLawDraw.b (fun σ => L2N.passAt tk σ) (wa_cons (we_var (pv 0)) (wa_cons (we_var (pv 1)) (wa_cons (we_add (pe_imp (pe_callB call_len (by rfl) T.b_len PySem.boot_len (wa_cons (we_var (pv 4)) wa_nil)) (e_cb sa_len)) we_int) wa_nil)))))) (fun _ _ => rfl))))
(wss_one (ws_ret (we_tup (wa_cons we_str (wa_cons (we_var (pv 6)) (wa_cons (we_frz (wo_call (pe_callS (ok_Ex T 4) (hr.mono (by decide)) (by rfl) T.dLawExpression.g T.dLawExpression.F.kp T.dLawExpression.b (fun σ => L2N.passAt tk σ) (wa_cons (we_var (pv 0)) (wa_cons (we_var (pv 1)) (wa_cons (we_var (pv 2)) (wa_cons (we_var (pv 3)) wa_nil))))))) (wa_cons (we_var (pv 7)) wa_nil)))))))) wss_nil)
(wss_cons (ws_if (wt_cmp (op_eqA hr.units) s_eq (we_var (pv 5)) we_int (nomark _)) (wss_one (ws_ret (we_tup (wa_cons we_str (wa_cons (we_var (pv 6)) (wa_cons (we_frz (wo_call (pe_callS (ok_LawPick T) (hr.mono (by decide)) (by rfl) T.dLawPick.g T.dLawPick.F.kp T.dLawPick.b (fun σ => L2N.passAt tk σ) (wa_cons (we_var (pv 0)) (wa_cons (we_var (pv 1)) (wa_cons (we_var (pv 4)) wa_nil)))))) (wa_cons (we_frz (wo_call (pe_callS (ok_LawPick T) (hr.mono (by decide)) (by rfl) T.dLawPick.g T.dLawPick.F.kp T.dLawPick.b (fun σ => L2N.passAt tk σ) (wa_cons (we_var (pv 0)) (wa_cons (we_var (pv 1)) (wa_cons (we_var (pv 4)) wa_nil)))))) wa_nil))))))) wss_nil)
(wss_one (ws_ret (we_tup (wa_cons we_str (wa_cons (we_frz (wo_call (pe_callS (ok_LawPick T) (hr.mono (by decide)) (by rfl) T.dLawPick.g T.dLawPick.F.kp T.dLawPick.b (fun σ => L2N.passAt tk σ) (wa_cons (we_var (pv 0)) (wa_cons (we_var (pv 1)) (wa_cons (we_var (pv 4)) wa_nil)))))) wa_nil))))))))))

theorem ok_St (T : Tx K w mg) : ∀ n : Nat, FnOk P w K mg base (L2N.CX P w) (9 + n) T.aLawStatement T.fdLawStatement PLawStatement (spW K T.cs (rcSt n 0)) ∧
    FnOk P w K mg base (L2N.CX P w) (9 + n) T.aLawBody T.fdLawBody PLawBody (spW K T.cs (rcSt n 1)) := by
  intro n
  induction n with
  | zero =>
    refine ⟨?_, ?_⟩ <;> (rw [rcSt_z]; exact ok_never)
  | succ n ih =>
    obtain ⟨i0, i1⟩ := ih
    refine ⟨?_, ?_⟩
    · rw [rcSt_0]
      exact ok_W T.dLawStatement.F scLawStatement rfl fun cdv A outer s H E hr tk => by
        unfold weLawStatement
        exact (wss_cons (ws_asg (ps_set (i := 5) scLawStatement.nd rfl (Or.inl rfl) (we_frz (wo_call (pe_callS (ok_LawDraw T) (hr.mono (by show _ ≤ 9 + n; omega)) (by rfl) T.dLawDraw.g T.dLawDraw.F.kp T.dLawDraw.b (fun σ => L2N.passAt tk σ) (wa_cons (we_var (pv 0)) (wa_cons (we_var (pv 1)) (wa_cons we_int wa_nil))))))))
(wss_cons (ws_asg (ps_set (i := 6) scLawStatement.nd rfl (Or.inl rfl) (we_frz (wo_call (pe_callS (ok_LawOf T) (hr.mono (by show _ ≤ 9 + n; omega)) (by rfl) T.dLawOf.g T.dLawOf.F.kp T.dLawOf.b (fun σ => L2N.passAt tk σ) (wa_cons (we_var (pv 2)) (wa_cons (we_tup (wa_cons we_str wa_nil)) wa_nil)))))))
(wss_cons (ws_asg (ps_set (i := 7) scLawStatement.nd rfl (Or.inl rfl) (we_frz (wo_call (pe_callS (ok_LawOf T) (hr.mono (by show _ ≤ 9 + n; omega)) (by rfl) T.dLawOf.g T.dLawOf.F.kp T.dLawOf.b (fun σ => L2N.passAt tk σ) (wa_cons (we_var (pv 2)) (wa_cons (we_tup (wa_cons we_str (wa_cons we_str wa_nil))) wa_nil)))))))
(wss_cons (ws_if (ww_and (wt_cmp op_lt s_lt (we_var (pv 5)) we_int (nomark _)) (pw_and1 (wt_cmp op_gt s_gt (pe_imp (pe_callB call_len (by rfl) T.b_len PySem.boot_len (wa_cons (we_var (pv 6)) wa_nil)) (e_cb sa_len)) we_int (nomark _)))).pt (wss_one (ws_ret (we_tup (wa_cons we_str (wa_cons (we_frz (wo_call (pe_callS (ok_LawPick T) (hr.mono (by show _ ≤ 9 + n; omega)) (by rfl) T.dLawPick.g T.dLawPick.F.kp T.dLawPick.b (fun σ => L2N.passAt tk σ) (wa_cons (we_var (pv 0)) (wa_cons (we_var (pv 1)) (wa_cons (we_var (pv 6)) wa_nil)))))) (wa_cons (we_frz (wo_call (pe_callS (ok_Ex T 4) (hr.mono (by show _ ≤ 9 + n; omega)) (by rfl) T.dLawExpression.g T.dLawExpression.F.kp T.dLawExpression.b (fun σ => L2N.passAt tk σ) (wa_cons (we_var (pv 0)) (wa_cons (we_var (pv 1)) (wa_cons (we_var (pv 2)) (wa_cons we_int wa_nil))))))) wa_nil)))))) wss_nil)
(wss_cons (ws_if (ww_and (wt_cmp op_lt s_lt (we_var (pv 5)) we_int (nomark _)) (pw_and1 (wt_cmp op_gt s_gt (pe_imp (pe_callB call_len (by rfl) T.b_len PySem.boot_len (wa_cons (we_var (pv 7)) wa_nil)) (e_cb sa_len)) we_int (nomark _)))).pt (wss_cons (ws_asg (ps_set (i := 8) scLawStatement.nd rfl (Or.inl rfl) (we_frz (wo_call (pe_callS (ok_Ex T 4) (hr.mono (by show _ ≤ 9 + n; omega)) (by rfl) T.dLawExpression.g T.dLawExpression.F.kp T.dLawExpression.b (fun σ => L2N.passAt tk σ) (wa_cons (we_var (pv 0)) (wa_cons (we_var (pv 1)) (wa_cons (we_var (pv 2)) (wa_cons we_int wa_nil)))))))))
(wss_one (ws_ret (we_tup (wa_cons we_str (wa_cons (we_frz (wo_call (pe_callS (ok_LawPick T) (hr.mono (by show _ ≤ 9 + n; omega)) (by rfl) T.dLawPick.g T.dLawPick.F.kp T.dLawPick.b (fun σ => L2N.passAt tk σ) (wa_cons (we_var (pv 0)) (wa_cons (we_var (pv 1)) (wa_cons (we_var (pv 7)) wa_nil)))))) (wa_cons (we_var (pv 8)) (wa_cons (we_frz (wo_call (pe_callS (ok_Ex T 4) (hr.mono (by show _ ≤ 9 + n; omega)) (by rfl) T.dLawExpression.g T.dLawExpression.F.kp T.dLawExpression.b (fun σ => L2N.passAt tk σ) (wa_cons (we_var (pv 0)) (wa_cons (we_var (pv 1)) (wa_cons (we_var (pv 2)) (wa_cons we_int wa_nil))))))) wa_nil)))))))) wss_nil)
(wss_cons (ws_if (ww_and (wt_cmp op_lt s_lt (we_var (pv 5)) we_int (nomark _)) (pw_and1 (wt_cmp op_gt s_gt (we_var (pv 3)) we_int (nomark _)))).pt (wss_cons (ws_asg (ps_set (i := 9) scLawStatement.nd rfl (Or.inl rfl) (we_frz (wo_call (pe_callS (ok_Ex T 4) (hr.mono (by show _ ≤ 9 + n; omega)) (by rfl) T.dLawExpression.g T.dLawExpression.F.kp T.dLawExpression.b (fun σ => L2N.passAt tk σ) (wa_cons (we_var (pv 0)) (wa_cons (we_var (pv 1)) (wa_cons (we_var (pv 2)) (wa_cons we_int wa_nil)))))))))
(wss_cons (ws_asg (ps_set (i := 10) scLawStatement.nd rfl (Or.inl rfl) (we_frz (wo_call (pe_callS i1 (hr.mono (by show _ ≤ 9 + n; omega)) (by rfl) T.dLawBody.g T.dLawBody.F.kp T.dLawBody.b (fun σ => L2N.passAt tk σ) (wa_cons (we_var (pv 0)) (wa_cons (we_var (pv 1)) (wa_cons (we_var (pv 2)) (wa_cons (we_sub (we_var (pv 3)) we_int) (wa_cons (we_var (pv 4)) wa_nil))))))))))
(wss_cons (ws_if (ww_and (wt_cmp (op_eqA hr.units) s_eq (we_var (pv 5)) we_int (nomark _)) (pw_and1 (wt_val (we_var (pv 4))))).pt (wss_one (ws_ret (we_tup (wa_cons we_str (wa_cons (we_var (pv 9)) (wa_cons (we_var (pv 10)) wa_nil)))))) wss_nil)
(wss_one (ws_ret (we_tup (wa_cons we_str (wa_cons (we_var (pv 9)) (wa_cons (we_var (pv 10)) (wa_cons (we_idx (we_frz (wo_lst (wa_cons (we_frz (wo_call (pe_callS i1 (hr.mono (by show _ ≤ 9 + n; omega)) (by rfl) T.dLawBody.g T.dLawBody.F.kp T.dLawBody.b (fun σ => L2N.passAt tk σ) (wa_cons (we_var (pv 0)) (wa_cons (we_var (pv 1)) (wa_cons (we_var (pv 2)) (wa_cons (we_sub (we_var (pv 3)) we_int) (wa_cons (we_var (pv 4)) wa_nil)))))))) (wa_cons (we_frz (wo_lst wa_nil)) wa_nil)))) (we_frz (wo_call (pe_callS (ok_LawDraw T) (hr.mono (by show _ ≤ 9 + n; omega)) (by rfl) T.dLawDraw.g T.dLawDraw.F.kp T.dLawDraw.b (fun σ => L2N.passAt tk σ) (wa_cons (we_var (pv 0)) (wa_cons (we_var (pv 1)) (wa_cons we_int wa_nil)))))) (fun _ _ => rfl)) wa_nil)))))))))) wss_nil)
(wss_cons (ws_if (wt_cmp (op_eqA hr.units) s_eq (we_var (pv 5)) we_int (nomark _)) (wss_one (ws_ret (we_tup (wa_cons we_str wa_nil)))) wss_nil)
(wss_cons (ws_if (ww_andD (wt_cmp (op_eqA hr.units) s_eq (we_var (pv 5)) we_int (nomark _)) (pw_and1 (wt_cmp (op_eqA hr.units) s_eq (we_frz (wo_call (pe_callS (ok_LawDraw T) (hr.mono (by show _ ≤ 9 + n; omega)) (by rfl) T.dLawDraw.g T.dLawDraw.F.kp T.dLawDraw.b (fun σ => L2N.passAt tk σ) (wa_cons (we_var (pv 0)) (wa_cons (we_var (pv 1)) (wa_cons we_int wa_nil)))))) we_int (nomark _)))).pt (wss_one (ws_ret (we_tup (wa_cons we_str wa_nil)))) wss_nil)
(wss_one (ws_retO (wo_call (pe_callS (ok_LawCall T) (hr.mono (by show _ ≤ 9 + n; omega)) (by rfl) T.dLawCall.g T.dLawCall.F.kp T.dLawCall.b (fun σ => L2N.passAt tk σ) (wa_cons (we_var (pv 0)) (wa_cons (we_var (pv 1)) (wa_cons (we_var (pv 2)) (wa_cons we_int wa_nil))))))))))))))))
    · rw [rcSt_1]
      exact ok_W T.dLawBody.F scLawBody rfl fun cdv A outer s H E hr tk => by
        unfold weLawBody
        exact (wss_one (ws_retO (wo_lc tg_name (tgw_name (by decide)) (pe_lc (own := [("k", 5)]) rfl scLawBody.nd (wi_rng1 (pi_range1 (by rfl) T.b_range (wa_cons (we_frz (wo_call (pe_callS (ok_LawDraw T) (hr.mono (by show _ ≤ 9 + n; omega)) (by rfl) T.dLawDraw.g T.dLawDraw.F.kp T.dLawDraw.b (fun σ => L2N.passAt tk σ) (wa_cons (we_var (pv 0)) (wa_cons (we_var (pv 1)) (wa_cons we_int wa_nil)))))) wa_nil))) (blkOk_by (own := [("k", 5)]) (N := NLawBody) (sc := defScope sLawBody) (by decide +kernel)) (fun _ _ _ _ _ => (pg_name (i := 5) scLawBody.nd rfl (Or.inl rfl))) (fun _ _ _ _ _ => wts_nil) (fun _ _ _ _ _ => (wo_call (pe_callS i0 (hr.mono (by show _ ≤ 9 + n; omega)) (by rfl) T.dLawStatement.g T.dLawStatement.F.kp T.dLawStatement.b (fun σ => L2N.passAt takesNo σ) (wa_cons (we_var (pv 0)) (wa_cons (we_var (pv 1)) (wa_cons (we_var (pv 2)) (wa_cons (we_var (pv 3)) (wa_cons (we_var (pv 4)) wa_nil))))))))))))


theorem ok_Ls (T : Tx K w mg) : ∀ n : Nat, FnOk P w K mg base (L2N.CX P w) (1 + n) T.aLawShown T.fdLawShown PLawShown (spW K T.cs (rcLs n 0)) := by
  intro n
  induction n with
  | zero =>
    refine ?_ <;> (rw [rcLs_z]; exact ok_never)
  | succ n ih =>
    have i0 := ih
    refine ?_
    · rw [rcLs_0]
      exact ok_W T.dLawShown.F scLawShown rfl fun cdv A outer s H E hr tk => by
        unfold weLawShown
        exact (wss_cons (ws_asg (ps_set (i := 1) scLawShown.nd rfl (Or.inl rfl) (we_idx (we_var (pv 0)) we_int (fun _ _ => rfl))))
(wss_cons (ws_if (wt_cmp (op_eqA hr.units) s_eq (we_var (pv 1)) we_str (nomark _)) (wss_one (ws_ret (pe_imp (pe_callTy call_str_int (by rfl) T.b_str (by decide +kernel) (wa_cons (we_idx (we_var (pv 0)) we_int (fun _ _ => rfl)) wa_nil)) (e_cb sa_str)))) wss_nil)
(wss_cons (ws_if (wt_cmp (op_eqA hr.units) s_eq (we_var (pv 1)) we_str (nomark _)) (wss_one (ws_ret (we_idx (we_var (pv 0)) we_int (fun _ _ => rfl)))) wss_nil)
(wss_cons (ws_if (wt_cmp (op_eqA hr.units) s_eq (we_var (pv 1)) we_str (nomark _)) (wss_one (ws_ret (we_add (we_add (we_add (we_idx (we_var (pv 0)) we_int (fun _ _ => rfl)) we_str) (we_frz (wo_call (pe_callS i0 (hr.mono (by show _ ≤ 1 + n; omega)) (by rfl) T.dLawShown.g T.dLawShown.F.kp T.dLawShown.b (fun σ => L2N.passAt tk σ) (wa_cons (we_idx (we_var (pv 0)) we_int (fun _ _ => rfl)) wa_nil))))) we_str))) wss_nil)
(wss_cons (ws_if (wt_cmp (op_eqA hr.units) s_eq (we_var (pv 1)) we_str (nomark _)) (wss_one (ws_ret (we_add we_str (we_frz (wo_call (pe_callS i0 (hr.mono (by show _ ≤ 1 + n; omega)) (by rfl) T.dLawShown.g T.dLawShown.F.kp T.dLawShown.b (fun σ => L2N.passAt tk σ) (wa_cons (we_idx (we_var (pv 0)) we_int (fun _ _ => rfl)) wa_nil))))))) wss_nil)
(wss_cons (ws_if (wt_cmp (op_eqA hr.units) s_eq (we_var (pv 1)) we_str (nomark _)) (wss_one (ws_ret (we_add (we_add (we_add (we_add (we_add (we_add we_str (we_frz (wo_call (pe_callS i0 (hr.mono (by show _ ≤ 1 + n; omega)) (by rfl) T.dLawShown.g T.dLawShown.F.kp T.dLawShown.b (fun σ => L2N.passAt tk σ) (wa_cons (we_idx (we_var (pv 0)) we_int (fun _ _ => rfl)) wa_nil))))) we_str) (we_idx (we_var (pv 0)) we_int (fun _ _ => rfl))) we_str) (pe_imp (pe_callTy call_str_int (by rfl) T.b_str (by decide +kernel) (wa_cons (we_idx (we_var (pv 0)) we_int (fun _ _ => rfl)) wa_nil)) (e_cb sa_str))) we_str))) wss_nil)
(wss_one (ws_ret (we_add (we_add (we_add (we_add (we_add (we_add we_str (we_frz (wo_call (pe_callS i0 (hr.mono (by show _ ≤ 1 + n; omega)) (by rfl) T.dLawShown.g T.dLawShown.F.kp T.dLawShown.b (fun σ => L2N.passAt tk σ) (wa_cons (we_idx (we_var (pv 0)) we_int (fun _ _ => rfl)) wa_nil))))) we_str) (we_idx (we_var (pv 0)) we_int (fun _ _ => rfl))) we_str) (we_frz (wo_call (pe_callS i0 (hr.mono (by show _ ≤ 1 + n; omega)) (by rfl) T.dLawShown.g T.dLawShown.F.kp T.dLawShown.b (fun σ => L2N.passAt tk σ) (wa_cons (we_idx (we_var (pv 0)) we_int (fun _ _ => rfl)) wa_nil))))) we_str)))))))))

theorem ok_LawSimple (T : Tx K w mg) : FnOk P w K mg base (L2N.CX P w) 8 T.aLawSimple T.fdLawSimple PLawSimple (spW K T.cs cLawSimple) := by
  unfold cLawSimple
  exact ok_W T.dLawSimple.F scLawSimple rfl fun cdv A outer s H E hr tk => by
    unfold weLawSimple
    exact (wss_cons (ws_asg (ps_set (i := 1) scLawSimple.nd rfl (Or.inl rfl) (we_idx (we_var (pv 0)) we_int (fun _ _ => rfl))))
(wss_cons (ws_if (wt_cmp (op_eqA hr.units) s_eq (we_var (pv 1)) we_str (nomark _)) (wss_one (ws_ret (we_add (we_add (we_idx (we_var (pv 0)) we_int (fun _ _ => rfl)) we_str) (we_frz (wo_call (pe_callS (ok_Ls T 6) (hr.mono (by decide)) (by rfl) T.dLawShown.g T.dLawShown.F.kp T.dLawShown.b (fun σ => L2N.passAt tk σ) (wa_cons (we_idx (we_var (pv 0)) we_int (fun _ _ => rfl)) wa_nil))))))) wss_nil)
(wss_cons (ws_if (wt_cmp (op_eqA hr.units) s_eq (we_var (pv 1)) we_str (nomark _)) (wss_one (ws_ret (we_add (we_add (we_add (we_add (we_idx (we_var (pv 0)) we_int (fun _ _ => rfl)) we_str) (we_frz (wo_call (pe_callS (ok_Ls T 6) (hr.mono (by decide)) (by rfl) T.dLawShown.g T.dLawShown.F.kp T.dLawShown.b (fun σ => L2N.passAt tk σ) (wa_cons (we_idx (we_var (pv 0)) we_int (fun _ _ => rfl)) wa_nil))))) we_str) (we_frz (wo_call (pe_callS (ok_Ls T 6) (hr.mono (by decide)) (by rfl) T.dLawShown.g T.dLawShown.F.kp T.dLawShown.b (fun σ => L2N.passAt tk σ) (wa_cons (we_idx (we_var (pv 0)) we_int (fun _ _ => rfl)) wa_nil))))))) wss_nil)
(wss_cons (ws_if (wt_cmp (op_eqA hr.units) s_eq (we_var (pv 1)) we_str (nomark _)) (wss_one (ws_ret (we_add (we_add (we_add (we_add we_str (pe_imp (pe_callTy call_str_int (by rfl) T.b_str (by decide +kernel) (wa_cons (we_idx (we_var (pv 0)) we_int (fun _ _ => rfl)) wa_nil)) (e_cb sa_str))) we_str) (we_frz (wo_call (pe_callS (ok_Ls T 6) (hr.mono (by decide)) (by rfl) T.dLawShown.g T.dLawShown.F.kp T.dLawShown.b (fun σ => L2N.passAt tk σ) (wa_cons (we_idx (we_var (pv 0)) we_int (fun _ _ => rfl)) wa_nil))))) (we_idx (we_frz (wo_lst (wa_cons we_str (wa_cons (we_add we_str (we_idx (we_var (pv 0)) we_int (fun _ _ => rfl))) wa_nil)))) (pe_imp (pe_callTy call_int1 (by rfl) T.b_int (by decide +kernel) (wa_cons (we_cmp (op_neA hr.units) s_ne (we_idx (we_var (pv 0)) we_int (fun _ _ => rfl)) we_str (nomark _)) wa_nil)) (e_cb sa_int)) (fun _ _ => rfl))))) wss_nil)
(wss_cons (ws_if (wt_cmp (op_eqA hr.units) s_eq (we_var (pv 1)) we_str (nomark _)) (wss_one (ws_ret (we_add (we_add (we_add (we_add (we_add we_str (pe_imp (pe_callTy call_str_int (by rfl) T.b_str (by decide +kernel) (wa_cons (we_idx (we_var (pv 0)) we_int (fun _ _ => rfl)) wa_nil)) (e_cb sa_str))) we_str) (we_idx (we_var (pv 0)) we_int (fun _ _ => rfl))) we_str) (we_idx (we_var (pv 0)) we_int (fun _ _ => rfl))))) wss_nil)
(wss_cons (ws_if (wt_cmp (op_eqA hr.units) s_eq (we_var (pv 1)) we_str (nomark _)) (wss_one (ws_ret (we_add we_str (we_idx (we_var (pv 0)) we_int (fun _ _ => rfl))))) wss_nil)
(wss_one (ws_ret (we_var (pv 1))))))))))

theorem ok_Ll (T : Tx K w mg) : ∀ n : Nat, FnOk P w K mg base (L2N.CX P w) (9 + n) T.aLawLines T.fdLawLines PLawLines (spW K T.cs (rcLl n 0)) := by
  intro n
  induction n with
  | zero =>
    refine ?_ <;> (rw [rcLl_z]; exact ok_never)
  | succ n ih =>
    have i0 := ih
    refine ?_
    · rw [rcLl_0]
      exact ok_W T.dLawLines.F scLawLines rfl fun cdv A outer s H E hr tk => by
        unfold weLawLines
        exact (wss_cons (ws_new (ps_set (i := 2) scLawLines.nd rfl (Or.inl rfl) (wo_lst wa_nil)))
(wss_cut (ws_for tg_name (ps_for PassesOwn.leaving rfl (wi_list (we_var (pv 0))) (pg_name (i := 3) scLawLines.nd rfl (Or.inl rfl)) (wss_one (ws_if (wt_cmp op_in_seq s_in (we_idx (we_var (pv 3)) we_int (fun _ _ => rfl)) (we_tup (wa_cons we_str (wa_cons we_str wa_nil))) rfl) (wss_cons (ws_app (ps_expr (pe_bm PySem.F.plainAttrs_list PySem.F.slot_list_append PySem.F.type_list_append mt_append (we_var (pv 2)) (pa_cons (wo_lift (we_add (we_add (we_add (we_add (we_var (pv 1)) (we_idx (we_var (pv 3)) we_int (fun _ _ => rfl))) we_str) (we_frz (wo_call (pe_callS (ok_Ls T 6) (hr.mono (by show _ ≤ 9 + n; omega)) (by rfl) T.dLawShown.g T.dLawShown.F.kp T.dLawShown.b (fun σ => L2N.passAt tk σ) (wa_cons (we_idx (we_var (pv 3)) we_int (fun _ _ => rfl)) wa_nil))))) we_str)) pa_nil))))
(wss_cons (ws_new (ps_set (i := 2) scLawLines.nd rfl (Or.inl rfl) (wo_catL (we_var (pv 2)) (we_frz (wo_call (pe_callS i0 (hr.mono (by show _ ≤ 9 + n; omega)) (by rfl) T.dLawLines.g T.dLawLines.F.kp T.dLawLines.b (fun σ => L2N.passAt tk σ) (wa_cons (we_idx (we_var (pv 3)) we_int (fun _ _ => rfl)) (wa_cons (we_add (we_var (pv 1)) we_str) wa_nil))))))))
(wss_cut (ws_if (ww_and (wt_cmp (op_eqA hr.units) s_eq (we_idx (we_var (pv 3)) we_int (fun _ _ => rfl)) we_str (nomark _)) (pw_and1 (wt_cmp (op_neA hr.units) s_neV (we_idx (we_var (pv 3)) we_int (fun _ _ => rfl)) (we_frz (wo_lst wa_nil)) (nomark _)))).pt (wss_one (ws_new (ps_set (i := 2) scLawLines.nd rfl (Or.inl rfl) (wo_catL (we_frz (wo_catL (we_var (pv 2)) (we_frz (wo_lst (wa_cons (we_add (we_var (pv 1)) we_str) wa_nil))))) (we_frz (wo_call (pe_callS i0 (hr.mono (by show _ ≤ 9 + n; omega)) (by rfl) T.dLawLines.g T.dLawLines.F.kp T.dLawLines.b (fun σ => L2N.passAt tk σ) (wa_cons (we_idx (we_var (pv 3)) we_int (fun _ _ => rfl)) (wa_cons (we_add (we_var (pv 1)) we_str) wa_nil))))))))) wss_nil)
(wss_one (ws_app (ps_expr (pe_bm PySem.F.plainAttrs_list PySem.F.slot_list_append PySem.F.type_list_append mt_append (we_var (pv 2)) (pa_cons (wo_lift (we_add (we_var (pv 1)) we_str)) pa_nil)))))))) (wss_one (ws_app (ps_expr (pe_bm PySem.F.plainAttrs_list PySem.F.slot_list_append PySem.F.type_list_append mt_append (we_var (pv 2)) (pa_cons (wo_lift (we_add (we_var (pv 1)) (we_frz (wo_call (pe_callS (ok_LawSimple T) (hr.mono (by show _ ≤ 9 + n; omega)) (by rfl) T.dLawSimple.g T.dLawSimple.F.kp T.dLawSimple.b (fun σ => L2N.passAt tk σ) (wa_cons (we_var (pv 3)) wa_nil)))))) pa_nil)))))))))
(wss_one (ws_ret (we_var (pv 2))))))

theorem ok_LawDeclared (T : Tx K w mg) : FnOk P w K mg base (L2N.CX P w) 1 T.aLawDeclared T.fdLawDeclared PLawDeclared (spW K T.cs cLawDeclared) := by
  unfold cLawDeclared
  exact ok_W T.dLawDeclared.F scLawDeclared rfl fun cdv A outer s H E hr tk => by
    unfold weLawDeclared
    exact (wss_cons (ws_if (wt_cmp (op_eqA hr.units) s_eq (we_idx (we_var (pv 0)) we_int (fun _ _ => rfl)) we_str (nomark _)) (wss_one (ws_ret (we_add (we_add (we_add we_str (we_idx (we_var (pv 0)) we_int (fun _ _ => rfl))) we_str) (pe_imp (pe_callTy call_str_int (by rfl) T.b_str (by decide +kernel) (wa_cons (we_idx (we_var (pv 0)) we_int (fun _ _ => rfl)) wa_nil)) (e_cb sa_str))))) wss_nil)
(wss_cons (ws_if (wt_cmp (op_eqA hr.units) s_eq (we_idx (we_var (pv 0)) we_int (fun _ _ => rfl)) we_str (nomark _)) (wss_one (ws_ret (we_add (we_add (we_add (we_add (we_add we_str (we_idx (we_var (pv 0)) we_int (fun _ _ => rfl))) we_str) (pe_imp (pe_callTy call_str_int (by rfl) T.b_str (by decide +kernel) (wa_cons (we_idx (we_var (pv 0)) we_int (fun _ _ => rfl)) wa_nil)) (e_cb sa_str))) we_str) (pe_imp (pe_callTy call_str_int (by rfl) T.b_str (by decide +kernel) (wa_cons (we_idx (we_var (pv 0)) we_int (fun _ _ => rfl)) wa_nil)) (e_cb sa_str))))) wss_nil)
(wss_cons (ws_asg (ps_set (i := 1) scLawDeclared.nd rfl (Or.inl rfl) (we_join we_str (we_frz (wo_lc tg_name (tgw_name (by decide)) (pe_lc (own := [("word", 2)]) rfl scLawDeclared.nd (wi_tup (we_idx (we_var (pv 0)) we_int (fun _ _ => rfl))) (blkOk_by (own := [("word", 2)]) (N := NLawDeclared) (sc := defScope sLawDeclared) (by decide +kernel)) (fun _ _ _ _ _ => (pg_name (i := 2) scLawDeclared.nd rfl (Or.inl rfl))) (fun _ _ _ _ _ => wts_nil) (fun _ _ _ _ _ => (wo_lift (pe_imp (pe_callTy call_str_int (by rfl) T.b_str (by decide +kernel) (wa_cons (we_var (pv 2)) wa_nil)) (e_cb sa_str))))))) rfl)))
(wss_one (ws_ret (we_add (we_add (we_add (we_add we_str (we_idx (we_var (pv 0)) we_int (fun _ _ => rfl))) we_str) (pe_imp (pe_callTy call_str_int (by rfl) T.b_str (by decide +kernel) (wa_cons (we_idx (we_var (pv 0)) we_int (fun _ _ => rfl)) wa_nil)) (e_cb sa_str))) (we_idx (we_frz (wo_lst (wa_cons we_str (wa_cons (we_add we_str (we_var (pv 1))) wa_nil)))) (pe_imp (pe_callTy call_int1 (by rfl) T.b_int (by decide +kernel) (wa_cons (we_cmp op_gt s_gt (pe_imp (pe_callB call_len (by rfl) T.b_len PySem.boot_len (wa_cons (we_idx (we_var (pv 0)) we_int (fun _ _ => rfl)) wa_nil)) (e_cb sa_len)) we_int (nomark _)) wa_nil)) (e_cb sa_int)) (fun _ _ => rfl))))))))

theorem ok_law (T : Tx K w mg) : FnOk P w K mg base CX0 29 T.aLaw T.fdLaw PLaw (fun vs H Q _ => spW K T.cs cLaw vs H Q fun _ _ _ => False) := by
  unfold cLaw
  exact ok_W0 T.dLaw.F scLaw rfl fun cdv A outer s H E hr tk => by
    unfold weLaw
    exact (wss_cons (ws_new (ps_set (i := 1) scLaw.nd rfl (Or.inl rfl) (wo_lst (wa_cons we_int (wa_cons we_int wa_nil)))))
(wss_cons (ws_asg (ps_set (i := 2) scLaw.nd rfl (Or.inl rfl) (we_frz (wo_call (pe_callS (ok_LawNames T) (hr.mono (by decide)) (by rfl) T.dLawNames.g T.dLawNames.F.kp T.dLawNames.b (fun σ => L2N.passAt takesNo σ) (wa_cons (we_var (pv 1)) (wa_cons (we_var (pv 0)) (wa_cons we_int wa_nil))))))))
(wss_cons (ws_asg (ps_set (i := 3) scLaw.nd rfl (Or.inl rfl) (we_frz (wo_call (pe_callS (ok_St T 10).2 (hr.mono (by decide)) (by rfl) T.dLawBody.g T.dLawBody.F.kp T.dLawBody.b (fun σ => L2N.passAt takesNo σ) (wa_cons (we_var (pv 1)) (wa_cons (we_var (pv 0)) (wa_cons (we_var (pv 2)) (wa_cons we_int (wa_cons we_bl wa_nil))))))))))
(wss_cons (ws_asg (ps_set (i := 4) scLaw.nd rfl (Or.inl rfl) (we_frz (wo_make (pe_make T.mkSource (ok_SourceInit T) (hr.mono (by decide)) (by rfl) T.gSource T.mSourceInit.b .nil noPassW (wa_cons (we_var (pv 2)) (wa_cons (we_var (pv 3)) wa_nil)))))))
(wss_cons (ws_asg (ps_set (i := 5) scLaw.nd rfl (Or.inl rfl) (we_frz (wo_catL (we_frz (wo_lc tg_name (tgw_name (by decide)) (pe_lc (own := [("name", 6)]) rfl scLaw.nd (wi_list (we_var (pv 2))) (blkOk_by (own := [("name", 6)]) (N := NLaw) (sc := defScope sLaw) (by decide +kernel)) (fun _ _ _ _ _ => (pg_name (i := 6) scLaw.nd rfl (Or.inl rfl))) (fun _ _ _ _ _ => wts_nil) (fun _ _ _ _ _ => (wo_call (pe_callS (ok_LawDeclared T) (hr.mono (by decide)) (by rfl) T.dLawDeclared.g T.dLawDeclared.F.kp T.dLawDeclared.b (fun σ => L2N.passAt takesNo σ) (wa_cons (we_var (pv 6)) wa_nil))))))) (we_frz (wo_call (pe_callS (ok_Ll T 6) (hr.mono (by decide)) (by rfl) T.dLawLines.g T.dLawLines.F.kp T.dLawLines.b (fun σ => L2N.passAt takesNo σ) (wa_cons (we_var (pv 3)) (wa_cons we_str wa_nil)))))))))
(wss_one (ws_ret (we_andV (we_cmp (op_eqA hr.units) s_eq (we_frz (wo_call (pe_callS (ok_PrintSource T) (hr.mono (by decide)) (by rfl) T.dPrintSource.g T.dPrintSource.F.kp T.dPrintSource.b (fun σ => L2N.passAt takesNo σ) (wa_cons (we_var (pv 4)) wa_nil)))) (we_join we_str (we_frz (wo_lc tg_name (tgw_name (by decide)) (pe_lc (own := [("line", 7)]) rfl scLaw.nd (wi_list (we_var (pv 5))) (blkOk_by (own := [("line", 7)]) (N := NLaw) (sc := defScope sLaw) (by decide +kernel)) (fun _ _ _ _ _ => (pg_name (i := 7) scLaw.nd rfl (Or.inl rfl))) (fun _ _ _ _ _ => wts_nil) (fun _ _ _ _ _ => (wo_lift (we_add (we_var (pv 7)) we_str)))))) rfl) (nomark _)) (pe_one (we_own (c := 0) (op_ownEq (ok_SourceEq T) (hr.mono (by decide)) T.eqSource T.mSourceEq.b noPassW) (we_var (pv 4)) (we_frz (wo_make (pe_make T.mkSource (ok_SourceInit T) (hr.mono (by decide)) (by rfl) T.gSource T.mSourceInit.b .nil noPassW (wa_cons (we_var (pv 2)) (wa_cons (we_var (pv 3)) wa_nil))))) (nomark _)))))))))))
end
end K41
end

section
set_option linter.all false
set_option maxRecDepth 100000
set_option maxHeartbeats 1000000
set_option pp.deepTerms false
namespace K41
open PySem L2 Evl Wv
def W (x : Int) : Prop := 0 ≤ x ∧ x < 65536
def Ws (l : List Int) : Prop := ∀ x ∈ l, W x
def dints (l : List Int) : List D := l.map D.int
/-- the draws' state -/
abbrev dst2 (i j : Int) : T := .lst [.dat (.int i), .dat (.int j)]
theorem dints_at {cs : List Int} {n : Int} (h : 0 < (cs.length : Int)) : ∃ c, atI (dints cs) (n % ((dints cs).length : Int)) = some (D.int c) := by
  unfold atI dints
  rw [List.length_map]
  have h0 : 0 ≤ n % (cs.length : Int) := Int.emod_nonneg _ (by omega)
  have h1 : n % (cs.length : Int) < cs.length := Int.emod_lt_of_pos _ (by omega)
  have e : ixN cs.length (n % (cs.length : Int)) = some (n % (cs.length : Int)).toNat := by
    unfold ixN
    rw [if_pos h0, if_pos h1]
  rw [e]
  have hl : (n % (cs.length : Int)).toNat < cs.length := by omega
  exact ⟨cs[(n % (cs.length : Int)).toNat], by simp [List.getElem?_eq_getElem hl]⟩
theorem spec_draw (i j : Int) (cs : List Int) (n : Int) (hn : 0 < n) (hb : n < 1000000) (k : T → Roots → Prop) (kx : Exn → Roots → Prop) (hk : ∀ d i' j', 0 ≤ d → d < n → k (.dat (.int d)) [dst2 i' j']) : cLawDraw [.ref 0 [], .dat (.ro (dints cs)), .dat (.int n)] [dst2 i j] k kx := by
  unfold cLawDraw cwOf
  refine ⟨rfl, ?_⟩
  unfold weLawDraw
  refine ⟨fun sl rt => ∃ i j x y, sl = [some (.ref 0 []), some (.dat (.ro (dints cs))), some (.dat (.int n)), x, y, none] ∧ rt = [dst2 i j], ?_, ?_⟩
  · refine ⟨1, .dat (.int j), rfl, rfl, ?_⟩
    refine ⟨fun hj => ?_, fun hj => ⟨i, j, none, none, rfl, rfl⟩⟩
    refine ⟨fun sl rt => ∃ c : Int, sl = [some (.ref 0 []), some (.dat (.ro (dints cs))), some (.dat (.int n)), some (.dat (.int c)), none, none] ∧ rt = [dst2 i j], ?_, ?_⟩
    · refine ⟨fun h => ?_, fun h => ⟨0, rfl, rfl⟩⟩
      have h : 0 < (cs.length : Int) := by
        have : (0 : Int) < ((dints cs).length : Int) := of_decide_eq_true h
        simpa [dints] using this
      refine ⟨0, .dat (.int i), rfl, rfl, ?_⟩
      have h2 : (0 : Int) < ((dints cs).length : Int) := by simpa [dints] using h
      obtain ⟨c, hc⟩ := dints_at (n := i) h
      exact ⟨h2, .int c, hc, c, rfl, rfl⟩
    · rintro _ _ ⟨c, rfl, rfl⟩
      refine ⟨fun sl rt => ∃ c : Int, sl = [some (.ref 0 []), some (.dat (.ro (dints cs))), some (.dat (.int n)), some (.dat (.int c)), none, none] ∧ rt = [dst2 i j], ?_, ?_⟩
      · refine ⟨fun h => ?_, fun h => ⟨c, rfl, rfl⟩⟩
        exact ⟨Or.inl (by decide), 1 - 2 * c, rfl, rfl⟩
      · rintro _ _ ⟨c, rfl, rfl⟩
        refine ⟨0, .dat (.int i), rfl, rfl, Or.inr (by decide), Or.inr (by decide), (by show (0 : Int) < 2147483647; decide), Or.inr (by decide), ?_⟩
        refine ⟨0, .dat (.int i), rfl, rfl, Or.inr (by decide), (by show (0 : Int) < 4294967291; decide), 1, .dat (.int j), rfl, rfl, rfl, ?_⟩
        refine ⟨fun sl rt => ∃ i j x y, sl = [some (.ref 0 []), some (.dat (.ro (dints cs))), some (.dat (.int n)), x, y, none] ∧ rt = [dst2 i j], ?_, ?_⟩
        · refine ⟨⟨by decide, by decide, by decide⟩, decide (i < ((dints cs).length : Int)), fun _ => ⟨0, .dat (.int i), rfl, rfl, rfl, rfl⟩, fun h => ?_, fun h => ?_⟩
          · exact ⟨1, _, rfl, rfl, rfl, i, c, _, _, rfl, rfl⟩
          · exact ⟨i, _, _, _, rfl, rfl⟩
        · rintro _ _ ⟨i, j, x, y, rfl, rfl⟩
          exact ⟨0, .dat (.int i), rfl, rfl, 0, .dat (.int i), rfl, rfl, rfl, i + 1, j, x, y, rfl, rfl⟩
  · rintro _ _ ⟨i, j, x, y, rfl, rfl⟩
    refine ⟨1, .dat (.int j), rfl, rfl, hn, 1, .dat (.int j), rfl, rfl, ⟨hn, by omega⟩, 1, .dat (.int j), rfl, rfl, rfl, ?_⟩
    exact hk _ _ _ (Int.emod_nonneg _ (by omega)) (Int.emod_lt_of_pos _ hn)
/-! helpers -/
theorem atI_mem {α : Type} {xs : List α} {d : Int} (h0 : 0 ≤ d) (h1 : d < xs.length) : ∃ x ∈ xs, atI xs d = some x := by
  unfold atI ixN
  rw [if_pos h0, if_pos h1]
  have hl : d.toNat < xs.length := by omega
  exact ⟨xs[d.toNat], List.getElem_mem hl, by simp [List.getElem?_eq_getElem hl]⟩
theorem toDs_dat : ∀ (ds : List D), T.toDs (ds.map .dat) = ds
  | [] => rfl
  | d :: ds => by
    show d :: T.toDs (ds.map .dat) = _
    rw [toDs_dat ds]
theorem toD_dats (ds : List D) : (T.lst (ds.map .dat)).toD = .lst ds := by
  show D.lst (T.toDs _) = _
  rw [toDs_dat]
theorem small0 {d n : Int} (h0 : 0 ≤ d) (h1 : d < n) (hn : n < 1000000 := by decide) : d.natAbs < 2 ^ 64 := by
  have : (2:Nat) ^ 64 = 18446744073709551616 := by decide
  rw [this]
  omega
theorem sl_eq : sizeLine = 16777216 := by decide +kernel
theorem tx_int {i : Int} (h0 : 0 ≤ i) (h1 : i < 100000) : (Str.ofString (toString i)).length ≤ 6 := by
  rw [ofString_length]
  exact int_text_length_le10 (k := 5) (by decide) (by show i.natAbs < 100000; omega)
theorem lg_int {i : Int} (h0 : 0 ≤ i) (h1 : i < 100000) : i.natAbs.log2 < 1920 := by
  by_cases z : i.natAbs = 0
  · rw [z]; decide
  · have e : (2:Nat) ^ 20 = 1048576 := by decide
    exact Nat.lt_trans ((Nat.log2_lt z).mpr (show i.natAbs < 2 ^ 20 by rw [e]; omega)) (by decide)
/-! ### declarations -/
inductive Nm where
  | var (s : Str) (i : Int) | tab (s : Str) (n : Int) (ws : List Int) | page (s : Str) (a n : Int)
def Nm.d : Nm → D
  | .var s i => .tup [.str "var", .str s, .int i]
  | .tab s n ws => .tup [.str "table", .str s, .int n, .tup (dints ws)]
  | .page s a n => .tup [.str "page", .str s, .int a, .int n]
def Nm.s : Nm → Str
  | .var s _ => s
  | .tab s _ _ => s
  | .page s _ _ => s
def Nm.k : Nm → Str
  | .var _ _ => "var"
  | .tab _ _ _ => "table"
  | .page _ _ _ => "page"
/-- a short text of characters -/
def Nx (s : Str) : Prop := s.length ≤ 20 ∧ PyData.strOk s = true
def W5 (i : Int) : Prop := 0 ≤ i ∧ i < 100000
def Nm.ok : Nm → Prop
  | .var s i => Nx s ∧ W5 i
  | .tab s n ws => Nx s ∧ W5 n ∧ ws.length ≤ 8 ∧ ∀ x ∈ ws, W5 x
  | .page s a n => Nx s ∧ W5 a ∧ W5 n
theorem Nm.ok_s {n : Nm} (h : n.ok) : Nx n.s := by
  cases n <;> exact h.1
abbrev nmT (ns : List Nm) : T := .lst (ns.map fun n => .dat n.d)
theorem strOk_app {x y : Str} (hx : PyData.strOk x = true) (hy : PyData.strOk y = true) : PyData.strOk (x ++ y) = true := by
  unfold PyData.strOk at *
  show (x.cps ++ y.cps).all _ = true
  rw [Array.all_append, hx, hy]
  rfl
theorem strOk_of (s : String) : PyData.strOk (Str.ofString s) = true := by
  rw [Str.ofString_eq_toList]
  unfold PyData.strOk
  rw [Array.all_eq_true']
  intro x hx
  obtain ⟨c, _, rfl⟩ := List.mem_map.mp (List.mem_toArray.mp hx)
  refine decide_eq_true ?_
  have := c.valid
  unfold UInt32.isValidChar Nat.isValidChar at this
  show c.val.toNat < _
  omega
theorem vok {i : Int} (h0 : 0 ≤ i) (h1 : i < 100000) (s : String) (hz : (Str.ofString s).length = 1) : Nx (Str.ofString s ++ Str.ofString (toString i)) := by
  refine ⟨?_, strOk_app (strOk_of _) (strOk_of _)⟩
  rw [strLen_append, hz]
  have := tx_int h0 h1
  omega
theorem vlen {i : Int} (h0 : 0 ≤ i) (h1 : i < 100000) (z : Str) (hz : z.length = 1) : (z ++ Str.ofString (toString i)).length ≤ 20 := by
  rw [strLen_append, hz]
  have := tx_int h0 h1
  omega
theorem rng_mem {n i : Nat} {d : D} (h : ((List.range n).map fun i => D.int (i : Nat))[i]? = some d) : d = .int (i : Nat) ∧ i < n := by
  rw [List.getElem?_map] at h
  by_cases hi : i < n
  · rw [List.getElem?_range hi] at h
    cases h
    exact ⟨rfl, hi⟩
  · rw [List.getElem?_eq_none (by simp; omega)] at h
    cases h
theorem nmT_app (ns : List Nm) (n : Nm) : (ns.map fun n => T.dat n.d) ++ [T.dat n.d] = (ns ++ [n]).map fun n => T.dat n.d := by simp
def OkN (ns : List Nm) (m : Nat) : Prop := ns.length ≤ m ∧ ∀ n ∈ ns, n.ok
theorem OkN.app {ns : List Nm} {m : Nat} (h : OkN ns m) {n : Nm} (hn : n.ok) : OkN (ns ++ [n]) (m + 1) := by
  refine ⟨by simp only [List.length_append, List.length_singleton]; have := h.1; omega, fun x hx => ?_⟩
  rcases List.mem_append.mp hx with h2 | h2
  · exact h.2 x h2
  · cases List.mem_singleton.mp h2; exact hn
theorem shl4 {c : Int} (c0 : 0 ≤ c) (c1 : c < 4) : CPow 1 c ∧ (1 : Int) * 2 ^ c.toNat ≤ 8 ∧ 1 ≤ (1 : Int) * 2 ^ c.toNat := by
  have : c = 0 ∨ c = 1 ∨ c = 2 ∨ c = 3 := by omega
  rcases this with rfl | rfl | rfl | rfl <;> exact ⟨⟨by decide, by decide, by decide⟩, by decide, by decide⟩

abbrev sN (cs : List Int) (pages : Int) (a b c d : Option Val) : Slots := [some (.ref 0 []), some (.dat (.ro (dints cs))), some (.dat (.int pages)), some (.ref 1 []), a, b, c, d]
theorem spec_names (i j : Int) (cs : List Int) (k : T → Roots → Prop) (kx : Exn → Roots → Prop) (hk : ∀ (ns : List Nm) i' j', OkN ns 9 → k (nmT ns) [dst2 i' j']) : cLawNames [.ref 0 [], .dat (.ro (dints cs)), .dat (.int 2)] [dst2 i j] k kx := by
  unfold cLawNames cwOf
  refine ⟨rfl, ?_⟩
  unfold weLawNames
  refine ⟨by show 0 ≤ 1000; decide, fun sl rt => ∃ i j ns a, sl = sN cs 2 a none none none ∧ rt = [dst2 i j, nmT ns] ∧ OkN ns 4, ?_, ?_⟩
  · refine ⟨rfl, spec_draw _ _ cs 5 (by decide) (by decide) _ _ fun n i j n0 n1 => ⟨by omega, by omega, ?_⟩⟩
    refine ⟨fun m sl rt => ∃ i j ns a, sl = sN cs 2 a none none none ∧ rt = [dst2 i j, nmT ns] ∧ OkN ns m, ⟨i, j, [], none, rfl, rfl, Nat.le_refl _, fun _ z => (nomatch z)⟩, ?_, ?_⟩
    · rintro m d _ _ hd ⟨i, j, ns, a, rfl, rfl, hn⟩
      obtain ⟨rfl, hm⟩ := rng_mem hd
      have hm0 : (0 : Int) ≤ (m : Nat) := by omega
      have hm5 : ((m : Nat) : Int) < 100000 := by omega
      refine ⟨lg_int hm0 hm5, ⟨by have := vlen hm0 hm5 "v" rfl; rw [strLen_append] at this; have := sl_eq; show _ ≤ sizeLine; omega, ?_⟩⟩
      refine ⟨rfl, spec_draw _ _ cs 9 (by decide) (by decide) _ _ fun x i j x0 x1 => ⟨by show 3 ≤ 1000; decide, ⟨rfl, spec_draw _ _ cs 3 (by decide) (by decide) _ _ fun y i j y0 y1 => ?_⟩⟩⟩
      obtain ⟨v, hv, e⟩ := atI_mem (xs := [D.int 0, .int 65535, .int x]) y0 y1
      have : ∃ z : Int, v = .int z ∧ W5 z := by
        simp only [List.mem_cons, List.not_mem_nil, or_false] at hv
        rcases hv with z | z | z
        · exact ⟨_, z, by decide, by decide⟩
        · exact ⟨_, z, by decide, by decide⟩
        · exact ⟨_, z, x0, by omega⟩
      obtain ⟨z, rfl, hz⟩ := this
      refine ⟨_, e, by show 3 ≤ 1000; decide, by simp only [List.length_map]; have := hn.1; omega, Or.inl ⟨i, j, ns ++ [.var ("v" ++ Str.ofString (toString ((m : Nat) : Int))) z], _, rfl, ?_, hn.app (n := .var _ z) ⟨vok hm0 hm5 _ rfl, hz⟩⟩⟩
      show [dst2 i j, T.lst (_ ++ _)] = _
      rw [nmT, ← nmT_app]
      rfl
    · rintro _ _ ⟨i, j, ns, a, rfl, rfl, hn⟩
      refine ⟨i, j, ns, a, rfl, rfl, ?_, hn.2⟩
      have := hn.1
      simp only [List.length_map, List.length_range] at this
      omega
  · rintro _ _ ⟨i, j, ns, a, rfl, rfl, hn⟩
    refine ⟨fun sl rt => ∃ i j ns a b c, sl = sN cs 2 a b c none ∧ rt = [dst2 i j, nmT ns] ∧ OkN ns 6, ?_, ?_⟩
    · refine ⟨rfl, spec_draw _ _ cs 3 (by decide) (by decide) _ _ fun n i j n0 n1 => ⟨by omega, by omega, ?_⟩⟩
      refine ⟨fun m sl rt => ∃ i j ns a b c, sl = sN cs 2 a b c none ∧ rt = [dst2 i j, nmT ns] ∧ OkN ns (4 + m), ⟨i, j, ns, a, none, none, rfl, rfl, hn⟩, ?_, ?_⟩
      · rintro m d _ _ hd ⟨i, j, ns, a, b, c, rfl, rfl, hn⟩
        obtain ⟨rfl, hm⟩ := rng_mem hd
        have hm0 : (0 : Int) ≤ (m : Nat) := by omega
        have hm5 : ((m : Nat) : Int) < 100000 := by omega
        refine ⟨rfl, spec_draw _ _ cs 4 (by decide) (by decide) _ _ fun x i j x0 x1 => ?_⟩
        obtain ⟨s1, s2, s3⟩ := shl4 x0 x1
        refine ⟨s1, ?_⟩
        refine ⟨rfl, spec_draw _ _ cs (1 * 2 ^ x.toNat + 1) (by omega) (by omega) _ _ fun y i j y0 y1 => ⟨by omega, by omega, ?_⟩⟩
        refine ⟨fun m acc rt => ∃ i j ws, acc = (dints ws).map .dat ∧ rt = [dst2 i j, nmT ns] ∧ ws.length ≤ m ∧ ∀ x ∈ ws, W5 x, ⟨i, j, [], rfl, rfl, Nat.le_refl _, fun _ z => (nomatch z)⟩, ?_, ?_⟩
        · rintro q d _ _ hd ⟨i, j, ws, rfl, rfl, hl, hw⟩
          obtain ⟨rfl, hq⟩ := rng_mem hd
          refine ⟨by simp only [dints, List.length_map]; omega, fun _ => ⟨rfl, spec_draw _ _ cs 300 (by decide) (by decide) _ _ fun z i j z0 z1 => ⟨i, j, ws ++ [z], by simp [dints], rfl, by simp; omega, fun x hx => ?_⟩⟩, fun h => (nomatch h)⟩
          rcases List.mem_append.mp hx with h2 | h2
          · exact hw x h2
          · cases List.mem_singleton.mp h2
            exact ⟨z0, by omega⟩
        · rintro _ _ ⟨i, j, ws, rfl, rfl, hl, hw⟩
          simp only [List.length_map, List.length_range] at hl
          refine ⟨dints ws, by rw [toD_dats]; rfl, lg_int hm0 hm5, ⟨by have := vlen hm0 hm5 "t" rfl; rw [strLen_append] at this; have := sl_eq; show _ ≤ sizeLine; omega, ?_⟩⟩
          refine ⟨by show 4 ≤ 1000; decide, by simp only [List.length_map]; have := hn.1; omega, Or.inl ⟨i, j, ns ++ [.tab ("t" ++ Str.ofString (toString ((m : Nat) : Int))) (1 * 2 ^ x.toNat) ws], _, _, _, rfl, ?_, hn.app (n := .tab _ _ ws) ⟨vok hm0 hm5 _ rfl, ⟨by omega, by omega⟩, by omega, hw⟩⟩⟩
          show [dst2 i j, T.lst (_ ++ _)] = _
          rw [nmT, ← nmT_app]
          rfl
      · rintro _ _ ⟨i, j, ns, a, b, c, rfl, rfl, hn⟩
        refine ⟨i, j, ns, a, b, c, rfl, rfl, ?_, hn.2⟩
        have := hn.1
        simp only [List.length_map, List.length_range] at this
        omega
    · rintro _ _ ⟨i, j, ns, a, b, c, rfl, rfl, hn⟩
      refine ⟨fun sl rt => ∃ i j ns a b c, sl = sN cs 2 a b c none ∧ rt = [dst2 i j, nmT ns] ∧ OkN ns 9, ?_, ?_⟩
      · refine ⟨rfl, spec_draw _ _ cs 3 (by decide) (by decide) _ _ fun n i j n0 n1 => ?_⟩
        have hmin : (if n < 2 then n else 2) ≤ 2 ∧ 0 ≤ (if n < 2 then n else 2) := by split <;> omega
        generalize (if n < 2 then n else 2) = n' at hmin
        refine ⟨by omega, by omega, ?_⟩
        refine ⟨fun m sl rt => ∃ i j ns a b c, sl = sN cs 2 a b c none ∧ rt = [dst2 i j, nmT ns] ∧ OkN ns (6 + m), ⟨i, j, ns, a, b, c, rfl, rfl, hn⟩, ?_, ?_⟩
        · rintro m d _ _ hd ⟨i, j, ns, a, b, c, rfl, rfl, hn⟩
          obtain ⟨rfl, hm⟩ := rng_mem hd
          have hm0 : (0 : Int) ≤ (m : Nat) := by omega
          have hm5 : ((m : Nat) : Int) < 100000 := by omega
          have hm2 : m < 2 := by omega
          refine ⟨lg_int hm0 hm5, ⟨by have := vlen hm0 hm5 "p" rfl; rw [strLen_append] at this; have := sl_eq; show _ ≤ sizeLine; omega, ?_⟩⟩
          refine ⟨?_, rfl, spec_draw _ _ cs 2 (by decide) (by decide) _ _ fun x i j x0 x1 => ⟨?_, ⟨rfl, spec_draw _ _ cs 4 (by decide) (by decide) _ _ fun y i j y0 y1 => ?_⟩⟩⟩
          · exact Or.inl ⟨by decide, by decide⟩
          · exact Or.inl ⟨by decide, by decide⟩
          obtain ⟨s1, s2, s3⟩ := shl4 y0 y1
          refine ⟨s1, ?_⟩
          refine ⟨by show 4 ≤ 1000; decide, by simp only [List.length_map]; have := hn.1; omega, Or.inl ⟨i, j, ns ++ [.page ("p" ++ Str.ofString (toString ((m : Nat) : Int))) (112 - 16 * ((m : Nat) : Int) + 4 * x) (1 * 2 ^ y.toNat)], _, _, _, rfl, ?_, hn.app (n := .page _ _ _) ⟨vok hm0 hm5 _ rfl, ⟨by omega, by omega⟩, by omega, by omega⟩⟩⟩
          show [dst2 i j, T.lst (_ ++ _)] = _
          rw [nmT, ← nmT_app]
          rfl
        · rintro _ _ ⟨i, j, ns, a, b, c, rfl, rfl, hn⟩
          refine ⟨i, j, ns, a, b, c, rfl, rfl, ?_, hn.2⟩
          have := hn.1
          simp only [List.length_map, List.length_range] at this
          omega
      · rintro _ _ ⟨i, j, ns, a, b, c, rfl, rfl, hn⟩
        exact ⟨Nat.le_refl 1, hk ns i j hn⟩
end K41
end

section
set_option linter.all false
set_option maxRecDepth 100000
set_option maxHeartbeats 1000000
set_option pp.deepTerms false
namespace K41
open PySem L2 Evl Wv
/-! ### expressions and statements -/
inductive Ex where
  | num (i : Int) | nam (s : Str) | item (s : Str) (e : Ex) | inv (e : Ex) | shift (s : Str) (e : Ex) (n : Int) | op (s : Str) (e f : Ex)
def Ex.d : Ex → D
  | .num i => .tup [.str "number", .int i]
  | .nam s => .tup [.str "name", .str s]
  | .item s e => .tup [.str "item", .str s, e.d]
  | .inv e => .tup [.str "not", e.d]
  | .shift s e n => .tup [.str "shift", .str s, e.d, .int n]
  | .op s e f => .tup [.str "op", .str s, e.d, f.d]
/-- a sign -/
def Sg (s : Str) : Prop := s.length ≤ 2 ∧ PyData.strOk s = true
def Ex.ok : Nat → Ex → Prop
  | _, .num i => W5 i
  | _, .nam s => Nx s
  | m, .item s e => ∃ n, m = n + 1 ∧ Nx s ∧ e.ok n
  | m, .inv e => ∃ n, m = n + 1 ∧ e.ok n
  | m, .shift s e i => ∃ n, m = n + 1 ∧ Sg s ∧ W5 i ∧ e.ok n
  | m, .op s e f => ∃ n, m = n + 1 ∧ Sg s ∧ e.ok n ∧ f.ok n
mutual
inductive St where
  | set (s : Str) (e : Ex) | put (s : Str) (e f : Ex) | send (c : Int) (e : Ex) (s : Str) | recv (c : Int) (s t : Str) | frame (s : Str) | rest | stop
  | iff (e : Ex) (a b : Sts) | whi (e : Ex) (a : Sts)
inductive Sts where
  | nil | cons (s : St) (r : Sts)
end
mutual
def St.d : St → D
  | .set s e => .tup [.str "set", .str s, e.d]
  | .put s e f => .tup [.str "put", .str s, e.d, f.d]
  | .send c e s => .tup [.str "send", .int c, e.d, .str s]
  | .recv c s t => .tup [.str "receive", .int c, .str s, .str t]
  | .frame s => .tup [.str "frame", .str s]
  | .rest => .tup [.str "rest"]
  | .stop => .tup [.str "stop"]
  | .iff e a b => .tup [.str "if", e.d, .lst a.ds, .lst b.ds]
  | .whi e a => .tup [.str "while", e.d, .lst a.ds]
def Sts.ds : Sts → List D
  | .nil => []
  | .cons s r => s.d :: r.ds
end
def Sts.len : Sts → Nat
  | .nil => 0
  | .cons _ r => r.len + 1
def Sts.snoc : Sts → St → Sts
  | .nil, t => .cons t .nil
  | .cons s r, t => .cons s (r.snoc t)
theorem snoc_ds (s : St) : ∀ b : Sts, (b.snoc s).ds = b.ds ++ [s.d]
  | .nil => rfl
  | .cons t r => by
    show t.d :: (r.snoc s).ds = _
    rw [snoc_ds s r]
    rfl
theorem snoc_len (s : St) : ∀ b : Sts, (b.snoc s).len = b.len + 1
  | .nil => rfl
  | .cons t r => by
    show (r.snoc s).len + 1 = _
    rw [snoc_len s r]
    rfl
theorem ds_len : ∀ b : Sts, b.ds.length = b.len
  | .nil => rfl
  | .cons t r => by
    show r.ds.length + 1 = _
    rw [ds_len r]
    rfl
mutual
def St.ok : Nat → St → Prop
  | _, .set s e => Nx s ∧ e.ok 2
  | _, .put s e f => Nx s ∧ e.ok 1 ∧ f.ok 1
  | _, .send c e s => W5 c ∧ e.ok 2 ∧ Nx s
  | _, .recv c s t => W5 c ∧ Nx s ∧ Nx t
  | _, .frame s => Nx s
  | _, .rest => True
  | _, .stop => True
  | m, .iff e a b => ∃ n, m = n + 1 ∧ e.ok 1 ∧ (a.len ≤ 3 ∧ a.ok n) ∧ (b.len ≤ 3 ∧ b.ok n)
  | m, .whi e a => ∃ n, m = n + 1 ∧ e.ok 1 ∧ (a.len ≤ 3 ∧ a.ok n)
def Sts.ok : Nat → Sts → Prop
  | _, .nil => True
  | n, .cons s r => s.ok n ∧ r.ok n
end
def Sts.Ok (n : Nat) (b : Sts) : Prop := b.len ≤ 3 ∧ b.ok n
theorem snoc_ok {n : Nat} {s : St} (h : s.ok n) : ∀ b : Sts, b.ok n → (b.snoc s).ok n
  | .nil, _ => ⟨h, trivial⟩
  | .cons t r, hb => ⟨hb.1, snoc_ok h r hb.2⟩
abbrev nmD (ns : List Nm) : D := .lst (ns.map Nm.d)
def OkS (ns : List Nm) : Prop := ns.length ≤ 9 ∧ ∀ n ∈ ns, n.ok
abbrev kD (ks : List Str) : D := .tup (ks.map D.str)
def named (ns : List Nm) (ks : List Str) : List Str := (ns.filter fun n => inV (D.v (.str n.k)) ((ks.map D.str).map D.v)).map Nm.s
theorem named_app (A : List Nm) (n : Nm) (ks : List Str) : named (A ++ [n]) ks = named A ks ++ (if inV (D.v (.str n.k)) ((ks.map D.str).map D.v) = true then [n.s] else []) := by
  unfold named
  rw [List.filter_append, List.map_append]
  by_cases h : inV (D.v (.str n.k)) ((ks.map D.str).map D.v) = true
  · simp only [List.filter, h, if_pos]
    rfl
  · simp only [List.filter, h, if_neg, List.map_nil]
    rfl
theorem at0 (a : D) (r : List D) : atI (a :: r) 0 = some a := by
  unfold atI ixN
  rw [if_pos (by decide), if_pos (by simp only [List.length_cons]; omega)]
  rfl
theorem at1 (a b : D) (r : List D) : atI (a :: b :: r) 1 = some b := by
  unfold atI ixN
  rw [if_pos (by decide), if_pos (by simp only [List.length_cons]; omega)]
  rfl
theorem named_ok {ns : List Nm} (h : OkS ns) (ks : List Str) : (named ns ks).length ≤ 9 ∧ ∀ s ∈ named ns ks, Nx s := by
  refine ⟨?_, fun s hs => ?_⟩
  · simp only [named, List.length_map]
    exact Nat.le_trans (List.length_filter_le _ _) h.1
  · obtain ⟨n, hn, rfl⟩ := List.mem_map.mp hs
    exact Nm.ok_s (h.2 n (List.mem_filter.mp hn).1)
theorem spec_of (ns : List Nm) (h : OkS ns) (ks : List Str) (hf : (ks.map D.str).all D.flat = true) (k : T → Roots → Prop) (kx : Exn → Roots → Prop) (hk : k (.lst ((named ns ks).map fun s => .dat (.str s))) []) : cLawOf [.dat (nmD ns), .dat (kD ks)] [] k kx := by
  unfold cLawOf cwOf
  refine ⟨rfl, ?_⟩
  unfold weLawOf
  refine ⟨fun i acc rt => acc = (named (ns.take i) ks).map (fun s => T.dat (.str s)) ∧ rt = [] ∧ i ≤ ns.length, ⟨rfl, rfl, Nat.zero_le _⟩, ?_, ?_⟩
  · rintro i d _ _ hd ⟨rfl, rfl, hi⟩
    rw [List.getElem?_map] at hd
    obtain ⟨n, hn, rfl⟩ := Option.map_eq_some_iff.mp hd
    have hl : i < ns.length := (List.getElem?_eq_some_iff.mp hn).1
    have ht : ns.take (i + 1) = ns.take i ++ [n] := by rw [List.take_succ, hn]; rfl
    have hnd : ∃ r, n.d = .tup (.str n.k :: .str n.s :: r) := by cases n <;> exact ⟨_, rfl⟩
    obtain ⟨r, hr⟩ := hnd
    refine ⟨?_, ?_⟩
    · simp only [named, List.length_map]
      have := List.length_filter_le (fun n : Nm => inV (D.v (.str n.k)) ((ks.map D.str).map D.v)) (ns.take i)
      have := h.1
      rw [List.length_take] at *
      omega
    · rw [hr]
      refine ⟨_, at0 _ _, rfl, hf, fun hb => ?_, fun hb => ?_⟩
      · refine ⟨_, at1 _ _ _, ?_, rfl, hl⟩
        have hb : inV (D.v (.str n.k)) ((ks.map D.str).map D.v) = true := hb
        rw [ht, named_app, if_pos hb, List.map_append]
        rfl
      · refine ⟨?_, rfl, hl⟩
        have hb' : ¬ inV (D.v (.str n.k)) ((ks.map D.str).map D.v) = true := by
          show ¬ _
          intro h2
          exact absurd (hb.symm.trans h2) (by decide)
        rw [ht, named_app, if_neg hb', List.append_nil]
  · rintro _ _ ⟨rfl, rfl, hi⟩
    rw [List.length_map, List.take_length]
    exact hk
theorem spec_pick (i j : Int) (cs : List Int) (ss : List Str) (h0 : 0 < (ss.length : Int)) (h1 : ss.length ≤ 1000) (k : T → Roots → Prop) (kx : Exn → Roots → Prop) (hk : ∀ s i' j', s ∈ ss → k (.dat (.str s)) [dst2 i' j']) : cLawPick [.ref 0 [], .dat (.ro (dints cs)), .dat (.lst (ss.map D.str))] [dst2 i j] k kx := by
  unfold cLawPick cwOf
  refine ⟨rfl, ?_⟩
  unfold weLawPick
  refine ⟨rfl, spec_draw _ _ cs ((ss.map D.str).length : Int) (by rw [List.length_map]; exact h0) (by rw [List.length_map]; omega) _ _ fun d i j d0 d1 => ?_⟩
  obtain ⟨x, hx, e⟩ := atI_mem d0 d1
  obtain ⟨s, hs, rfl⟩ := List.mem_map.mp hx
  exact ⟨_, e, hk s i j hs⟩
theorem toD_strs (ss : List Str) : (T.lst (ss.map fun s => .dat (.str s))).toD = .lst (ss.map D.str) := by
  have : (ss.map fun s => T.dat (.str s)) = (ss.map D.str).map .dat := by simp
  rw [this, toD_dats]
abbrev vK : List Str := ["var"]
abbrev iK : List Str := ["table", "page"]
theorem opn : ∀ x ∈ (["==", "!=", "<", "+", "-", "|", "^", "*", "&"] : List Str), Sg x := by unfold Sg; decide +kernel
theorem spec_expr (cs : List Int) (ns : List Nm) (h : OkS ns) : ∀ (m q : Nat) (i j d : Int), d = (m : Nat) → m + 1 ≤ q → ∀ (k : T → Roots → Prop) (kx : Exn → Roots → Prop) (_ : ∀ (e : Ex) i' j', e.ok m → k (.dat e.d) [dst2 i' j']), rcEx q 0 [.ref 0 [], .dat (.ro (dints cs)), .dat (nmD ns), .dat (.int d)] [dst2 i j] k kx := by
  intro m
  induction m using Nat.strongRecOn with
  | ind m ih =>
  intro q i j d hd hq k kx hk
  obtain ⟨q, rfl⟩ : ∃ q', q = q' + 1 := ⟨q - 1, by omega⟩
  rw [rcEx_0]
  unfold cwOf weLawExpression
  refine ⟨rfl, rfl, spec_draw _ _ cs 10 (by decide) (by decide) _ _ fun kind i j k0 k1 => ?_⟩
  refine ⟨by show 2 ≤ 1000; decide, rfl, spec_of ns h iK rfl _ _ ?_⟩
  simp only [toD_strs]
  obtain ⟨iL, iN⟩ := named_ok h iK
  obtain ⟨vL, vN⟩ := named_ok h vK
  refine ⟨decide (kind < 3), fun _ => ⟨rfl, rfl⟩, fun hb => ?_, fun hb => ?_⟩
  · refine ⟨by show 1 ≤ 1000; decide, rfl, spec_of ns h vK rfl _ _ ?_⟩
    simp only [toD_strs]
    refine ⟨fun hl => ⟨rfl, spec_draw _ _ cs 2 (by decide) (by decide) _ _ fun p i j p0 p1 => ⟨fun hp => ?_, fun hp => ?_⟩⟩, fun hl => ⟨fun z => (nomatch z), fun _ => ?_⟩⟩
    · have hl : (0 : Int) < (((named ns vK).map D.str).length : Int) := of_decide_eq_true hl
      rw [List.length_map] at hl
      exact ⟨rfl, spec_pick _ _ cs _ hl (by omega) _ _ fun s i j hs => ⟨by show 2 ≤ 1000; decide, hk (.nam s) i j (vN s hs)⟩⟩
    all_goals
      refine ⟨rfl, spec_draw _ _ cs 9 (by decide) (by decide) _ _ fun x i j x0 x1 => ⟨rfl, spec_draw _ _ cs 65536 (by decide) (by decide) _ _ fun y i j y0 y1 => ⟨by show 5 ≤ 1000; decide, rfl, spec_draw _ _ cs 5 (by decide) (by decide) _ _ fun z i j z0 z1 => ?_⟩⟩⟩
      obtain ⟨v, hv, e⟩ := atI_mem (xs := [D.int 0, .int 1, .int 65535, .int x, .int y]) z0 z1
      have : ∃ z : Int, v = .int z ∧ W5 z := by
        simp only [List.mem_cons, List.not_mem_nil, or_false] at hv
        rcases hv with z | z | z | z | z
        · exact ⟨_, z, by decide, by decide⟩
        · exact ⟨_, z, by decide, by decide⟩
        · exact ⟨_, z, by decide, by decide⟩
        · exact ⟨_, z, x0, by omega⟩
        · exact ⟨_, z, y0, by omega⟩
      obtain ⟨z, rfl, hz⟩ := this
      exact ⟨_, e, by show 2 ≤ 1000; decide, hk (.num z) i j (by unfold Ex.ok; exact hz)⟩
  have hb : (decide (d = 0) || decide (kind < 3)) = false := hb
  have hd0 : d ≠ 0 := of_decide_eq_false (Bool.or_eq_false_iff.mp hb).1
  obtain ⟨m, rfl⟩ : ∃ m', m = m' + 1 := ⟨m - 1, by omega⟩
  have hd1 : d - 1 = (m : Nat) := by omega
  refine ⟨decide ((0 : Int) < (((named ns iK).map D.str).length : Int)), fun _ => ⟨rfl, rfl⟩, fun hb => ?_, fun _ => ?_⟩
  · have hb : (decide (kind = 3) && decide ((0 : Int) < (((named ns iK).map D.str).length : Int))) = true := hb
    have hl := of_decide_eq_true (Bool.and_eq_true_iff.mp hb).2
    rw [List.length_map] at hl
    exact ⟨rfl, spec_pick _ _ cs _ hl (by omega) _ _ fun s i j hs => ⟨rfl, ih m (by omega) q i j _ hd1 (by omega) _ _ fun e i j he => ⟨by show 3 ≤ 1000; decide, hk (.item s e) i j ⟨m, rfl, iN s hs, he⟩⟩⟩⟩
  refine ⟨fun hb => ?_, fun _ => ?_⟩
  · exact ⟨rfl, ih m (by omega) q i j _ hd1 (by omega) _ _ fun e i j he => ⟨by show 2 ≤ 1000; decide, hk (.inv e) i j ⟨m, rfl, he⟩⟩⟩
  refine ⟨fun hb => ?_, fun _ => ?_⟩
  · refine ⟨rfl, ih m (by omega) q i j _ hd1 (by omega) _ _ fun e i j he => ⟨by show 2 ≤ 1000; decide, ⟨rfl, spec_draw _ _ cs 2 (by decide) (by decide) _ _ fun p i j p0 p1 => ?_⟩⟩⟩
    obtain ⟨v, hv, ev⟩ := atI_mem (xs := [D.str "<<", .str ">>"]) p0 p1
    have : ∃ z : Str, v = .str z ∧ Sg z := by
      simp only [List.mem_cons, List.not_mem_nil, or_false] at hv
      rcases hv with z | z <;> exact ⟨_, z, by unfold Sg; decide +kernel⟩
    obtain ⟨z, rfl, hz⟩ := this
    exact ⟨_, ev, rfl, spec_draw _ _ cs 16 (by decide) (by decide) _ _ fun x i j x0 x1 => ⟨by show 4 ≤ 1000; decide, hk (.shift z e x) i j ⟨m, rfl, hz, ⟨x0, by omega⟩, he⟩⟩⟩
  · refine ⟨by show 9 ≤ 1000; decide, rfl, spec_pick _ _ cs ["==", "!=", "<", "+", "-", "|", "^", "*", "&"] (by decide) (by decide) _ _ fun s i j hs => ?_⟩
    exact ⟨rfl, ih m (by omega) q i j _ hd1 (by omega) _ _ fun e i j he => ⟨rfl, ih m (by omega) q i j _ hd1 (by omega) _ _ fun f i j hf => ⟨by show 4 ≤ 1000; decide, hk (.op s e f) i j ⟨m, rfl, opn s hs, he, hf⟩⟩⟩⟩
end K41
end

section
set_option linter.all false
set_option maxRecDepth 100000
set_option maxHeartbeats 1000000
set_option pp.deepTerms false
namespace K41
open PySem L2 Evl Wv
theorem spec_call (cs : List Int) (ns : List Nm) (h : OkS ns) (i j : Int) (k : T → Roots → Prop) (kx : Exn → Roots → Prop) (hk : ∀ (s : St) i' j', (∀ m, s.ok m) → k (.dat s.d) [dst2 i' j']) : cLawCall [.ref 0 [], .dat (.ro (dints cs)), .dat (nmD ns), .dat (.int 2)] [dst2 i j] k kx := by
  unfold cLawCall cwOf
  refine ⟨rfl, ?_⟩
  unfold weLawCall
  refine ⟨by show 1 ≤ 1000; decide, rfl, spec_of ns h vK rfl _ _ ?_⟩
  simp only [toD_strs]
  obtain ⟨vL, vN⟩ := named_ok h vK
  refine ⟨rfl, spec_draw _ _ cs 4 (by decide) (by decide) _ _ fun kind i j k0 k1 => ⟨by show 4 ≤ 1000; decide, rfl, spec_draw _ _ cs 4 (by decide) (by decide) _ _ fun c i j c0 c1 => ?_⟩⟩
  obtain ⟨v, hv, e⟩ := atI_mem (xs := [D.int 0, .int 1, .int 2, .int 65535]) c0 c1
  have : ∃ z : Int, v = .int z ∧ W5 z := by
    simp only [List.mem_cons, List.not_mem_nil, or_false] at hv
    rcases hv with z | z | z | z <;> exact ⟨_, z, by decide, by decide⟩
  obtain ⟨c, rfl, hc⟩ := this
  refine ⟨_, e, ?_⟩
  refine ⟨decide ((((named ns vK).map D.str).length : Int) = 0), fun _ => ⟨rfl, rfl⟩, fun hb => ?_, fun hb => ?_⟩
  · refine ⟨by show 1 ≤ 1000; decide, _, _, rfl, rfl, by rw [List.length_map]; show _ + 1 ≤ 40000; omega, ?_⟩
    refine ⟨rfl, spec_draw _ _ cs ((((named ns vK).map D.str).length : Int) + 1) (by omega) (by rw [List.length_map]; omega) _ _ fun p i j p0 p1 => ?_⟩
    have hle : ((((named ns vK).map D.str) ++ [D.str ""]).length : Int) = (((named ns vK).map D.str).length : Int) + 1 := by
      rw [List.length_append]; rfl
    obtain ⟨v, hv, e⟩ := atI_mem (xs := ((named ns vK).map D.str) ++ [D.str ""]) p0 (by rw [hle]; exact p1)
    have : ∃ z : Str, v = .str z ∧ Nx z := by
      rcases List.mem_append.mp hv with z | z
      · obtain ⟨s, hs, rfl⟩ := List.mem_map.mp z
        exact ⟨s, rfl, vN s hs⟩
      · exact ⟨"", List.mem_singleton.mp z, by unfold Nx; decide +kernel⟩
    obtain ⟨z, rfl, hz⟩ := this
    refine ⟨_, (congrArg (fun l => atI l p) (toDs_dat _)).trans e, rfl, spec_expr cs ns h 2 4 i j 2 rfl (by decide) _ _ fun e i j he => ⟨by show 4 ≤ 1000; decide, hk (.send c e z) i j fun _ => ⟨hc, he, hz⟩⟩⟩
  · have hb : (decide (kind < 2) || decide ((((named ns vK).map D.str).length : Int) = 0)) = false := hb
    have hl := of_decide_eq_false (Bool.or_eq_false_iff.mp hb).2
    rw [List.length_map] at hl
    refine ⟨fun _ => ?_, fun _ => ?_⟩
    · exact ⟨rfl, spec_pick _ _ cs _ (by omega) (by omega) _ _ fun s i j hs => ⟨rfl, spec_pick _ _ cs _ (by omega) (by omega) _ _ fun t i j ht => ⟨by show 4 ≤ 1000; decide, hk (.recv c s t) i j fun _ => ⟨hc, vN s hs, vN t ht⟩⟩⟩⟩
    · exact ⟨rfl, spec_pick _ _ cs _ (by omega) (by omega) _ _ fun s i j hs => ⟨by show 2 ≤ 1000; decide, hk (.frame s) i j fun _ => vN s hs⟩⟩
def PSt (cs : List Int) (ns : List Nm) (m : Nat) : Prop := ∀ (q : Nat) (i j d : Int) (lp : Bool), d = (m : Nat) → 2 * m + 1 ≤ q → ∀ (k : T → Roots → Prop) (kx : Exn → Roots → Prop) (_ : ∀ (s : St) i' j', s.ok m → k (.dat s.d) [dst2 i' j']), rcSt q 0 [.ref 0 [], .dat (.ro (dints cs)), .dat (nmD ns), .dat (.int d), .dat (.bool lp)] [dst2 i j] k kx
def PSb (cs : List Int) (ns : List Nm) (m : Nat) : Prop := ∀ (q : Nat) (i j d : Int) (lp : Bool), d = (m : Nat) → 2 * m + 2 ≤ q → ∀ (k : T → Roots → Prop) (kx : Exn → Roots → Prop) (_ : ∀ (b : Sts) i' j', b.Ok m → k (.lst (b.ds.map .dat)) [dst2 i' j']), rcSt q 1 [.ref 0 [], .dat (.ro (dints cs)), .dat (nmD ns), .dat (.int d), .dat (.bool lp)] [dst2 i j] k kx
theorem body_of {cs : List Int} {ns : List Nm} {m : Nat} (h : PSt cs ns m) : PSb cs ns m := by
  intro q i j d lp hd hq k kx hk
  obtain ⟨q, rfl⟩ : ∃ q', q = q' + 1 := ⟨q - 1, by omega⟩
  rw [rcSt_1]
  unfold cwOf weLawBody
  refine ⟨rfl, rfl, spec_draw _ _ cs 4 (by decide) (by decide) _ _ fun n i j n0 n1 => ⟨by omega, by omega, ?_⟩⟩
  refine ⟨fun x acc rt => ∃ i j b, acc = (Sts.ds b).map .dat ∧ rt = [dst2 i j] ∧ b.len = x ∧ b.ok m, ⟨i, j, .nil, rfl, rfl, rfl, trivial⟩, ?_, ?_⟩
  · rintro x dd _ _ hdd ⟨i, j, b, rfl, rfl, hl, hb⟩
    obtain ⟨rfl, hx⟩ := rng_mem hdd
    refine ⟨by rw [List.length_map, ds_len]; omega, fun _ => ⟨rfl, h q i j d lp hd (by omega) _ _ fun s i j hs => ⟨i, j, b.snoc s, ?_, rfl, by rw [snoc_len, hl], snoc_ok hs b hb⟩⟩, fun z => (nomatch z)⟩
    rw [snoc_ds, List.map_append]
    rfl
  · rintro _ _ ⟨i, j, b, rfl, rfl, hl, hb⟩
    rw [List.length_map, List.length_range] at hl
    exact hk b i j ⟨by omega, hb⟩
theorem stmt_of {cs : List Int} {ns : List Nm} (h : OkS ns) {m : Nat} (ih : ∀ m', m = m' + 1 → PSb cs ns m') : PSt cs ns m := by
  intro q i j d lp hd hq k kx hk
  obtain ⟨q, rfl⟩ : ∃ q', q = q' + 1 := ⟨q - 1, by omega⟩
  rw [rcSt_0]
  unfold cwOf weLawStatement
  refine ⟨rfl, rfl, spec_draw _ _ cs 12 (by decide) (by decide) _ _ fun kind i j k0 k1 => ?_⟩
  refine ⟨by show 1 ≤ 1000; decide, rfl, spec_of ns h vK rfl _ _ ?_⟩
  refine ⟨by show 2 ≤ 1000; decide, rfl, spec_of ns h iK rfl _ _ ?_⟩
  simp only [toD_strs]
  obtain ⟨iL, iN⟩ := named_ok h iK
  obtain ⟨vL, vN⟩ := named_ok h vK
  refine ⟨decide ((0 : Int) < (((named ns vK).map D.str).length : Int)), fun _ => ⟨rfl, rfl⟩, fun hb => ?_, fun _ => ?_⟩
  · have hb : (decide (kind < 3) && decide ((0 : Int) < (((named ns vK).map D.str).length : Int))) = true := hb
    have hl := of_decide_eq_true (Bool.and_eq_true_iff.mp hb).2
    rw [List.length_map] at hl
    exact ⟨rfl, spec_pick _ _ cs _ hl (by omega) _ _ fun s i j hs => ⟨rfl, spec_expr cs ns h 2 4 i j 2 rfl (by decide) _ _ fun e i j he => ⟨by show 3 ≤ 1000; decide, hk (.set s e) i j ⟨vN s hs, he⟩⟩⟩⟩
  refine ⟨decide ((0 : Int) < (((named ns iK).map D.str).length : Int)), fun _ => ⟨rfl, rfl⟩, fun hb => ?_, fun _ => ?_⟩
  · have hb : (decide (kind < 5) && decide ((0 : Int) < (((named ns iK).map D.str).length : Int))) = true := hb
    have hl := of_decide_eq_true (Bool.and_eq_true_iff.mp hb).2
    rw [List.length_map] at hl
    exact ⟨rfl, spec_expr cs ns h 1 4 i j 1 rfl (by decide) _ _ fun e i j he => ⟨rfl, spec_pick _ _ cs _ hl (by omega) _ _ fun s i j hs => ⟨rfl, spec_expr cs ns h 1 4 i j 1 rfl (by decide) _ _ fun f i j hf => ⟨by show 4 ≤ 1000; decide, hk (.put s e f) i j ⟨iN s hs, he, hf⟩⟩⟩⟩⟩
  refine ⟨decide ((0 : Int) < d), fun _ => ⟨rfl, rfl⟩, fun hb => ?_, fun _ => ?_⟩
  · have hb : (decide (kind < 8) && decide ((0 : Int) < d)) = true := hb
    have hd0 := of_decide_eq_true (Bool.and_eq_true_iff.mp hb).2
    obtain ⟨m, rfl⟩ : ∃ m', m = m' + 1 := ⟨m - 1, by omega⟩
    refine ⟨rfl, spec_expr cs ns h 1 4 i j 1 rfl (by decide) _ _ fun e i j he => ⟨rfl, ih m rfl q i j _ lp (by omega) (by omega) _ _ fun a i j ha => ?_⟩⟩
    simp only [toD_dats]
    refine ⟨lp, fun _ => ⟨rfl, rfl⟩, fun _ => ⟨by show 3 ≤ 1000; decide, hk (.whi e a) i j ⟨m, rfl, he, ha⟩⟩, fun _ => ?_⟩
    refine ⟨rfl, ih m rfl q i j _ lp (by omega) (by omega) _ _ fun b i j hb => ?_⟩
    simp only [toD_dats]
    refine ⟨by show 0 ≤ 1000; decide, by show 2 ≤ 1000; decide, rfl, spec_draw _ _ cs 2 (by decide) (by decide) _ _ fun p i j p0 p1 => ?_⟩
    obtain ⟨v, hv, ev⟩ := atI_mem (xs := [D.lst b.ds, .lst []]) p0 p1
    have : ∃ z : Sts, v = .lst z.ds ∧ z.Ok m := by
      simp only [List.mem_cons, List.not_mem_nil, or_false] at hv
      rcases hv with z | z
      · exact ⟨b, z, hb⟩
      · exact ⟨.nil, z, Nat.zero_le _, trivial⟩
    obtain ⟨z, rfl, hz⟩ := this
    exact ⟨_, ev, by show 4 ≤ 1000; decide, hk (.iff e a z) i j ⟨m, rfl, he, ha, hz⟩⟩
  refine ⟨fun _ => ⟨by show 1 ≤ 1000; decide, hk .rest i j trivial⟩, fun _ => ?_⟩
  refine ⟨fun _ => ⟨rfl, spec_draw _ _ cs 4 (by decide) (by decide) _ _ fun p i j p0 p1 => ⟨fun _ => ⟨by show 1 ≤ 1000; decide, hk .stop i j trivial⟩, fun _ => ?_⟩⟩, fun _ => ⟨fun z => (nomatch z), fun _ => ?_⟩⟩
  all_goals
    exact ⟨rfl, spec_call cs ns h i j _ _ fun s i j hs => hk s i j (hs m)⟩
theorem spec_body (cs : List Int) (ns : List Nm) (h : OkS ns) : ∀ m, PSb cs ns m
  | 0 => body_of (stmt_of h fun _ z => (nomatch z))
  | m + 1 => body_of (stmt_of h fun _ z => by cases z; exact spec_body cs ns h m)
end K41
end

section
set_option linter.all false
set_option maxRecDepth 100000
set_option maxHeartbeats 1000000
set_option pp.deepTerms false
namespace K41
open PySem L2 Evl Wv
/-! ### texts of expressions -/
def txI (i : Int) : Str := Str.ofString (toString i)
def showE : Ex → Str
  | .num i => txI i
  | .nam s => s
  | .item s e => s ++ "[" ++ showE e ++ "]"
  | .inv e => "~" ++ showE e
  | .shift s e n => "(" ++ showE e ++ " " ++ s ++ " " ++ txI n ++ ")"
  | .op s e f => "(" ++ showE e ++ " " ++ s ++ " " ++ showE f ++ ")"
theorem ap {x y : Str} {n : Nat} (h : (x ++ y).length ≤ n) : x.length + y.length ≤ n := by rwa [strLen_append] at h
theorem apl {x y : Str} {n : Nat} (h : (x ++ y).length ≤ n) : x.length ≤ n := by rw [strLen_append] at h; omega
theorem apr {x y : Str} {n : Nat} (h : (x ++ y).length ≤ n) : y.length ≤ n := by rw [strLen_append] at h; omega
def PLs (e : Ex) : Prop := ∀ (m q : Nat), e.ok m → m + 1 ≤ q → (showE e).length ≤ sizeLine → ∀ (k : T → Roots → Prop) (kx : Exn → Roots → Prop), k (.dat (.str (showE e))) [] → rcLs q 0 [.dat e.d] [] k kx
theorem ls_num (i : Int) : PLs (.num i) := by
    intro m q h hq hs k kx hk
    obtain ⟨q, rfl⟩ : ∃ q', q = q' + 1 := ⟨q - 1, by omega⟩
    unfold Ex.ok at h
    rw [rcLs_0]
    unfold cwOf weLawShown
    exact ⟨rfl, _, rfl, fun _ => ⟨_, rfl, lg_int h.1 h.2, hk⟩, fun z => absurd z (by decide +kernel)⟩
theorem ls_nam (s : Str) : PLs (.nam s) := by
    intro m q h hq hs k kx hk
    obtain ⟨q, rfl⟩ : ∃ q', q = q' + 1 := ⟨q - 1, by omega⟩
    rw [rcLs_0]
    unfold cwOf weLawShown
    exact ⟨rfl, _, rfl, fun z => absurd z (by decide +kernel), fun _ => ⟨fun _ => ⟨_, rfl, hk⟩, fun z => absurd z (by decide +kernel)⟩⟩
theorem ls_item (s : Str) (e : Ex) (ih : PLs e) : PLs (.item s e) := by
    intro m q h hq hs k kx hk
    obtain ⟨q, rfl⟩ : ∃ q', q = q' + 1 := ⟨q - 1, by omega⟩
    obtain ⟨n, rfl, h1, h2⟩ := h
    rw [rcLs_0]
    unfold cwOf weLawShown
    refine ⟨rfl, _, rfl, fun z => absurd z (by decide +kernel), fun _ => ⟨fun z => absurd z (by decide +kernel), fun _ => ⟨fun _ => ?_, fun z => absurd z (by decide +kernel)⟩⟩⟩
    exact ⟨_, rfl, ap (apl (apl hs)), _, rfl, rfl, ih n q h2 (by omega) (apr (apl hs)) _ _ ⟨ap (apl hs), ap hs, hk⟩⟩
theorem ls_inv (e : Ex) (ih : PLs e) : PLs (.inv e) := by
    intro m q h hq hs k kx hk
    obtain ⟨q, rfl⟩ : ∃ q', q = q' + 1 := ⟨q - 1, by omega⟩
    obtain ⟨n, rfl, h2⟩ := h
    rw [rcLs_0]
    unfold cwOf weLawShown
    refine ⟨rfl, _, rfl, fun z => absurd z (by decide +kernel), fun _ => ⟨fun z => absurd z (by decide +kernel), fun _ => ⟨fun z => absurd z (by decide +kernel), fun _ => ⟨fun _ => ?_, fun z => absurd z (by decide +kernel)⟩⟩⟩⟩
    exact ⟨_, rfl, rfl, ih n q h2 (by omega) (apr hs) _ _ ⟨ap hs, hk⟩⟩
theorem ls_shift (s : Str) (e : Ex) (x : Int) (ih : PLs e) : PLs (.shift s e x) := by
    intro m q h hq hs k kx hk
    obtain ⟨q, rfl⟩ : ∃ q', q = q' + 1 := ⟨q - 1, by omega⟩
    obtain ⟨n, rfl, h1, h3, h2⟩ := h
    rw [rcLs_0]
    unfold cwOf weLawShown
    refine ⟨rfl, _, rfl, fun z => absurd z (by decide +kernel), fun _ => ⟨fun z => absurd z (by decide +kernel), fun _ => ⟨fun z => absurd z (by decide +kernel), fun _ => ⟨fun z => absurd z (by decide +kernel), fun _ => ⟨fun _ => ?_, fun z => absurd z (by decide +kernel)⟩⟩⟩⟩⟩
    have g0 : ("(" ++ showE e ++ " " ++ s ++ " " ++ txI x ++ ")").length ≤ sizeLine := hs
    have g1 := apl g0
    have g2 := apl g1
    have g3 := apl g2
    have g4 := apl g3
    have g5 := apl g4
    refine ⟨_, rfl, rfl, ih n q h2 (by omega) (apr g5) _ _ ?_⟩
    refine ⟨ap g5, ap g4, _, rfl, ap g3, ap g2, ?_⟩
    exact ⟨_, rfl, lg_int h3.1 h3.2, ap g1, ap g0, hk⟩
theorem ls_op (s : Str) (e f : Ex) (ih : PLs e) (ih2 : PLs f) : PLs (.op s e f) := by
    intro m q h hq hs k kx hk
    obtain ⟨q, rfl⟩ : ∃ q', q = q' + 1 := ⟨q - 1, by omega⟩
    obtain ⟨n, rfl, h1, h2, h3⟩ := h
    rw [rcLs_0]
    unfold cwOf weLawShown
    refine ⟨rfl, _, rfl, fun z => absurd z (by decide +kernel), fun _ => ⟨fun z => absurd z (by decide +kernel), fun _ => ⟨fun z => absurd z (by decide +kernel), fun _ => ⟨fun z => absurd z (by decide +kernel), fun _ => ⟨fun z => absurd z (by decide +kernel), fun _ => ?_⟩⟩⟩⟩⟩
    have g0 : ("(" ++ showE e ++ " " ++ s ++ " " ++ showE f ++ ")").length ≤ sizeLine := hs
    have g1 := apl g0
    have g2 := apl g1
    have g3 := apl g2
    have g4 := apl g3
    have g5 := apl g4
    refine ⟨_, rfl, rfl, ih n q h2 (by omega) (apr g5) _ _ ?_⟩
    refine ⟨ap g5, ap g4, _, rfl, ap g3, ap g2, ?_⟩
    exact ⟨_, rfl, rfl, ih2 n q h3 (by omega) (apr g1) _ _ ⟨ap g1, ap g0, hk⟩⟩
theorem spec_ls (e : Ex) : PLs e := by
  induction e with
  | num i => exact ls_num i
  | nam s => exact ls_nam s
  | item s e ih => exact ls_item s e ih
  | inv e ih => exact ls_inv e ih
  | shift s e n ih => exact ls_shift s e n ih
  | op s e f ih ih2 => exact ls_op s e f ih ih2
end K41
end

section
set_option linter.all false
set_option maxRecDepth 100000
set_option maxHeartbeats 1000000
set_option pp.deepTerms false
namespace K41
open PySem L2 Evl Wv
/-! ### the program's texts of expressions -/
def fst : Ex → Ex
  | .op _ e _ => fst e
  | .shift _ e _ => fst e
  | e => e
def ops : Ex → List Ex
  | .op s e f => ops e ++ [.op s e f]
  | .shift s e n => ops e ++ [.shift s e n]
  | _ => []
def exT (L : List Ex) : T := .lst (L.map fun e => .dat e.d)
theorem ops_len : ∀ (e : Ex) (m : Nat), e.ok m → (ops e).length ≤ m
  | .num _, _, _ => Nat.zero_le _
  | .nam _, _, _ => Nat.zero_le _
  | .item _ _, _, _ => Nat.zero_le _
  | .inv _, _, _ => Nat.zero_le _
  | .shift s e x, m, h => by
    obtain ⟨n, rfl, _, _, h2⟩ := h
    have := ops_len e n h2
    show (ops e ++ _).length ≤ _
    rw [List.length_append]
    exact Nat.succ_le_succ this
  | .op s e f, m, h => by
    obtain ⟨n, rfl, _, h2, _⟩ := h
    have := ops_len e n h2
    show (ops e ++ _).length ≤ _
    rw [List.length_append]
    exact Nat.succ_le_succ this
theorem dats_dat : ∀ (ds : List D), dats (ds.map .dat) = some ds
  | [] => rfl
  | d :: ds => by
    show (dats (ds.map .dat)).map (d :: ·) = _
    rw [dats_dat ds]
    rfl
theorem ex_map (L : List Ex) : (L.map fun e => T.dat e.d) = (L.map Ex.d).map .dat := by simp
def IUn (e : Ex) (m : Nat) (sl : Slots) (rt : Roots) : Prop := ∃ x L, sl = [some (.dat x.d), some (.ref 0 [])] ∧ rt = [exT L] ∧ ops e = ops x ++ L.reverse ∧ fst e = fst x ∧ (ops x).length = m
theorem un_step {e x l : Ex} {L : List Ex} (h : ops e = ops x ++ L.reverse) (hx : ops x = ops l ++ [x]) : ops e = ops l ++ (L ++ [x]).reverse := by
  rw [h, hx, List.reverse_append]
  simp
theorem un_ret {e x : Ex} {L : List Ex} (h : ops e = ops x ++ L.reverse) (h2 : fst e = fst x) (n1 : ops x = []) (n2 : fst x = x) (k : T → Roots → Prop) (hk : k (.dat (.tup [(fst e).d, .lst ((ops e).map Ex.d)])) []) : wRet (wTup (wCons (wVar 0) (wCons (wFrz (wRevL (wVar 1))) wNil)))
    { nx := fun _ rt' => k (.dat .non) (rt'.take 0), rt := fun v rt' => match v with
      | .dat d => k (.dat d) (rt'.take 0)
      | .ref r [] => 0 ≤ r ∧ match rt'[r]? with
        | some t => k t (rt'.take 0)
        | none => False
      | _ => False } [some (.dat x.d), some (.ref 0 [])] [exT L] := by
  refine ⟨L.map Ex.d, ?_, by show 2 ≤ 1000; decide, ?_⟩
  · show dats _ = _
    rw [ex_map, dats_dat]
  · show k (.dat (.tup [x.d, .lst (T.toDs ((L.map Ex.d).reverse.map .dat))])) []
    rw [toDs_dat, ← List.map_reverse]
    rw [n1, List.nil_append] at h
    rw [n2] at h2
    rw [← h, ← h2]
    exact hk
theorem spec_un (e : Ex) (he : (ops e).length ≤ 1000) (k : T → Roots → Prop) (kx : Exn → Roots → Prop) (hk : k (.dat (.tup [(fst e).d, .lst ((ops e).map Ex.d)])) []) : cUnrolled [.dat e.d] [] k kx := by
  unfold cUnrolled cwOf
  refine ⟨rfl, ?_⟩
  unfold weUnrolled
  refine ⟨by show 0 ≤ 1000; decide, fun sl rt => ∃ x L, sl = [some (.dat x.d), some (.ref 0 [])] ∧ rt = [exT L] ∧ ops e = ops x ++ L.reverse ∧ fst e = fst x ∧ ops x = [] ∧ fst x = x, ?_, ?_⟩
  · refine ⟨IUn e, ⟨_, e, [], rfl, rfl, by simp, rfl, rfl⟩, ?_⟩
    rintro m _ _ ⟨x, L, rfl, rfl, h1, h2, h3⟩
    have hL : L.length ≤ 1000 := by
      have := congrArg List.length h1
      rw [List.length_append, List.length_reverse] at this
      omega
    cases x with
    | num i => exact ⟨_, rfl, by show 2 ≤ 1000; decide, rfl, rfl, fun z => absurd z (by decide +kernel), fun _ => ⟨_, L, rfl, rfl, h1, h2, rfl, rfl⟩⟩
    | nam i => exact ⟨_, rfl, by show 2 ≤ 1000; decide, rfl, rfl, fun z => absurd z (by decide +kernel), fun _ => ⟨_, L, rfl, rfl, h1, h2, rfl, rfl⟩⟩
    | item i f => exact ⟨_, rfl, by show 2 ≤ 1000; decide, rfl, rfl, fun z => absurd z (by decide +kernel), fun _ => ⟨_, L, rfl, rfl, h1, h2, rfl, rfl⟩⟩
    | inv i => exact ⟨_, rfl, by show 2 ≤ 1000; decide, rfl, rfl, fun z => absurd z (by decide +kernel), fun _ => ⟨_, L, rfl, rfl, h1, h2, rfl, rfl⟩⟩
    | shift s l n =>
      refine ⟨_, rfl, by show 2 ≤ 1000; decide, rfl, rfl, fun _ => ?_, fun z => absurd z (by decide +kernel)⟩
      refine ⟨by rw [List.length_map]; omega, _, rfl, Or.inl ⟨(ops l).length, ?_, l, L ++ [.shift s l n], rfl, ?_, un_step h1 rfl, h2, rfl⟩⟩
      · rw [← h3]
        show _ < (ops l ++ _).length
        rw [List.length_append]
        exact Nat.lt_succ_self _
      · show [T.lst (_ ++ _)] = _
        rw [exT, List.map_append]
        rfl
    | op s l n =>
      refine ⟨_, rfl, by show 2 ≤ 1000; decide, rfl, rfl, fun _ => ?_, fun z => absurd z (by decide +kernel)⟩
      refine ⟨by rw [List.length_map]; omega, _, rfl, Or.inl ⟨(ops l).length, ?_, l, L ++ [.op s l n], rfl, ?_, un_step h1 rfl, h2, rfl⟩⟩
      · rw [← h3]
        show _ < (ops l ++ _).length
        rw [List.length_append]
        exact Nat.lt_succ_self _
      · show [T.lst (_ ++ _)] = _
        rw [exT, List.map_append]
        rfl
  · rintro _ _ ⟨x, L, rfl, rfl, h1, h2, h3, h4⟩
    exact un_ret h1 h2 h3 h4 k hk
end K41
end

section
set_option linter.all false
set_option maxRecDepth 100000
set_option maxHeartbeats 1000000
set_option pp.deepTerms false
namespace K41
open PySem L2 Evl Wv
/-! ### the program's texts of expressions, at last -/
theorem ok_mono : ∀ (e : Ex) (m : Nat), e.ok m → e.ok (m + 1)
  | .num _, _, h => by unfold Ex.ok at h ⊢; exact h
  | .nam _, _, h => by unfold Ex.ok at h ⊢; exact h
  | .item _ e, _, h => by
    obtain ⟨n, rfl, h1, h2⟩ := h
    exact ⟨n + 1, rfl, h1, ok_mono e n h2⟩
  | .inv e, _, h => by
    obtain ⟨n, rfl, h2⟩ := h
    exact ⟨n + 1, rfl, ok_mono e n h2⟩
  | .shift _ e _, _, h => by
    obtain ⟨n, rfl, h1, h2, h3⟩ := h
    exact ⟨n + 1, rfl, h1, h2, ok_mono e n h3⟩
  | .op _ e f, _, h => by
    obtain ⟨n, rfl, h1, h2, h3⟩ := h
    exact ⟨n + 1, rfl, h1, ok_mono e n h2, ok_mono f n h3⟩
theorem sh_l (s : Str) (e : Ex) (n : Int) : (showE e).length ≤ (showE (.shift s e n)).length := by
  show _ ≤ ("(" ++ showE e ++ " " ++ s ++ " " ++ txI n ++ ")").length
  simp only [strLen_append]
  omega
theorem op_l (s : Str) (e f : Ex) : (showE e).length ≤ (showE (.op s e f)).length := by
  show _ ≤ ("(" ++ showE e ++ " " ++ s ++ " " ++ showE f ++ ")").length
  simp only [strLen_append]
  omega
theorem fst_ok : ∀ (e : Ex) (m : Nat), e.ok m → (fst e).ok m ∧ (showE (fst e)).length ≤ (showE e).length ∧ ops (fst e) = [] ∧ fst (fst e) = fst e
  | .num _, _, h => ⟨h, Nat.le_refl _, rfl, rfl⟩
  | .nam _, _, h => ⟨h, Nat.le_refl _, rfl, rfl⟩
  | .item _ e, _, h => ⟨h, Nat.le_refl _, rfl, rfl⟩
  | .inv e, _, h => ⟨h, Nat.le_refl _, rfl, rfl⟩
  | .shift s e x, _, h => by
    obtain ⟨n, rfl, h1, h2, h3⟩ := h
    obtain ⟨a, b, c, d⟩ := fst_ok e n h3
    exact ⟨ok_mono _ _ a, Nat.le_trans b (sh_l s e x), c, d⟩
  | .op s e f, _, h => by
    obtain ⟨n, rfl, h1, h2, h3⟩ := h
    obtain ⟨a, b, c, d⟩ := fst_ok e n h2
    exact ⟨ok_mono _ _ a, Nat.le_trans b (op_l s e f), c, d⟩
/-- what the first i operations make -/
def topE (e : Ex) (i : Nat) : Ex := ((ops e).take i).getLast?.getD (fst e)
theorem self_top : ∀ (e : Ex), e = (ops e).getLast?.getD (fst e)
  | .num _ => rfl
  | .nam _ => rfl
  | .item _ _ => rfl
  | .inv _ => rfl
  | .shift s e x => by
    show _ = (ops e ++ _).getLast?.getD _
    rw [List.getLast?_append]
    rfl
  | .op s e f => by
    show _ = (ops e ++ _).getLast?.getD _
    rw [List.getLast?_append]
    rfl
/-- the i-th operation -/
structure OpAt (e : Ex) (m i : Nat) (x o : Ex) : Prop where
  ops : ops x = (ops e).take i
  fst : fst x = fst e
  ok : o.ok m
  len : (showE o).length ≤ (showE e).length
theorem ops_at : ∀ (e : Ex) (m i : Nat) (o : Ex), e.ok m → (ops e)[i]? = some o → (∃ s x f, o = .op s x f ∧ OpAt e m i x o) ∨ ∃ s x n, o = .shift s x n ∧ OpAt e m i x o
  | .num _, _, _, _, _, hi => (nomatch hi)
  | .nam _, _, _, _, _, hi => (nomatch hi)
  | .item _ _, _, _, _, _, hi => (nomatch hi)
  | .inv _, _, _, _, _, hi => (nomatch hi)
  | .shift s e x, m, i, o, h, hi => by
    obtain ⟨n, rfl, h1, h2, h3⟩ := id h
    have hi : (ops e ++ [Ex.shift s e x])[i]? = some o := hi
    by_cases hl : i < (ops e).length
    · rw [List.getElem?_append_left hl] at hi
      have tk : (ops (.shift s e x)).take i = (ops e).take i := by
        show (ops e ++ [Ex.shift s e x]).take i = _
        rw [List.take_append_of_le_length (Nat.le_of_lt hl)]
      rcases ops_at e n i o h3 hi with ⟨s', x', f, e1, w⟩ | ⟨s', x', f, e1, w⟩
      · exact Or.inl ⟨s', x', f, e1, w.ops.trans tk.symm, w.fst, ok_mono _ _ w.ok, Nat.le_trans w.len (sh_l s e x)⟩
      · exact Or.inr ⟨s', x', f, e1, w.ops.trans tk.symm, w.fst, ok_mono _ _ w.ok, Nat.le_trans w.len (sh_l s e x)⟩
    · have hl2 : i < (ops e ++ [Ex.shift s e x]).length := (List.getElem?_eq_some_iff.mp hi).1
      rw [List.length_append, List.length_singleton] at hl2
      have : i = (ops e).length := by omega
      subst this
      rw [List.getElem?_append_right (Nat.le_refl _), Nat.sub_self] at hi
      cases hi
      refine Or.inr ⟨s, e, x, rfl, ?_, rfl, h, Nat.le_refl _⟩
      show _ = (ops e ++ [Ex.shift s e x]).take _
      rw [List.take_left]
  | .op s e f, m, i, o, h, hi => by
    obtain ⟨n, rfl, h1, h2, h3⟩ := id h
    have hi : (ops e ++ [Ex.op s e f])[i]? = some o := hi
    by_cases hl : i < (ops e).length
    · rw [List.getElem?_append_left hl] at hi
      have tk : (ops (.op s e f)).take i = (ops e).take i := by
        show (ops e ++ [Ex.op s e f]).take i = _
        rw [List.take_append_of_le_length (Nat.le_of_lt hl)]
      rcases ops_at e n i o h2 hi with ⟨s', x', f', e1, w⟩ | ⟨s', x', f', e1, w⟩
      · exact Or.inl ⟨s', x', f', e1, w.ops.trans tk.symm, w.fst, ok_mono _ _ w.ok, Nat.le_trans w.len (op_l s e f)⟩
      · exact Or.inr ⟨s', x', f', e1, w.ops.trans tk.symm, w.fst, ok_mono _ _ w.ok, Nat.le_trans w.len (op_l s e f)⟩
    · have hl2 : i < (ops e ++ [Ex.op s e f]).length := (List.getElem?_eq_some_iff.mp hi).1
      rw [List.length_append, List.length_singleton] at hl2
      have : i = (ops e).length := by omega
      subst this
      rw [List.getElem?_append_right (Nat.le_refl _), Nat.sub_self] at hi
      cases hi
      refine Or.inl ⟨s, e, f, rfl, ?_, rfl, h, Nat.le_refl _⟩
      show _ = (ops e ++ [Ex.op s e f]).take _
      rw [List.take_left]
theorem top_lo {e x o : Ex} {m i : Nat} (w : OpAt e m i x o) : topE e i = x := by
  unfold topE
  rw [← w.ops, ← w.fst]
  exact (self_top x).symm
theorem top_hi {e o : Ex} {i : Nat} (hi : (ops e)[i]? = some o) : topE e (i + 1) = o := by
  unfold topE
  rw [List.take_succ, hi, List.getLast?_append]
  rfl
theorem top_end (e : Ex) : topE e (ops e).length = e := by
  unfold topE
  rw [List.take_length]
  exact (self_top e).symm
def PSh (m : Nat) : Prop := ∀ (e : Ex) (q : Nat), e.ok m → 2 * m + 2 ≤ q → (showE e).length ≤ sizeLine → ∀ (k : T → Roots → Prop) (kx : Exn → Roots → Prop), k (.dat (.str (showE e))) [] → rcSh q 1 [.dat e.d] [] k kx
def PSf (m : Nat) : Prop := ∀ (e : Ex) (q : Nat), e.ok m → ops e = [] → 2 * m + 1 ≤ q → (showE e).length ≤ sizeLine → ∀ (k : T → Roots → Prop) (kx : Exn → Roots → Prop), k (.dat (.str (showE e))) [] → rcSh q 0 [.dat e.d] [] k kx
theorem sf_of {m : Nat} (ih : ∀ m', m = m' + 1 → PSh m') : PSf m := by
  intro e q h ho hq hs k kx hk
  obtain ⟨q, rfl⟩ : ∃ q', q = q' + 1 := ⟨q - 1, by omega⟩
  rw [rcSh_0]
  unfold cwOf weShownFirst
  cases e with
  | num i =>
    unfold Ex.ok at h
    exact ⟨rfl, _, rfl, fun _ => ⟨_, rfl, lg_int h.1 h.2, hk⟩, fun z => absurd z (by decide +kernel)⟩
  | nam s => exact ⟨rfl, _, rfl, fun z => absurd z (by decide +kernel), fun _ => ⟨fun _ => ⟨_, rfl, hk⟩, fun z => absurd z (by decide +kernel)⟩⟩
  | item s e =>
    obtain ⟨n, rfl, h1, h2⟩ := h
    refine ⟨rfl, _, rfl, fun z => absurd z (by decide +kernel), fun _ => ⟨fun z => absurd z (by decide +kernel), fun _ => ⟨fun z => absurd z (by decide +kernel), fun _ => ?_⟩⟩⟩
    exact ⟨_, rfl, ap (apl (apl hs)), _, rfl, rfl, ih n rfl e q h2 (by omega) (apr (apl hs)) _ _ ⟨ap (apl hs), ap hs, hk⟩⟩
  | inv e =>
    obtain ⟨n, rfl, h2⟩ := h
    refine ⟨rfl, _, rfl, fun z => absurd z (by decide +kernel), fun _ => ⟨fun z => absurd z (by decide +kernel), fun _ => ⟨fun _ => ?_, fun z => absurd z (by decide +kernel)⟩⟩⟩
    exact ⟨_, rfl, rfl, ih n rfl e q h2 (by omega) (apr hs) _ _ ⟨ap hs, hk⟩⟩
  | shift s l n =>
    have : (ops l ++ [Ex.shift s l n]) = [] := ho
    simp at this
  | op s l f =>
    have : (ops l ++ [Ex.op s l f]) = [] := ho
    simp at this
abbrev sSh (e : Ex) (t : Str) (a b : Option Val) : Slots := [some (.dat e.d), some (.dat (fst e).d), some (.dat (.lst ((ops e).map Ex.d))), some (.dat (.str t)), a, b]
theorem sh_of {m : Nat} (hm : m ≤ 1000) (ih : ∀ m', m = m' + 1 → PSh m') : PSh m := by
  intro e q h hq hs k kx hk
  obtain ⟨q, rfl⟩ : ∃ q', q = q' + 1 := ⟨q - 1, by omega⟩
  have hol : (ops e).length ≤ 1000 := by
    have := ops_len e m h
    omega
  obtain ⟨f1, f2, f3, f4⟩ := fst_ok e m h
  rw [rcSh_1]
  unfold cwOf weShown
  refine ⟨rfl, rfl, spec_un e hol _ _ ⟨rfl, rfl, sf_of ih (fst e) q f1 f3 (by omega) (by omega) _ _ ?_⟩⟩
  refine ⟨fun sl rt => ∃ a b, sl = sSh e (showE e) a b ∧ rt = [], ?_, ?_⟩
  · refine ⟨fun i sl rt => ∃ a b, sl = sSh e (showE (topE e i)) a b ∧ rt = [], ⟨none, none, rfl, rfl⟩, ?_, ?_⟩
    · rintro i d sl' rt' hd ⟨a, b, hsl, rfl⟩
      rw [List.getElem?_map, Option.map_eq_some_iff] at hd
      obtain ⟨o, ho, rfl⟩ := hd
      have t2 := top_hi ho
      rcases ops_at e m i o h ho with ⟨s, x, f, rfl, w⟩ | ⟨s, x, n, rfl, w⟩
      · rw [top_lo w] at hsl
        subst hsl
        obtain ⟨m', rfl, h1, h2, h3⟩ := w.ok
        have g0 : ("(" ++ showE x ++ " " ++ s ++ " " ++ showE f ++ ")").length ≤ sizeLine := Nat.le_trans w.len hs
        have g1 := apl g0
        have g2 := apl g1
        have g3 := apl g2
        have g4 := apl g3
        have g5 := apl g4
        refine ⟨fun sl rt => sl = sSh e (showE x) (some (.dat (Ex.op s x f).d)) (some (.dat (.str (showE f)))) ∧ rt = [], ?_, ?_⟩
        · exact ⟨_, rfl, fun z => absurd z (by decide +kernel), fun _ => ⟨_, rfl, rfl, ih m' rfl f q h3 (by omega) (apr g1) _ _ ⟨rfl, rfl⟩⟩⟩
        · rintro _ _ ⟨rfl, rfl⟩
          refine ⟨ap g5, ap g4, _, rfl, ap g3, ap g2, ap g1, ap g0, Or.inl ?_⟩
          show ∃ a b, _ = sSh e (showE (topE e (i + 1))) a b ∧ _
          rw [t2]
          exact ⟨_, _, rfl, rfl⟩
      · rw [top_lo w] at hsl
        subst hsl
        obtain ⟨m', rfl, h1, h2, h3⟩ := w.ok
        have g0 : ("(" ++ showE x ++ " " ++ s ++ " " ++ txI n ++ ")").length ≤ sizeLine := Nat.le_trans w.len hs
        have g1 := apl g0
        have g2 := apl g1
        have g3 := apl g2
        have g4 := apl g3
        have g5 := apl g4
        refine ⟨fun sl rt => sl = sSh e (showE x) (some (.dat (Ex.shift s x n).d)) (some (.dat (.str (txI n)))) ∧ rt = [], ?_, ?_⟩
        · exact ⟨_, rfl, fun _ => ⟨_, rfl, lg_int h2.1 h2.2, rfl, rfl⟩, fun z => absurd z (by decide +kernel)⟩
        · rintro _ _ ⟨rfl, rfl⟩
          refine ⟨ap g5, ap g4, _, rfl, ap g3, ap g2, ap g1, ap g0, Or.inl ?_⟩
          show ∃ a b, _ = sSh e (showE (topE e (i + 1))) a b ∧ _
          rw [t2]
          exact ⟨_, _, rfl, rfl⟩
    · rintro _ _ ⟨a, b, rfl, rfl⟩
      rw [List.length_map, top_end]
      exact ⟨a, b, rfl, rfl⟩
  · rintro _ _ ⟨a, b, rfl, rfl⟩
    exact hk
theorem spec_sh : ∀ m, m ≤ 1000 → PSh m
  | 0, hm => sh_of hm fun _ z => (nomatch z)
  | m + 1, hm => sh_of hm fun _ z => by cases z; exact spec_sh m (by omega)
end K41
end

section
set_option linter.all false
set_option maxRecDepth 100000
set_option maxHeartbeats 1000000
set_option pp.deepTerms false
namespace K41
open PySem L2 Evl Wv
/-! ### declarations and statements as lines -/
def wordsT (ws : List Int) : Str := Txt.join ", " (ws.map txI)
def showN : Nm → Str
  | .var s i => "var " ++ s ++ " = " ++ txI i
  | .page s a n => "page " ++ s ++ " " ++ txI a ++ " " ++ txI n
  | .tab s n ws => if 0 < ws.length then "table " ++ s ++ " " ++ txI n ++ (" = " ++ wordsT ws) else "table " ++ s ++ " " ++ txI n
theorem js0 (x : Str) : Str.empty ++ x = x := Str.empty_append x
theorem strE : ("" : Str) = Str.empty := rfl
theorem ape (x : Str) : x ++ "" = x := Str.append_empty x
theorem epa (x : Str) : "" ++ x = x := Str.empty_append x
theorem asc (x y z : Str) : x ++ y ++ z = x ++ (y ++ z) := Str.append_assoc x y z
theorem lit_len (s : String) (n : Nat) (h : s.toList.length = n := by rfl) : (Str.ofString s).length = n := by
  rw [ofString_length]
  rw [← h]
  rfl
theorem txI_len {i : Int} (h : W5 i) : (txI i).length ≤ 6 := tx_int h.1 h.2
theorem sum_len : ∀ (ys : List Str) (b : Nat), (∀ y ∈ ys, y.length ≤ b) → (ys.map (·.length)).sum ≤ ys.length * b
  | [], b, _ => Nat.zero_le _
  | y :: ys, b, h => by
    have h1 := h y (List.mem_cons_self ..)
    have h2 := sum_len ys b fun x hx => h x (List.mem_cons_of_mem _ hx)
    rw [List.map_cons, List.sum_cons, List.length_cons, Nat.add_mul, Nat.one_mul]
    omega
theorem words_len {ws : List Int} (hl : ws.length ≤ 8) (h : ∀ x ∈ ws, W5 x) : (wordsT ws).length ≤ 64 := by
  have h1 := sum_len (ws.map txI) 6 fun y hy => by
    obtain ⟨x, hx, rfl⟩ := List.mem_map.mp hy
    exact txI_len (h x hx)
  have h2 := StrLaws.join_length_le ", " (ws.map txI)
  rw [← StrLaws.glued_eq_join] at h2
  rw [List.length_map] at h1 h2
  rw [show (", " : Str).length = 2 from rfl] at h2
  show (Builtin.Str.glued _ _).length ≤ _
  omega
theorem showN1 {s : Str} {n : Int} {ws : List Int} (hw : 0 < ws.length) : showN (.tab s n ws) = "table " ++ s ++ " " ++ txI n ++ (" = " ++ wordsT ws) := if_pos hw
theorem showN0 {s : Str} {n : Int} {ws : List Int} (hw : ¬ 0 < ws.length) : showN (.tab s n ws) = "table " ++ s ++ " " ++ txI n := if_neg hw
theorem showN_len {n : Nm} (h : n.ok) : (showN n).length ≤ 120 := by
  cases n with
  | var s i =>
    obtain ⟨⟨h1, _⟩, h2⟩ := h
    have := txI_len h2
    simp only [showN, strLen_append, show ("var " : Str).length = 4 from rfl, show (" = " : Str).length = 3 from rfl]
    omega
  | page s a n =>
    obtain ⟨⟨h1, _⟩, h2, h3⟩ := h
    have := txI_len h2
    have := txI_len h3
    simp only [showN, strLen_append, show ("page " : Str).length = 5 from rfl, show (" " : Str).length = 1 from rfl]
    omega
  | tab s n ws =>
    obtain ⟨⟨h1, _⟩, h2, h3, h4⟩ := h
    have := txI_len h2
    have := words_len h3 h4
    by_cases hw : 0 < ws.length
    · rw [showN1 hw]
      simp only [strLen_append, show ("table " : Str).length = 6 from rfl, show (" " : Str).length = 1 from rfl, show (" = " : Str).length = 3 from rfl]
      omega
    · rw [showN0 hw]
      simp only [strLen_append, show ("table " : Str).length = 6 from rfl, show (" " : Str).length = 1 from rfl]
      omega
theorem toDs_map {α : Type} (f : α → D) : ∀ (L : List α), T.toDs (L.map fun x => .dat (f x)) = L.map f
  | [] => rfl
  | x :: L => by
    show f x :: T.toDs (L.map fun x => .dat (f x)) = _
    rw [toDs_map f L]
    rfl
/-- a comprehension that changes nothing -/
def lcI {α : Type} (L : List α) (f : α → D) (rt0 : Roots) : Nat → List T → Roots → Prop := fun i acc rt => acc = (L.take i).map (fun x => T.dat (f x)) ∧ rt = rt0
theorem lc_at {α : Type} {L : List α} {p : α → D} {i : Nat} {d : D} (h : (L.map p)[i]? = some d) : ∃ x, L[i]? = some x ∧ d = p x ∧ x ∈ L ∧ i < L.length := by
  rw [List.getElem?_map, Option.map_eq_some_iff] at h
  obtain ⟨x, hx, rfl⟩ := h
  exact ⟨x, hx, rfl, List.mem_of_getElem? hx, (List.getElem?_eq_some_iff.mp hx).1⟩
theorem lc_len {α β : Type} {L : List α} {g : α → β} {i : Nat} (h : i < L.length) (hl : L.length ≤ 40000) : ((L.take i).map g).length < 40000 := by
  rw [List.length_map, List.length_take]
  omega
theorem lc_step {α : Type} {L : List α} {f : α → D} {rt0 : Roots} {i : Nat} {x : α} (hx : L[i]? = some x) : lcI L f rt0 (i + 1) ((L.take i).map (fun x => T.dat (f x)) ++ [.dat (f x)]) rt0 := by
  refine ⟨?_, rfl⟩
  rw [List.take_succ, hx, List.map_append]
  rfl
theorem lc_all {α β γ : Type} (L : List α) (p : α → γ) (g : α → β) : (L.take (L.map p).length).map g = L.map g := by
  rw [List.length_map, List.take_length]
theorem szN {n : Nm} (h : n.ok) : (showN n).length ≤ sizeLine := by
  have := showN_len h
  have := sl_eq
  omega
theorem words_sum {ws : List Int} (hl : ws.length ≤ 8) (hw : ∀ x ∈ ws, W5 x) : ((ws.map txI).map (·.length)).sum + (ws.map txI).length * (", " : Str).length ≤ 16777216 := by
  have := sum_len (ws.map txI) 6 fun y hy => by
    obtain ⟨x, hx, rfl⟩ := List.mem_map.mp hy
    exact txI_len (hw x hx)
  rw [List.length_map] at this ⊢
  rw [show (", " : Str).length = 2 from rfl]
  omega
theorem strs_words (ws : List Int) : ws.map (fun i => D.str (txI i)) = (ws.map txI).map D.str := by simp
theorem spec_sn (n : Nm) (h : n.ok) (k : T → Roots → Prop) (kx : Exn → Roots → Prop) (hk : k (.dat (.str (showN n))) []) : cShownName [.dat n.d] [] k kx := by
  have hs := szN h
  unfold cShownName cwOf weShownName
  refine ⟨rfl, ?_⟩
  cases n with
  | var s i =>
    obtain ⟨h1, h2⟩ := h
    have g0 : ("var " ++ s ++ " = " ++ txI i).length ≤ sizeLine := hs
    have g1 := apl g0
    have g2 := apl g1
    have g3 := apl g2
    refine ⟨_, rfl, fun z => absurd z (by decide +kernel), fun _ => ⟨_, rfl, fun z => absurd z (by decide +kernel), fun _ => ⟨rfl, ?_⟩⟩⟩
    refine ⟨by simp only [js0]; exact g3, apr g2, by simp only [js0]; exact g2, by simp only [js0]; exact g1, lg_int h2.1 h2.2, by simp only [js0]; exact g0, ?_⟩
    simp only [js0]
    exact hk
  | page s a n =>
    obtain ⟨h1, h2, h3⟩ := h
    have g0 : ("page " ++ s ++ " " ++ txI a ++ " " ++ txI n).length ≤ sizeLine := hs
    have g1 := apl g0
    have g2 := apl g1
    have g3 := apl g2
    have g4 := apl g3
    have g5 := apl g4
    refine ⟨_, rfl, fun z => absurd z (by decide +kernel), fun _ => ⟨_, rfl, fun _ => ⟨rfl, ?_⟩, fun z => absurd z (by decide +kernel)⟩⟩
    refine ⟨by simp only [js0]; exact g5, apr g4, by simp only [js0]; exact g4, by simp only [js0]; exact g3, lg_int h2.1 h2.2, by simp only [js0]; exact g2, by simp only [js0]; exact g1, lg_int h3.1 h3.2, by simp only [js0]; exact g0, ?_⟩
    simp only [js0]
    exact hk
  | tab s n ws =>
    obtain ⟨⟨h1, _⟩, h2, h3, h4⟩ := h
    have g1 : ("table " ++ s ++ " " ++ txI n).length ≤ sizeLine := by
      have := txI_len h2
      have := sl_eq
      simp only [strLen_append, show ("table " : Str).length = 6 from rfl, show (" " : Str).length = 1 from rfl]
      omega
    have g2 := apl g1
    have g3 := apl g2
    have g4 := apl g3
    refine ⟨_, rfl, fun _ => ⟨rfl, ?_⟩, fun z => absurd z (by decide +kernel)⟩
    refine ⟨by simp only [js0]; exact g4, apr g3, by simp only [js0]; exact g3, by simp only [js0]; exact g2, lg_int h2.1 h2.2, by simp only [js0]; exact g1, ?_⟩
    simp only [js0]
    refine ⟨fun sl rt => ∃ a b, sl = [some (.dat (Nm.tab s n ws).d), some (.dat (.str "table")), some (.dat (.str s)), some (.dat (.int n)), some (.dat (.tup (dints ws))), some (.dat (.str (showN (.tab s n ws)))), a, b] ∧ rt = [], ?_, ?_⟩
    · by_cases hw : 0 < ws.length
      · have e := showN1 (s := s) (n := n) hw
        rw [e] at hs ⊢
        refine ⟨fun _ => ?_, fun z => ?_⟩
        · refine ⟨lcI ws (fun i => D.str (txI i)) [], ⟨rfl, rfl⟩, ?_, ?_⟩
          · rintro i d _ _ hd ⟨rfl, rfl⟩
            obtain ⟨x, hx, rfl, hm, hi⟩ := lc_at hd
            exact ⟨lc_len hi (by omega), fun _ => ⟨lg_int (h4 x hm).1 (h4 x hm).2, lc_step hx⟩, fun z => (nomatch z)⟩
          rintro _ _ ⟨rfl, rfl⟩
          rw [dints, lc_all]
          refine ⟨ws.map txI, ?_, words_sum h3 h4, ap (apr hs), ap hs, _, _, rfl, rfl⟩
          show some (T.toDs _) = _
          rw [toDs_map, strs_words]
        · have z : decide ((0 : Int) < ((dints ws).length : Int)) = false := z
          have := of_decide_eq_false z
          rw [dints, List.length_map] at this
          omega
      · have e := showN0 (s := s) (n := n) hw
        rw [e]
        refine ⟨fun z => ?_, fun _ => ⟨_, _, rfl, rfl⟩⟩
        have z : decide ((0 : Int) < ((dints ws).length : Int)) = true := z
        have := of_decide_eq_true z
        rw [dints, List.length_map] at this
        omega
    · rintro _ _ ⟨a, b, rfl, rfl⟩
      exact hk
theorem spec_ld (n : Nm) (h : n.ok) (k : T → Roots → Prop) (kx : Exn → Roots → Prop) (hk : k (.dat (.str (showN n))) []) : cLawDeclared [.dat n.d] [] k kx := by
  have hs := szN h
  unfold cLawDeclared cwOf weLawDeclared
  refine ⟨rfl, ?_⟩
  cases n with
  | var s i =>
    obtain ⟨h1, h2⟩ := h
    have g0 : ("var " ++ s ++ " = " ++ txI i).length ≤ sizeLine := hs
    have g1 := apl g0
    have g2 := apl g1
    exact ⟨_, rfl, fun _ => ⟨_, rfl, ap g2, ap g1, _, rfl, lg_int h2.1 h2.2, ap g0, hk⟩, fun z => absurd z (by decide +kernel)⟩
  | page s a n =>
    obtain ⟨h1, h2, h3⟩ := h
    have g0 : ("page " ++ s ++ " " ++ txI a ++ " " ++ txI n).length ≤ sizeLine := hs
    have g1 := apl g0
    have g2 := apl g1
    have g3 := apl g2
    have g4 := apl g3
    exact ⟨_, rfl, fun z => absurd z (by decide +kernel), fun _ => ⟨_, rfl, fun _ => ⟨_, rfl, ap g4, ap g3, _, rfl, lg_int h2.1 h2.2, ap g2, ap g1, _, rfl, lg_int h3.1 h3.2, ap g0, hk⟩, fun z => absurd z (by decide +kernel)⟩⟩
  | tab s n ws =>
    obtain ⟨⟨h1, _⟩, h2, h3, h4⟩ := h
    have g1 : ("table " ++ s ++ " " ++ txI n).length ≤ sizeLine := by
      have := txI_len h2
      have := sl_eq
      simp only [strLen_append, show ("table " : Str).length = 6 from rfl, show (" " : Str).length = 1 from rfl]
      omega
    have g2 := apl g1
    have g3 := apl g2
    have gw : (" = " ++ wordsT ws).length ≤ sizeLine := by
      have := words_len h3 h4
      have := sl_eq
      simp only [strLen_append, show (" = " : Str).length = 3 from rfl]
      omega
    refine ⟨_, rfl, fun z => absurd z (by decide +kernel), fun _ => ⟨_, rfl, fun z => absurd z (by decide +kernel), fun _ => ?_⟩⟩
    refine ⟨_, rfl, ?_⟩
    refine ⟨lcI ws (fun i => D.str (txI i)) [], ⟨rfl, rfl⟩, ?_, ?_⟩
    · rintro i d _ _ hd ⟨rfl, rfl⟩
      obtain ⟨x, hx, rfl, hm, hi⟩ := lc_at hd
      exact ⟨lc_len hi (by omega), fun _ => ⟨lg_int (h4 x hm).1 (h4 x hm).2, lc_step hx⟩, fun z => (nomatch z)⟩
    rintro _ _ ⟨rfl, rfl⟩
    rw [dints, lc_all]
    refine ⟨ws.map txI, ?_, words_sum h3 h4, ?_⟩
    · show some (T.toDs _) = _
      rw [toDs_map, strs_words]
    refine ⟨_, rfl, ap g3, ap g2, _, rfl, lg_int h2.1 h2.2, ap g1, ap gw, by show 2 ≤ 1000; decide, _, rfl, ?_⟩
    by_cases hw : 0 < ws.length
    · have e := showN1 (s := s) (n := n) hw
      rw [e] at hs hk
      have z : decide ((0 : Int) < ((dints ws).length : Int)) = true := decide_eq_true (by
        rw [dints, List.length_map]
        omega)
      refine ⟨.str (" = " ++ wordsT ws), ?_, ap hs, hk⟩
      show atI _ (if decide ((0 : Int) < ((dints ws).length : Int)) = true then 1 else 0) = _
      rw [z]
      rfl
    · have e := showN0 (s := s) (n := n) hw
      rw [e] at hk
      have z : decide ((0 : Int) < ((dints ws).length : Int)) = false := decide_eq_false (by
        rw [dints, List.length_map]
        omega)
      refine ⟨.str "", ?_, ap (by rw [ape]; exact g1), ?_⟩
      · show atI _ (if decide ((0 : Int) < ((dints ws).length : Int)) = true then 1 else 0) = _
        rw [z]
        rfl
      · show k (.dat (.str (_ ++ ""))) []
        rw [ape]
        exact hk
end K41
end

section
set_option linter.all false
set_option maxRecDepth 100000
set_option maxHeartbeats 1000000
set_option pp.deepTerms false
namespace K41
open PySem L2 Evl Wv
/-! ### lines of statements -/
def plainS : St → Str
  | .set s e => s ++ " := " ++ showE e
  | .put s e f => s ++ "[" ++ showE e ++ "] := " ++ showE f
  | .send c e s => if s = "" then "send " ++ txI c ++ ", " ++ showE e else "send " ++ txI c ++ ", " ++ showE e ++ (" into " ++ s)
  | .recv c s t => "receive " ++ txI c ++ " into " ++ s ++ ", " ++ t
  | .frame s => "frame into " ++ s
  | .rest => "rest"
  | .stop => "stop"
  | .iff _ _ _ => ""
  | .whi _ _ => ""
def blockS : St → Bool
  | .iff _ _ _ => true
  | .whi _ _ => true
  | _ => false
theorem send0 {c : Int} {e : Ex} {s : Str} (h : s = "") : plainS (.send c e s) = "send " ++ txI c ++ ", " ++ showE e := if_pos h
theorem send1 {c : Int} {e : Ex} {s : Str} (h : ¬ s = "") : plainS (.send c e s) = "send " ++ txI c ++ ", " ++ showE e ++ (" into " ++ s) := if_neg h
abbrev sElse : Str := "} else {"
abbrev sEnd : Str := "}"
def fin (l : Str) : Str := "  " ++ l
mutual
def St.ls : St → List Str
  | .set s e => [plainS (.set s e)]
  | .put s e f => [plainS (.put s e f)]
  | .send c e s => [plainS (.send c e s)]
  | .recv c s t => [plainS (.recv c s t)]
  | .frame s => [plainS (.frame s)]
  | .rest => [plainS .rest]
  | .stop => [plainS .stop]
  | .iff e a b => (("if" : Str) ++ " " ++ showE e ++ " {") :: a.ls.map fin ++ (if 0 < b.len then sElse :: b.ls.map fin else []) ++ [sEnd]
  | .whi e a => (("while" : Str) ++ " " ++ showE e ++ " {") :: a.ls.map fin ++ [sEnd]
def Sts.ls : Sts → List Str
  | .nil => []
  | .cons s r => s.ls ++ r.ls
end
def Sts.toL : Sts → List St
  | .nil => []
  | .cons s r => s :: r.toL
theorem ds_toL : ∀ b : Sts, b.ds = b.toL.map St.d
  | .nil => rfl
  | .cons s r => by
    show s.d :: r.ds = _
    rw [ds_toL r]
    rfl
theorem len_toL : ∀ b : Sts, b.toL.length = b.len
  | .nil => rfl
  | .cons s r => by
    show r.toL.length + 1 = _
    rw [len_toL r]
    rfl
theorem ls_toL : ∀ b : Sts, b.ls = (b.toL.map St.ls).flatten
  | .nil => rfl
  | .cons s r => by
    show s.ls ++ r.ls = _
    rw [ls_toL r]
    rfl
theorem ok_toL : ∀ {b : Sts} {m : Nat}, b.ok m → ∀ s ∈ b.toL, s.ok m
  | .nil, _, _, _, h => (nomatch h)
  | .cons t r, m, h, s, hs => by
    rcases List.mem_cons.mp hs with rfl | h2
    · exact h.1
    · exact ok_toL h.2 s h2
theorem showE_len : ∀ (e : Ex) (m : Nat), e.ok m → (showE e).length ≤ 20 * 3 ^ m
  | .num i, m, h => by
    unfold Ex.ok at h
    have := txI_len h
    have : 1 ≤ 3 ^ m := Nat.one_le_pow _ _ (by decide)
    show (txI i).length ≤ _
    omega
  | .nam s, m, h => by
    unfold Ex.ok at h
    have h : s.length ≤ 20 := h.1
    have : 1 ≤ 3 ^ m := Nat.one_le_pow _ _ (by decide)
    show s.length ≤ _
    omega
  | .item s e, _, h => by
    obtain ⟨n, rfl, h1, h2⟩ := h
    have h1 : s.length ≤ 20 := h1.1
    have := showE_len e n h2
    have : 1 ≤ 3 ^ n := Nat.one_le_pow _ _ (by decide)
    show (s ++ "[" ++ showE e ++ "]").length ≤ _
    rw [Nat.pow_succ]
    simp only [strLen_append, show ("[" : Str).length = 1 from rfl, show ("]" : Str).length = 1 from rfl]
    omega
  | .inv e, _, h => by
    obtain ⟨n, rfl, h2⟩ := h
    have := showE_len e n h2
    have : 1 ≤ 3 ^ n := Nat.one_le_pow _ _ (by decide)
    show ("~" ++ showE e).length ≤ _
    rw [Nat.pow_succ]
    simp only [strLen_append, show ("~" : Str).length = 1 from rfl]
    omega
  | .shift s e x, _, h => by
    obtain ⟨n, rfl, ⟨h1, _⟩, h3, h2⟩ := h
    have := showE_len e n h2
    have := txI_len h3
    have : 1 ≤ 3 ^ n := Nat.one_le_pow _ _ (by decide)
    show ("(" ++ showE e ++ " " ++ s ++ " " ++ txI x ++ ")").length ≤ _
    rw [Nat.pow_succ]
    simp only [strLen_append, show ("(" : Str).length = 1 from rfl, show (")" : Str).length = 1 from rfl, show (" " : Str).length = 1 from rfl]
    omega
  | .op s e f, _, h => by
    obtain ⟨n, rfl, ⟨h1, _⟩, h2, h3⟩ := h
    have := showE_len e n h2
    have := showE_len f n h3
    have : 1 ≤ 3 ^ n := Nat.one_le_pow _ _ (by decide)
    show ("(" ++ showE e ++ " " ++ s ++ " " ++ showE f ++ ")").length ≤ _
    rw [Nat.pow_succ]
    simp only [strLen_append, show ("(" : Str).length = 1 from rfl, show (")" : Str).length = 1 from rfl, show (" " : Str).length = 1 from rfl]
    omega
theorem shl1 {e : Ex} (h : e.ok 1) : (showE e).length ≤ 60 := showE_len e 1 h
theorem shl2 {e : Ex} (h : e.ok 2) : (showE e).length ≤ 180 := showE_len e 2 h
theorem szb {x : Str} {n : Nat} (h : x.length ≤ n) (hn : n ≤ 16777216 := by decide) : x.length ≤ sizeLine := by
  have := sl_eq
  omega
theorem plain_len : ∀ (s : St) (m : Nat), s.ok m → (plainS s).length ≤ 300
  | .set s e, m, h => by
    obtain ⟨h1, h2⟩ : Nx s ∧ e.ok 2 := by unfold St.ok at h; exact h
    have h1 : s.length ≤ 20 := h1.1
    have := shl2 h2
    simp only [plainS, strLen_append, show (" := " : Str).length = 4 from rfl]
    omega
  | .put s e f, m, h => by
    obtain ⟨h1, h2, h3⟩ : Nx s ∧ e.ok 1 ∧ f.ok 1 := by unfold St.ok at h; exact h
    have h1 : s.length ≤ 20 := h1.1
    have := shl1 h2
    have := shl1 h3
    simp only [plainS, strLen_append, show ("[" : Str).length = 1 from rfl, show ("] := " : Str).length = 5 from rfl]
    omega
  | .send c e s, m, h => by
    obtain ⟨h0, h2, h1⟩ : W5 c ∧ e.ok 2 ∧ Nx s := by unfold St.ok at h; exact h
    have h1 : s.length ≤ 20 := h1.1
    have := shl2 h2
    have := txI_len h0
    by_cases hw : s = ""
    · rw [send0 hw]
      simp only [strLen_append, show ("send " : Str).length = 5 from rfl, show (", " : Str).length = 2 from rfl]
      omega
    · rw [send1 hw]
      simp only [strLen_append, show ("send " : Str).length = 5 from rfl, show (", " : Str).length = 2 from rfl, show (" into " : Str).length = 6 from rfl]
      omega
  | .recv c s t, m, h => by
    obtain ⟨h0, h1, h2⟩ : W5 c ∧ Nx s ∧ Nx t := by unfold St.ok at h; exact h
    have h1 : s.length ≤ 20 := h1.1
    have h2 : t.length ≤ 20 := h2.1
    have := txI_len h0
    simp only [plainS, strLen_append, show ("receive " : Str).length = 8 from rfl, show (", " : Str).length = 2 from rfl, show (" into " : Str).length = 6 from rfl]
    omega
  | .frame s, m, h => by
    have h1 : Nx s := by unfold St.ok at h; exact h
    have h1 : s.length ≤ 20 := h1.1
    simp only [plainS, strLen_append, show ("frame into " : Str).length = 11 from rfl]
    omega
  | .rest, _, _ => by show 4 ≤ 300; decide
  | .stop, _, _ => by show 4 ≤ 300; decide
  | .iff _ _ _, _, _ => by show 0 ≤ 300; decide
  | .whi _ _, _, _ => by show 0 ≤ 300; decide
theorem spec_send (c : Int) (e : Ex) (s : Str) (m : Nat) (h : (St.send c e s).ok m) (k : T → Roots → Prop) (kx : Exn → Roots → Prop) (hk : k (.dat (.str (plainS (.send c e s)))) []) : cShownSend [.dat (St.send c e s).d] [] k kx := by
  have hs := szb (plain_len _ _ h)
  obtain ⟨h0, h2, h1⟩ : W5 c ∧ e.ok 2 ∧ Nx s := by unfold St.ok at h; exact h
  have g0 : ("send " ++ txI c ++ ", " ++ showE e).length ≤ sizeLine := by
    have := txI_len h0
    have := shl2 h2
    have := sl_eq
    simp only [strLen_append, show ("send " : Str).length = 5 from rfl, show (", " : Str).length = 2 from rfl]
    omega
  have g1 := apl g0
  have g2 := apl g1
  have g3 := apl g2
  unfold cShownSend cwOf weShownSend
  refine ⟨rfl, rfl, ?_⟩
  refine ⟨by simp only [js0]; exact g3, lg_int h0.1 h0.2, by simp only [js0]; exact g2, by simp only [js0]; exact g1, ?_⟩
  simp only [js0]
  refine ⟨rfl, spec_sh 2 (by decide) e 10 h2 (by decide) (szb (shl2 h2)) _ _ ⟨ap g0, ?_⟩⟩
  refine ⟨fun sl rt => sl = [some (.dat (St.send c e s).d), some (.dat (.str "send")), some (.dat (.int c)), some (.dat e.d), some (.dat (.str s)), some (.dat (.str (plainS (.send c e s))))] ∧ rt = [], ?_, ?_⟩
  · by_cases hw : s = ""
    · have e1 := send0 (c := c) (e := e) hw
      rw [e1]
      refine ⟨fun z => ?_, fun _ => ⟨rfl, rfl⟩⟩
      have z : (!decide (s = "")) = true := z
      rw [decide_eq_true hw] at z
      cases z
    · have e1 := send1 (c := c) (e := e) hw
      rw [e1] at hs ⊢
      refine ⟨fun _ => ⟨ap (apr hs), ap hs, rfl, rfl⟩, fun z => ?_⟩
      have z : (!decide (s = "")) = false := z
      rw [decide_eq_false hw] at z
      cases z
  · rintro _ _ ⟨rfl, rfl⟩
    exact hk
theorem spec_pl (s : St) (m : Nat) (hb : blockS s = false) (h : s.ok m) (k : T → Roots → Prop) (kx : Exn → Roots → Prop) (hk : k (.dat (.str (plainS s))) []) : cShownPlain [.dat s.d] [] k kx := by
  have hs := szb (plain_len _ _ h)
  unfold cShownPlain cwOf weShownPlain
  refine ⟨rfl, ?_⟩
  cases s with
  | set s e =>
    obtain ⟨h1, h2⟩ : Nx s ∧ e.ok 2 := by unfold St.ok at h; exact h
    have g0 : (s ++ " := " ++ showE e).length ≤ sizeLine := hs
    have g1 := apl g0
    refine ⟨_, rfl, fun _ => ?_, fun z => absurd z (by decide +kernel)⟩
    exact ⟨_, rfl, ap g1, _, rfl, rfl, spec_sh 2 (by decide) e 10 h2 (by decide) (szb (shl2 h2)) _ _ ⟨ap g0, hk⟩⟩
  | put s e f =>
    obtain ⟨h1, h2, h3⟩ : Nx s ∧ e.ok 1 ∧ f.ok 1 := by unfold St.ok at h; exact h
    have g0 : (s ++ "[" ++ showE e ++ "] := " ++ showE f).length ≤ sizeLine := hs
    have g1 := apl g0
    have g2 := apl g1
    have g3 := apl g2
    refine ⟨_, rfl, fun z => absurd z (by decide +kernel), fun _ => ⟨fun _ => ?_, fun z => absurd z (by decide +kernel)⟩⟩
    exact ⟨_, rfl, ap g3, _, rfl, rfl, spec_sh 1 (by decide) e 10 h2 (by decide) (szb (shl1 h2)) _ _ ⟨ap g2, ap g1, _, rfl, rfl, spec_sh 1 (by decide) f 10 h3 (by decide) (szb (shl1 h3)) _ _ ⟨ap g0, hk⟩⟩⟩
  | send c e s =>
    refine ⟨_, rfl, fun z => absurd z (by decide +kernel), fun _ => ⟨fun z => absurd z (by decide +kernel), fun _ => ⟨fun _ => ?_, fun z => absurd z (by decide +kernel)⟩⟩⟩
    exact ⟨rfl, spec_send c e s m h _ _ hk⟩
  | recv c s t =>
    obtain ⟨h0, h1, h2⟩ : W5 c ∧ Nx s ∧ Nx t := by unfold St.ok at h; exact h
    have g0 : ("receive " ++ txI c ++ " into " ++ s ++ ", " ++ t).length ≤ sizeLine := hs
    have g1 := apl g0
    have g2 := apl g1
    have g3 := apl g2
    have g4 := apl g3
    have g5 := apl g4
    refine ⟨_, rfl, fun z => absurd z (by decide +kernel), fun _ => ⟨fun z => absurd z (by decide +kernel), fun _ => ⟨fun z => absurd z (by decide +kernel), fun _ => ⟨fun _ => ⟨rfl, ?_⟩, fun z => absurd z (by decide +kernel)⟩⟩⟩⟩
    refine ⟨by simp only [js0]; exact g5, lg_int h0.1 h0.2, by simp only [js0]; exact g4, by simp only [js0]; exact g3, apr g2, by simp only [js0]; exact g2, by simp only [js0]; exact g1, apr g0, by simp only [js0]; exact g0, ?_⟩
    simp only [js0]
    exact hk
  | frame s =>
    have g0 : ("frame into " ++ s).length ≤ sizeLine := hs
    refine ⟨_, rfl, fun z => absurd z (by decide +kernel), fun _ => ⟨fun z => absurd z (by decide +kernel), fun _ => ⟨fun z => absurd z (by decide +kernel), fun _ => ⟨fun z => absurd z (by decide +kernel), fun _ => ⟨fun _ => ?_, fun z => absurd z (by decide +kernel)⟩⟩⟩⟩⟩
    exact ⟨_, rfl, ap g0, hk⟩
  | rest => exact ⟨_, rfl, fun z => absurd z (by decide +kernel), fun _ => ⟨fun z => absurd z (by decide +kernel), fun _ => ⟨fun z => absurd z (by decide +kernel), fun _ => ⟨fun z => absurd z (by decide +kernel), fun _ => ⟨fun z => absurd z (by decide +kernel), fun _ => hk⟩⟩⟩⟩⟩
  | stop => exact ⟨_, rfl, fun z => absurd z (by decide +kernel), fun _ => ⟨fun z => absurd z (by decide +kernel), fun _ => ⟨fun z => absurd z (by decide +kernel), fun _ => ⟨fun z => absurd z (by decide +kernel), fun _ => ⟨fun z => absurd z (by decide +kernel), fun _ => hk⟩⟩⟩⟩⟩
  | iff e a b => cases hb
  | whi e a => cases hb
theorem spec_lp (s : St) (m : Nat) (hb : blockS s = false) (h : s.ok m) (k : T → Roots → Prop) (kx : Exn → Roots → Prop) (hk : k (.dat (.str (plainS s))) []) : cLawSimple [.dat s.d] [] k kx := by
  have hs := szb (plain_len _ _ h)
  unfold cLawSimple cwOf weLawSimple
  refine ⟨rfl, ?_⟩
  cases s with
  | set s e =>
    obtain ⟨h1, h2⟩ : Nx s ∧ e.ok 2 := by unfold St.ok at h; exact h
    have g0 : (s ++ " := " ++ showE e).length ≤ sizeLine := hs
    have g1 := apl g0
    refine ⟨_, rfl, fun _ => ?_, fun z => absurd z (by decide +kernel)⟩
    exact ⟨_, rfl, ap g1, _, rfl, rfl, spec_ls e 2 6 h2 (by decide) (szb (shl2 h2)) _ _ ⟨ap g0, hk⟩⟩
  | put s e f =>
    obtain ⟨h1, h2, h3⟩ : Nx s ∧ e.ok 1 ∧ f.ok 1 := by unfold St.ok at h; exact h
    have g0 : (s ++ "[" ++ showE e ++ "] := " ++ showE f).length ≤ sizeLine := hs
    have g1 := apl g0
    have g2 := apl g1
    have g3 := apl g2
    refine ⟨_, rfl, fun z => absurd z (by decide +kernel), fun _ => ⟨fun _ => ?_, fun z => absurd z (by decide +kernel)⟩⟩
    exact ⟨_, rfl, ap g3, _, rfl, rfl, spec_ls e 1 6 h2 (by decide) (szb (shl1 h2)) _ _ ⟨ap g2, ap g1, _, rfl, rfl, spec_ls f 1 6 h3 (by decide) (szb (shl1 h3)) _ _ ⟨ap g0, hk⟩⟩⟩
  | send c e s =>
    obtain ⟨h0, h2, h1⟩ : W5 c ∧ e.ok 2 ∧ Nx s := by unfold St.ok at h; exact h
    have g0 : ("send " ++ txI c ++ ", " ++ showE e).length ≤ sizeLine := by
      have := txI_len h0
      have := shl2 h2
      have := sl_eq
      simp only [strLen_append, show ("send " : Str).length = 5 from rfl, show (", " : Str).length = 2 from rfl]
      omega
    have g1 := apl g0
    have g2 := apl g1
    have gi : (" into " ++ s).length ≤ sizeLine := by
      have h1 : s.length ≤ 20 := h1.1
      have := sl_eq
      simp only [strLen_append, show (" into " : Str).length = 6 from rfl]
      omega
    refine ⟨_, rfl, fun z => absurd z (by decide +kernel), fun _ => ⟨fun z => absurd z (by decide +kernel), fun _ => ⟨fun _ => ?_, fun z => absurd z (by decide +kernel)⟩⟩⟩
    refine ⟨_, rfl, lg_int h0.1 h0.2, ap g2, ap g1, _, rfl, rfl, spec_ls e 2 6 h2 (by decide) (szb (shl2 h2)) _ _ ⟨ap g0, _, rfl, ap gi, by show 2 ≤ 1000; decide, _, rfl, ?_⟩⟩
    by_cases hw : s = ""
    · have e1 := send0 (c := c) (e := e) hw
      rw [e1] at hk
      refine ⟨.str "", ?_, ap (by rw [ape]; exact g0), ?_⟩
      · show atI _ (if (!decide (s = "")) = true then 1 else 0) = _
        rw [decide_eq_true hw]
        rfl
      · show k (.dat (.str (_ ++ ""))) []
        rw [ape]
        exact hk
    · have e1 := send1 (c := c) (e := e) hw
      rw [e1] at hs hk
      refine ⟨.str (" into " ++ s), ?_, ap hs, hk⟩
      show atI _ (if (!decide (s = "")) = true then 1 else 0) = _
      rw [decide_eq_false hw]
      rfl
  | recv c s t =>
    obtain ⟨h0, h1, h2⟩ : W5 c ∧ Nx s ∧ Nx t := by unfold St.ok at h; exact h
    have g0 : ("receive " ++ txI c ++ " into " ++ s ++ ", " ++ t).length ≤ sizeLine := hs
    have g1 := apl g0
    have g2 := apl g1
    have g3 := apl g2
    have g4 := apl g3
    refine ⟨_, rfl, fun z => absurd z (by decide +kernel), fun _ => ⟨fun z => absurd z (by decide +kernel), fun _ => ⟨fun z => absurd z (by decide +kernel), fun _ => ⟨fun _ => ?_, fun z => absurd z (by decide +kernel)⟩⟩⟩⟩
    exact ⟨_, rfl, lg_int h0.1 h0.2, ap g4, ap g3, _, rfl, ap g2, ap g1, _, rfl, ap g0, hk⟩
  | frame s =>
    have g0 : ("frame into " ++ s).length ≤ sizeLine := hs
    refine ⟨_, rfl, fun z => absurd z (by decide +kernel), fun _ => ⟨fun z => absurd z (by decide +kernel), fun _ => ⟨fun z => absurd z (by decide +kernel), fun _ => ⟨fun z => absurd z (by decide +kernel), fun _ => ⟨fun _ => ?_, fun z => absurd z (by decide +kernel)⟩⟩⟩⟩⟩
    exact ⟨_, rfl, ap g0, hk⟩
  | rest => exact ⟨_, rfl, fun z => absurd z (by decide +kernel), fun _ => ⟨fun z => absurd z (by decide +kernel), fun _ => ⟨fun z => absurd z (by decide +kernel), fun _ => ⟨fun z => absurd z (by decide +kernel), fun _ => ⟨fun z => absurd z (by decide +kernel), fun _ => hk⟩⟩⟩⟩⟩
  | stop => exact ⟨_, rfl, fun z => absurd z (by decide +kernel), fun _ => ⟨fun z => absurd z (by decide +kernel), fun _ => ⟨fun z => absurd z (by decide +kernel), fun _ => ⟨fun z => absurd z (by decide +kernel), fun _ => ⟨fun z => absurd z (by decide +kernel), fun _ => hk⟩⟩⟩⟩⟩
  | iff e a b => cases hb
  | whi e a => cases hb
end K41
end

section
set_option linter.all false
set_option maxRecDepth 100000
set_option maxHeartbeats 1000000
set_option pp.deepTerms false
namespace K41
open PySem L2 Evl Wv
/-! ### lines of all statements -/
abbrev lnT (L : List Str) : T := .lst (L.map fun l => .dat (.str l))
theorem toD_ln (L : List Str) : (lnT L).toD = .lst (L.map D.str) := by
  show D.lst (T.toDs _) = _
  rw [toDs_map]
theorem ln_app (L M : List Str) : (L.map fun l => T.dat (.str l)) ++ (M.map fun l => T.dat (.str l)) = (L ++ M).map fun l => T.dat (.str l) := by simp
theorem ln_D (L : List Str) : (L.map D.str).map T.dat = L.map fun l => T.dat (.str l) := by simp
theorem dats_ln (L : List Str) : dats (L.map fun l => T.dat (.str l)) = some (L.map D.str) := by
  rw [← ln_D, dats_dat]
mutual
theorem ls_cnt : ∀ (s : St) (m : Nat), s.ok m → s.ls.length ≤ 3 * 7 ^ m
  | .set s e, m, h => by have : 1 ≤ 7 ^ m := Nat.one_le_pow _ _ (by decide); show 1 ≤ _; omega
  | .put s e f, m, h => by have : 1 ≤ 7 ^ m := Nat.one_le_pow _ _ (by decide); show 1 ≤ _; omega
  | .send c e s, m, h => by have : 1 ≤ 7 ^ m := Nat.one_le_pow _ _ (by decide); show 1 ≤ _; omega
  | .recv c s t, m, h => by have : 1 ≤ 7 ^ m := Nat.one_le_pow _ _ (by decide); show 1 ≤ _; omega
  | .frame s, m, h => by have : 1 ≤ 7 ^ m := Nat.one_le_pow _ _ (by decide); show 1 ≤ _; omega
  | .rest, m, h => by have : 1 ≤ 7 ^ m := Nat.one_le_pow _ _ (by decide); show 1 ≤ _; omega
  | .stop, m, h => by have : 1 ≤ 7 ^ m := Nat.one_le_pow _ _ (by decide); show 1 ≤ _; omega
  | .iff e a b, _, h => by
    obtain ⟨n, rfl, h1, ⟨a1, a2⟩, b1, b2⟩ := by unfold St.ok at h; exact h
    have ha := lss_cnt a n a2
    have hb := lss_cnt b n b2
    have : 1 ≤ 7 ^ n := Nat.one_le_pow _ _ (by decide)
    have ha : a.ls.length ≤ 3 * (3 * 7 ^ n) := Nat.le_trans ha (Nat.mul_le_mul_right _ a1)
    have hb : b.ls.length ≤ 3 * (3 * 7 ^ n) := Nat.le_trans hb (Nat.mul_le_mul_right _ b1)
    rw [Nat.pow_succ]
    unfold St.ls
    split <;> simp only [List.length_append, List.length_cons, List.length_map, List.length_nil] <;> omega
  | .whi e a, _, h => by
    obtain ⟨n, rfl, h1, a1, a2⟩ := by unfold St.ok at h; exact h
    have ha := lss_cnt a n a2
    have : 1 ≤ 7 ^ n := Nat.one_le_pow _ _ (by decide)
    have ha : a.ls.length ≤ 3 * (3 * 7 ^ n) := Nat.le_trans ha (Nat.mul_le_mul_right _ a1)
    rw [Nat.pow_succ]
    unfold St.ls
    simp only [List.length_append, List.length_cons, List.length_map, List.length_nil]
    omega
theorem lss_cnt : ∀ (b : Sts) (m : Nat), b.ok m → b.ls.length ≤ b.len * (3 * 7 ^ m)
  | .nil, _, _ => Nat.zero_le _
  | .cons s r, m, h => by
    have h1 := ls_cnt s m h.1
    have h2 := lss_cnt r m h.2
    show (s.ls ++ r.ls).length ≤ (r.len + 1) * _
    rw [List.length_append, Nat.add_mul, Nat.one_mul]
    omega
end
theorem cnt3 {b : Sts} {m : Nat} (h : b.Ok m) (hm : m ≤ 3) : b.ls.length ≤ 3087 := by
  refine Nat.le_trans (lss_cnt b m h.2) (Nat.le_trans (Nat.mul_le_mul h.1 (Nat.mul_le_mul_left 3 (Nat.pow_le_pow_right (by decide) hm))) (by decide))
theorem cnt1 {s : St} {m : Nat} (h : s.ok m) (hm : m ≤ 3) : s.ls.length ≤ 1029 := by
  refine Nat.le_trans (ls_cnt s m h) (Nat.le_trans (Nat.mul_le_mul_left 3 (Nat.pow_le_pow_right (by decide) hm)) (by decide))
mutual
theorem ls_each : ∀ (s : St) (m : Nat), s.ok m → ∀ l ∈ s.ls, l.length ≤ 300 + 2 * m
  | .set s e, m, h => fun l hl => by cases List.mem_singleton.mp hl; have := plain_len _ m h; omega
  | .put s e f, m, h => fun l hl => by cases List.mem_singleton.mp hl; have := plain_len _ m h; omega
  | .send c e s, m, h => fun l hl => by cases List.mem_singleton.mp hl; have := plain_len _ m h; omega
  | .recv c s t, m, h => fun l hl => by cases List.mem_singleton.mp hl; have := plain_len _ m h; omega
  | .frame s, m, h => fun l hl => by cases List.mem_singleton.mp hl; have := plain_len _ m h; omega
  | .rest, m, h => fun l hl => by cases List.mem_singleton.mp hl; have := plain_len _ m h; omega
  | .stop, m, h => fun l hl => by cases List.mem_singleton.mp hl; have := plain_len _ m h; omega
  | .iff e a b, _, h => fun l hl => by
    obtain ⟨n, rfl, h1, ⟨a1, a2⟩, b1, b2⟩ := by unfold St.ok at h; exact h
    have := shl1 h1
    unfold St.ls at hl
    rw [List.mem_append, List.mem_append, List.mem_cons] at hl
    have fa : ∀ x ∈ a.ls.map fin, x.length ≤ 300 + 2 * (n + 1) := fun x hx => by
      obtain ⟨y, hy, rfl⟩ := List.mem_map.mp hx
      have := lss_each a n a2 y hy
      show ("  " ++ y).length ≤ _
      rw [strLen_append, show ("  " : Str).length = 2 from rfl]
      omega
    have fb : ∀ x ∈ b.ls.map fin, x.length ≤ 300 + 2 * (n + 1) := fun x hx => by
      obtain ⟨y, hy, rfl⟩ := List.mem_map.mp hx
      have := lss_each b n b2 y hy
      show ("  " ++ y).length ≤ _
      rw [strLen_append, show ("  " : Str).length = 2 from rfl]
      omega
    rcases hl with ((rfl | hl) | hl) | hl
    · simp only [strLen_append, show ("if" : Str).length = 2 from rfl, show (" " : Str).length = 1 from rfl, show (" {" : Str).length = 2 from rfl]
      omega
    · exact fa l hl
    · split at hl
      · rcases List.mem_cons.mp hl with rfl | hl
        · show 8 ≤ _
          omega
        · exact fb l hl
      · cases hl
    · cases List.mem_singleton.mp hl
      show 1 ≤ _
      omega
  | .whi e a, _, h => fun l hl => by
    obtain ⟨n, rfl, h1, a1, a2⟩ := by unfold St.ok at h; exact h
    have := shl1 h1
    unfold St.ls at hl
    rw [List.mem_append, List.mem_cons] at hl
    have fa : ∀ x ∈ a.ls.map fin, x.length ≤ 300 + 2 * (n + 1) := fun x hx => by
      obtain ⟨y, hy, rfl⟩ := List.mem_map.mp hx
      have := lss_each a n a2 y hy
      show ("  " ++ y).length ≤ _
      rw [strLen_append, show ("  " : Str).length = 2 from rfl]
      omega
    rcases hl with (rfl | hl) | hl
    · simp only [strLen_append, show ("while" : Str).length = 5 from rfl, show (" " : Str).length = 1 from rfl, show (" {" : Str).length = 2 from rfl]
      omega
    · exact fa l hl
    · cases List.mem_singleton.mp hl
      show 1 ≤ _
      omega
theorem lss_each : ∀ (b : Sts) (m : Nat), b.ok m → ∀ l ∈ b.ls, l.length ≤ 300 + 2 * m
  | .nil, _, _, _, hl => (nomatch hl)
  | .cons s r, m, h, l, hl => by
    have hl : l ∈ s.ls ++ r.ls := hl
    rcases List.mem_append.mp hl with hl | hl
    · exact ls_each s m h.1 l hl
    · exact lss_each r m h.2 l hl
end
theorem spec_fi (L : List Str) (hl : L.length ≤ 40000) (hs : ∀ l ∈ L, l.length ≤ 1000) (k : T → Roots → Prop) (kx : Exn → Roots → Prop) (hk : k (lnT (L.map fin)) []) : cFurtherIn [.dat (.lst (L.map D.str))] [] k kx := by
  unfold cFurtherIn cwOf weFurtherIn
  refine ⟨rfl, lcI L (fun l => .str (fin l)) [], ⟨rfl, rfl⟩, ?_, ?_⟩
  · rintro i d _ _ hd ⟨rfl, rfl⟩
    obtain ⟨x, hx, rfl, hm, hi⟩ := lc_at hd
    refine ⟨lc_len hi hl, fun _ => ⟨?_, lc_step hx⟩, fun z => (nomatch z)⟩
    have := hs x hm
    have := sl_eq
    show ("  " : Str).length + x.length ≤ _
    rw [show ("  " : Str).length = 2 from rfl]
    omega
  · rintro _ _ ⟨rfl, rfl⟩
    rw [lc_all]
    have : (L.map fun x => T.dat (D.str (fin x))) = (L.map fin).map fun l => T.dat (.str l) := by simp
    rw [this]
    exact hk
def PLo (m : Nat) : Prop := ∀ (s : St) (q : Nat), s.ok m → 2 * m + 1 ≤ q → ∀ (k : T → Roots → Prop) (kx : Exn → Roots → Prop), k (lnT s.ls) [] → rcLi q 0 [.dat s.d] [] k kx
def PLa (m : Nat) : Prop := ∀ (b : Sts) (q : Nat), b.Ok m → 2 * m + 2 ≤ q → ∀ (k : T → Roots → Prop) (kx : Exn → Roots → Prop), k (lnT b.ls) [] → rcLi q 1 [.dat (.lst b.ds)] [] k kx
theorem flat_take (L : List St) (i : Nat) (s : St) (h : L[i]? = some s) : ((L.take (i + 1)).map St.ls).flatten = ((L.take i).map St.ls).flatten ++ s.ls := by
  rw [List.take_succ, h, List.map_append, List.flatten_append]
  show _ ++ [s.ls].flatten = _
  simp
theorem flat_cnt {L : List St} (h : ∀ s ∈ L, s.ls.length ≤ 1029) : (L.map St.ls).flatten.length ≤ L.length * 1029 := by
  induction L with
  | nil => exact Nat.le_refl _
  | cons s L ih =>
    have h1 := h s (List.mem_cons_self ..)
    have h2 := ih fun x hx => h x (List.mem_cons_of_mem _ hx)
    rw [List.map_cons, List.flatten_cons, List.length_append, List.length_cons, Nat.add_mul, Nat.one_mul]
    omega
theorem flat_take_cnt {b : Sts} {m : Nat} (h : b.Ok m) (hm : m ≤ 3) (i : Nat) : ((b.toL.take i).map St.ls).flatten.length ≤ 3087 := by
  have := flat_cnt (L := b.toL.take i) fun s hs => cnt1 (ok_toL h.2 s (List.mem_of_mem_take hs)) hm
  have e := h.1
  rw [← len_toL] at e
  have : (b.toL.take i).length ≤ 3 := Nat.le_trans (List.length_take_le' _ _) e
  omega
theorem la_of {m : Nat} (hm : m ≤ 3) (ih : PLo m) : PLa m := by
  intro b q h hq k kx hk
  obtain ⟨q, rfl⟩ : ∃ q', q = q' + 1 := ⟨q - 1, by omega⟩
  rw [rcLi_1]
  unfold cwOf weLinesOfAll
  refine ⟨rfl, by show 0 ≤ 1000; decide, ?_⟩
  rw [ds_toL]
  refine ⟨fun sl rt => ∃ a, sl = [some (.dat (.lst (b.toL.map St.d))), some (.ref 0 []), a] ∧ rt = [lnT b.ls], ?_, ?_⟩
  · refine ⟨fun i sl rt => ∃ a, sl = [some (.dat (.lst (b.toL.map St.d))), some (.ref 0 []), a] ∧ rt = [lnT ((b.toL.take i).map St.ls).flatten], ⟨none, rfl, rfl⟩, ?_, ?_⟩
    · rintro i d _ _ hd ⟨a, rfl, rfl⟩
      rw [List.getElem?_map, Option.map_eq_some_iff] at hd
      obtain ⟨s, hs, rfl⟩ := hd
      have so := ok_toL h.2 s (List.mem_of_getElem? hs)
      refine ⟨rfl, ih s q so (by omega) _ _ ?_⟩
      simp only [toD_ln]
      refine ⟨?_, Or.inl ⟨_, rfl, ?_⟩⟩
      · have := flat_take_cnt h hm i
        have := cnt1 so hm
        simp only [List.length_map]
        omega
      · show [T.lst (_ ++ (s.ls.map D.str).map T.dat)] = _
        rw [ln_D, ln_app, flat_take _ _ _ hs]
    · rintro _ _ ⟨a, rfl, rfl⟩
      rw [List.length_map, List.take_length, ← ls_toL]
      exact ⟨a, rfl, rfl⟩
  · rintro _ _ ⟨a, rfl, rfl⟩
    exact ⟨Nat.le_refl 0, hk⟩
theorem lo_of {m : Nat} (hm : m ≤ 3) (ih : ∀ m', m = m' + 1 → PLa m') : PLo m := by
  intro s q h hq k kx hk
  obtain ⟨q, rfl⟩ : ∃ q', q = q' + 1 := ⟨q - 1, by omega⟩
  rw [rcLi_0]
  unfold cwOf weLinesOf
  cases s with
  | set s e => exact ⟨rfl, _, rfl, by show 2 ≤ 1000; decide, rfl, rfl, fun _ => ⟨rfl, spec_pl _ m rfl h _ _ ⟨by show 1 ≤ 1000; decide, hk⟩⟩, fun z => absurd z (by decide +kernel)⟩
  | put s e f => exact ⟨rfl, _, rfl, by show 2 ≤ 1000; decide, rfl, rfl, fun _ => ⟨rfl, spec_pl _ m rfl h _ _ ⟨by show 1 ≤ 1000; decide, hk⟩⟩, fun z => absurd z (by decide +kernel)⟩
  | send c e s => exact ⟨rfl, _, rfl, by show 2 ≤ 1000; decide, rfl, rfl, fun _ => ⟨rfl, spec_pl _ m rfl h _ _ ⟨by show 1 ≤ 1000; decide, hk⟩⟩, fun z => absurd z (by decide +kernel)⟩
  | recv c s t => exact ⟨rfl, _, rfl, by show 2 ≤ 1000; decide, rfl, rfl, fun _ => ⟨rfl, spec_pl _ m rfl h _ _ ⟨by show 1 ≤ 1000; decide, hk⟩⟩, fun z => absurd z (by decide +kernel)⟩
  | frame s => exact ⟨rfl, _, rfl, by show 2 ≤ 1000; decide, rfl, rfl, fun _ => ⟨rfl, spec_pl _ m rfl h _ _ ⟨by show 1 ≤ 1000; decide, hk⟩⟩, fun z => absurd z (by decide +kernel)⟩
  | rest => exact ⟨rfl, _, rfl, by show 2 ≤ 1000; decide, rfl, rfl, fun _ => ⟨rfl, spec_pl _ m rfl h _ _ ⟨by show 1 ≤ 1000; decide, hk⟩⟩, fun z => absurd z (by decide +kernel)⟩
  | stop => exact ⟨rfl, _, rfl, by show 2 ≤ 1000; decide, rfl, rfl, fun _ => ⟨rfl, spec_pl _ m rfl h _ _ ⟨by show 1 ≤ 1000; decide, hk⟩⟩, fun z => absurd z (by decide +kernel)⟩
  | iff e a b =>
    obtain ⟨n, rfl, h1, ha, hb⟩ := by unfold St.ok at h; exact h
    have ea : ∀ l ∈ a.ls, l.length ≤ 1000 := fun l hl => by have := lss_each a n ha.2 l hl; omega
    have eb : ∀ l ∈ b.ls, l.length ≤ 1000 := fun l hl => by have := lss_each b n hb.2 l hl; omega
    have ca := cnt3 ha (by omega)
    have cb := cnt3 hb (by omega)
    have s1 := shl1 h1
    have g0 : ("if" ++ " " ++ showE e ++ " {").length ≤ sizeLine := by
      have := sl_eq
      simp only [strLen_append, show ("if" : Str).length = 2 from rfl, show (" " : Str).length = 1 from rfl, show (" {" : Str).length = 2 from rfl]
      omega
    have g1 := apl g0
    have g2 := apl g1
    refine ⟨rfl, _, rfl, by show 2 ≤ 1000; decide, rfl, rfl, fun z => absurd z (by decide +kernel), fun _ => ?_⟩
    refine ⟨ap g2, _, rfl, rfl, spec_sh 1 (by decide) e 10 h1 (by decide) (szb s1) _ _ ⟨ap g1, ap g0, by show 1 ≤ 1000; decide, ?_⟩⟩
    refine ⟨_, rfl, rfl, ih n rfl a q ha (by omega) _ _ ?_⟩
    simp only [toD_ln]
    refine ⟨rfl, spec_fi a.ls (by omega) ea _ _ ?_⟩
    simp only [toD_ln]
    refine ⟨[D.str (("if" : Str) ++ " " ++ showE e ++ " {")], (a.ls.map fin).map D.str, rfl, rfl, by simp only [List.length_map, List.length_cons, List.length_nil]; omega, ?_⟩
    refine ⟨fun sl rt => sl = [some (.dat (St.iff e a b).d), some (.dat (.str "if")), some (.ref 0 [])] ∧ rt = [lnT ((("if" : Str) ++ " " ++ showE e ++ " {") :: a.ls.map fin ++ (if 0 < b.len then sElse :: b.ls.map fin else []))], ?_, ?_⟩
    · refine ⟨decide ((0 : Int) < (b.ds.length : Int)), fun _ => ⟨_, rfl, rfl, rfl⟩, fun hw => ?_, fun hw => ?_⟩
      · have hw : decide ((0 : Int) < (b.ds.length : Int)) = true := hw
        have hw := of_decide_eq_true hw
        rw [ds_len] at hw
        rw [if_pos (by omega)]
        refine ⟨by simp only [List.length_map, List.length_append, List.length_cons, List.length_nil]; omega, ?_⟩
        refine ⟨_, rfl, rfl, ih n rfl b q hb (by omega) _ _ ?_⟩
        simp only [toD_ln]
        refine ⟨rfl, spec_fi b.ls (by omega) eb _ _ ?_⟩
        simp only [toD_ln]
        refine ⟨by simp only [List.length_map, List.length_append, List.length_cons, List.length_nil]; omega, rfl, ?_⟩
        show [T.lst (_ ++ [T.dat (.str sElse)] ++ ((b.ls.map fin).map D.str).map T.dat)] = _
        rw [List.map_append, ln_D, ln_D]
        simp
      · have hw : decide ((0 : Int) < (b.ds.length : Int)) = false := hw
        have hw := of_decide_eq_false hw
        rw [ds_len] at hw
        rw [if_neg (by omega)]
        refine ⟨rfl, ?_⟩
        show [T.lst _] = _
        rw [List.map_append, ln_D]
        simp
    · rintro _ _ ⟨rfl, rfl⟩
      have cc : ((("if" : Str) ++ " " ++ showE e ++ " {") :: a.ls.map fin ++ (if 0 < b.len then sElse :: b.ls.map fin else [])).length ≤ 7000 := by
        split <;> simp only [List.length_append, List.length_cons, List.length_map, List.length_nil] <;> omega
      refine ⟨by show 1 ≤ 1000; decide, _, [D.str sEnd], dats_ln _, rfl, ?_, ?_⟩
      · rw [List.length_map]
        show _ + 1 ≤ 40000
        omega
      · show k (.lst ((_ ++ [sEnd].map D.str).map T.dat)) []
        rw [← List.map_append, ln_D]
        exact hk
  | whi e a =>
    obtain ⟨n, rfl, h1, ha⟩ := by unfold St.ok at h; exact h
    have ea : ∀ l ∈ a.ls, l.length ≤ 1000 := fun l hl => by have := lss_each a n ha.2 l hl; omega
    have ca := cnt3 ha (by omega)
    have s1 := shl1 h1
    have g0 : ("while" ++ " " ++ showE e ++ " {").length ≤ sizeLine := by
      have := sl_eq
      simp only [strLen_append, show ("while" : Str).length = 5 from rfl, show (" " : Str).length = 1 from rfl, show (" {" : Str).length = 2 from rfl]
      omega
    have g1 := apl g0
    have g2 := apl g1
    refine ⟨rfl, _, rfl, by show 2 ≤ 1000; decide, rfl, rfl, fun z => absurd z (by decide +kernel), fun _ => ?_⟩
    refine ⟨ap g2, _, rfl, rfl, spec_sh 1 (by decide) e 10 h1 (by decide) (szb s1) _ _ ⟨ap g1, ap g0, by show 1 ≤ 1000; decide, ?_⟩⟩
    refine ⟨_, rfl, rfl, ih n rfl a q ha (by omega) _ _ ?_⟩
    simp only [toD_ln]
    refine ⟨rfl, spec_fi a.ls (by omega) ea _ _ ?_⟩
    simp only [toD_ln]
    refine ⟨[D.str (("while" : Str) ++ " " ++ showE e ++ " {")], (a.ls.map fin).map D.str, rfl, rfl, by simp only [List.length_map, List.length_cons, List.length_nil]; omega, ?_⟩
    refine ⟨fun sl rt => sl = [some (.dat (St.whi e a).d), some (.dat (.str "while")), some (.ref 0 [])] ∧ rt = [lnT ((("while" : Str) ++ " " ++ showE e ++ " {") :: a.ls.map fin)], ?_, ?_⟩
    · refine ⟨false, fun z => absurd z (by decide +kernel), fun z => absurd z (by decide +kernel), fun _ => ⟨rfl, ?_⟩⟩
      show [T.lst _] = _
      rw [List.map_append, ln_D]
      simp
    · rintro _ _ ⟨rfl, rfl⟩
      refine ⟨by show 1 ≤ 1000; decide, _, [D.str sEnd], dats_ln _, rfl, ?_, ?_⟩
      · rw [List.length_map, List.length_cons, List.length_map]
        show _ + 1 ≤ 40000
        omega
      · show k (.lst ((_ ++ [sEnd].map D.str).map T.dat)) []
        rw [← List.map_append, ln_D]
        exact hk
theorem spec_la : ∀ m, m ≤ 3 → PLa m
  | 0, hm => la_of hm (lo_of hm fun _ z => (nomatch z))
  | m + 1, hm => la_of hm (lo_of hm fun _ z => by cases z; exact spec_la m (by omega))
end K41
end

section
set_option linter.all false
set_option maxRecDepth 100000
set_option maxHeartbeats 1000000
set_option pp.deepTerms false
namespace K41
open PySem L2 Evl Wv
/-! ### the program's text -/
def allL (ns : List Nm) (b : Sts) : List Str := ns.map showN ++ b.ls
def nl (l : Str) : Str := l ++ "\n"
def textOf (L : List Str) : Str := Txt.join "" (L.map nl)
theorem allL_len {ns : List Nm} {b : Sts} (h : OkS ns) (hb : b.Ok 3) : (allL ns b).length ≤ 3096 ∧ ∀ l ∈ allL ns b, l.length ≤ 306 := by
  have := cnt3 hb (by decide)
  have := h.1
  refine ⟨by unfold allL; rw [List.length_append, List.length_map]; omega, fun l hl => ?_⟩
  rcases List.mem_append.mp hl with hl | hl
  · obtain ⟨n, hn, rfl⟩ := List.mem_map.mp hl
    have := showN_len (h.2 n hn)
    omega
  · exact lss_each b 3 hb.2 l hl
theorem nl_sum {L : List Str} (h1 : L.length ≤ 3096) (h2 : ∀ l ∈ L, l.length ≤ 306) : ((L.map nl).map (·.length)).sum + (L.map nl).length * ("" : Str).length ≤ 16777216 := by
  have := sum_len (L.map nl) 307 fun y hy => by
    obtain ⟨x, hx, rfl⟩ := List.mem_map.mp hy
    have := h2 x hx
    show (x ++ "\n").length ≤ _
    rw [strLen_append, show ("\n" : Str).length = 1 from rfl]
    omega
  rw [List.length_map] at this ⊢
  rw [show ("" : Str).length = 0 from rfl]
  omega
theorem nl_D (L : List Str) : (L.map fun l => D.str (nl l)) = (L.map nl).map D.str := by simp
theorem spec_ps (ns : List Nm) (b : Sts) (h : OkS ns) (hb : b.Ok 3) (k : T → Roots → Prop) (kx : Exn → Roots → Prop) (hk : k (.dat (.str (textOf (allL ns b)))) []) : cPrintSource [.dat (.obj 0 [nmD ns, .lst b.ds])] [] k kx := by
  obtain ⟨l1, l2⟩ := allL_len h hb
  have hn := h.1
  have hbl := cnt3 hb (by decide)
  unfold cPrintSource cwOf wePrintSource
  refine ⟨rfl, lcI ns (fun n => .str (showN n)) [], ⟨rfl, rfl⟩, ?_, ?_⟩
  · rintro i d _ _ hd ⟨rfl, rfl⟩
    obtain ⟨x, hx, rfl, hm, hi⟩ := lc_at hd
    exact ⟨lc_len hi (by omega), fun _ => ⟨rfl, spec_sn x (h.2 x hm) _ _ (lc_step hx)⟩, fun z => (nomatch z)⟩
  rintro _ _ ⟨rfl, rfl⟩
  rw [lc_all]
  refine ⟨rfl, spec_la 3 (by decide) b 12 hb (by decide) _ _ ?_⟩
  refine ⟨(ns.map showN).map D.str, b.ls.map D.str, ?_, ?_, by simp only [List.length_map]; omega, ?_⟩
  · show some (T.toDs _) = _
    rw [toDs_map]
    simp
  · show some (T.toDs _) = _
    rw [toDs_map]
  rw [← List.map_append]
  simp only [toD_dats]
  refine ⟨lcI (allL ns b) (fun l => .str (nl l)) [], ⟨rfl, rfl⟩, ?_, ?_⟩
  · rintro i d _ _ hd ⟨rfl, rfl⟩
    obtain ⟨x, hx, rfl, hm, hi⟩ := lc_at (L := allL ns b) hd
    refine ⟨lc_len hi (by omega), fun _ => ⟨?_, lc_step hx⟩, fun z => (nomatch z)⟩
    have := l2 x hm
    have := sl_eq
    show x.length + 1 ≤ _
    omega
  rintro _ _ ⟨rfl, rfl⟩
  rw [show ns.map showN ++ b.ls = allL ns b from rfl, lc_all]
  refine ⟨(allL ns b).map nl, ?_, nl_sum l1 l2, hk⟩
  show some (T.toDs _) = _
  rw [toDs_map, nl_D]
/-! ### the law's lines -/
theorem tat_at (pre : Roots) (ts : List T) : tat (pre ++ [.lst ts]) pre.length [] = some (.lst ts) := by
  unfold tat tatN
  rw [List.getElem?_append_right (Nat.le_refl _), Nat.sub_self]
  rfl
theorem mod_end {α : Type} (f : α → α) (x : α) : ∀ pre : List α, (pre ++ [x]).modify pre.length f = pre ++ [f x]
  | [] => rfl
  | a :: pre => by
    show (a :: (pre ++ [x])).modify (pre.length + 1) f = a :: (pre ++ [f x])
    rw [← mod_end f x pre]
    rfl
theorem put_at (pre : Roots) (ts us : List T) : (pre ++ [T.lst ts]).modify pre.length (T.put (.lst us) []) = pre ++ [.lst us] := mod_end _ _ pre
theorem var_at {sl : Cxt} {pre : Roots} {ts : List T} {i : Nat} {k : Val → Roots → Prop} (h : sl.sl[i]? = some (some (.ref pre.length []))) (hk : k (.ref pre.length []) (pre ++ [.lst ts])) : wVar i sl (pre ++ [.lst ts]) k := by
  unfold wVar
  rw [h]
  show match tat (pre ++ [.lst ts]) pre.length [] with
    | some t => _
    | none => False
  rw [tat_at]
  exact hk
theorem app_at {i : Nat} {Z : WEnds} {sl : Slots} {pre : Roots} {ts : List T} {w : WO} (d : D) (h : sl[i]? = some (some (.ref pre.length [])))
    (hw : ∀ K : T → Roots → Prop, K (.dat d) (pre ++ [.lst ts]) → w ⟨sl, Z.ex⟩ (pre ++ [.lst ts]) K) (hl : ts.length < 40000) (hk : Z.nx sl (pre ++ [.lst (ts ++ [.dat d])])) : wApp (wVar i) w Z sl (pre ++ [.lst ts]) := by
  unfold wApp
  refine var_at h ?_
  show match tat (pre ++ [.lst ts]) pre.length [] with
    | some (.lst _) => _
    | _ => False
  rw [tat_at]
  refine hw _ ?_
  show match tat (pre ++ [.lst ts]) pre.length [] with
    | some (.lst ts) => _
    | _ => False
  rw [tat_at]
  refine ⟨hl, ?_⟩
  rw [put_at]
  exact hk
theorem cat_at {i : Nat} {sl : Cxt} {pre : Roots} {L M : List Str} {wb : WE} {K : T → Roots → Prop} (h : sl.sl[i]? = some (some (.ref pre.length [])))
    (hw : ∀ K : Val → Roots → Prop, K (.dat (.lst (M.map D.str))) (pre ++ [lnT L]) → wb sl (pre ++ [lnT L]) K) (hl : L.length + M.length ≤ 40000) (hk : K (lnT (L ++ M)) (pre ++ [lnT L])) : wCatL (wVar i) wb sl (pre ++ [lnT L]) K := by
  unfold wCatL
  refine var_at h (hw _ ⟨L.map D.str, M.map D.str, ?_, rfl, by rw [List.length_map, List.length_map]; exact hl, ?_⟩)
  · show (match tat (pre ++ [lnT L]) pre.length [] with
      | some (.lst ts) => dats ts
      | _ => none) = _
    rw [tat_at]
    exact dats_ln L
  · rw [← List.map_append, ln_D]
    exact hk
theorem cat_dd {sl : Cxt} {rt : Roots} {L M : List Str} {wa wb : WE} {K : T → Roots → Prop}
    (ha : ∀ K : Val → Roots → Prop, K (.dat (.lst (L.map D.str))) rt → wa sl rt K) (hw : ∀ K : Val → Roots → Prop, K (.dat (.lst (M.map D.str))) rt → wb sl rt K) (hl : L.length + M.length ≤ 40000) (hk : K (lnT (L ++ M)) rt) : wCatL wa wb sl rt K := by
  unfold wCatL
  refine ha _ (hw _ ⟨L.map D.str, M.map D.str, rfl, rfl, by rw [List.length_map, List.length_map]; exact hl, ?_⟩)
  rw [← List.map_append, ln_D]
  exact hk
theorem new_ln {i : Nat} {w : WO} {Z : WEnds} {sl : Slots} {rt : Roots} {L : List Str} (hw : ∀ K : T → Roots → Prop, K (lnT L) rt → w ⟨sl, Z.ex⟩ rt K) (hk : Z.nx (sl.set i (some (.ref rt.length []))) (rt ++ [lnT L])) : wNew i w Z sl rt := by
  unfold wNew
  exact hw _ hk
theorem frz_ln {w : WO} {sl : Cxt} {rt : Roots} {L : List Str} {K : Val → Roots → Prop} (hw : ∀ K : T → Roots → Prop, K (lnT L) rt → w sl rt K) (hk : K (.dat (.lst (L.map D.str))) rt) : wFrz w sl rt K := by
  unfold wFrz
  refine hw _ ?_
  rw [toD_ln]
  exact hk
/-! shapes of the data -/
mutual
theorem ex_py : ∀ (e : Ex) (m : Nat), e.ok m → ∃ p, e.d.py = some p ∧ p.canLay0 = true ∧ p.depth ≤ m + 1
  | .num i, m, _ => ⟨.tuple [.str "number", .int i], rfl, by show (PyData.strOk _ && _) = true; rw [strOk_of]; rfl, by show 1 ≤ m + 1; omega⟩
  | .nam s, m, h => by
    unfold Ex.ok at h
    refine ⟨.tuple [.str "name", .str s], rfl, ?_, by show 1 ≤ m + 1; omega⟩
    show (PyData.strOk _ && (PyData.strOk s && true)) = true
    rw [strOk_of, h.2]
    rfl
  | .item s e, _, h => by
    obtain ⟨n, rfl, h1, h2⟩ := h
    obtain ⟨p, e1, e2, e3⟩ := ex_py e n h2
    refine ⟨.tuple [.str "item", .str s, p], ?_, ?_, ?_⟩
    · show (D.pys [D.str "item", .str s, e.d]).map PyData.tuple = _
      simp only [D.pys, D.py, e1]
      rfl
    · show (PyData.strOk _ && (PyData.strOk s && (p.canLay0 && true))) = true
      rw [strOk_of, h1.2, e2]
      rfl
    · show max 0 (max 0 (max p.depth 0)) + 1 ≤ _
      omega
  | .inv e, _, h => by
    obtain ⟨n, rfl, h2⟩ := h
    obtain ⟨p, e1, e2, e3⟩ := ex_py e n h2
    refine ⟨.tuple [.str "not", p], ?_, ?_, ?_⟩
    · show (D.pys [D.str "not", e.d]).map PyData.tuple = _
      simp only [D.pys, D.py, e1]
      rfl
    · show (PyData.strOk _ && (p.canLay0 && true)) = true
      rw [strOk_of, e2]
      rfl
    · show max 0 (max p.depth 0) + 1 ≤ _
      omega
  | .shift s e x, _, h => by
    obtain ⟨n, rfl, h1, h3, h2⟩ := h
    obtain ⟨p, e1, e2, e3⟩ := ex_py e n h2
    refine ⟨.tuple [.str "shift", .str s, p, .int x], ?_, ?_, ?_⟩
    · show (D.pys [D.str "shift", .str s, e.d, .int x]).map PyData.tuple = _
      simp only [D.pys, D.py, e1]
      rfl
    · show (PyData.strOk _ && (PyData.strOk s && (p.canLay0 && true))) = true
      rw [strOk_of, h1.2, e2]
      rfl
    · show max 0 (max 0 (max p.depth (max 0 0))) + 1 ≤ _
      omega
  | .op s e f, _, h => by
    obtain ⟨n, rfl, h1, h2, h3⟩ := h
    obtain ⟨p, e1, e2, e3⟩ := ex_py e n h2
    obtain ⟨q, f1, f2, f3⟩ := ex_py f n h3
    refine ⟨.tuple [.str "op", .str s, p, q], ?_, ?_, ?_⟩
    · show (D.pys [D.str "op", .str s, e.d, f.d]).map PyData.tuple = _
      simp only [D.pys, D.py, e1, f1]
      rfl
    · show (PyData.strOk _ && (PyData.strOk s && (p.canLay0 && (q.canLay0 && true)))) = true
      rw [strOk_of, h1.2, e2, f2]
      rfl
    · show max 0 (max 0 (max p.depth (max q.depth 0))) + 1 ≤ _
      omega
end
end K41
end

section
set_option linter.all false
set_option maxRecDepth 100000
set_option maxHeartbeats 1000000
set_option pp.deepTerms false
namespace K41
open PySem L2 Evl Wv
mutual
theorem st_py : ∀ (s : St) (m : Nat), s.ok m → ∃ p, s.d.py = some p ∧ p.canLay0 = true ∧ p.depth ≤ 4 + 2 * m
  | .set s e, m, h => by
    obtain ⟨h1, h2⟩ : Nx s ∧ e.ok 2 := by unfold St.ok at h; exact h
    obtain ⟨p, e1, e2, e3⟩ := ex_py e 2 h2
    refine ⟨.tuple [.str "set", .str s, p], ?_, ?_, ?_⟩
    · show (D.pys [D.str "set", .str s, e.d]).map PyData.tuple = _
      simp only [D.pys, D.py, e1]
      rfl
    · show (PyData.strOk _ && (PyData.strOk s && (p.canLay0 && true))) = true
      rw [strOk_of, h1.2, e2]
      rfl
    · show max 0 (max 0 (max p.depth 0)) + 1 ≤ _
      omega
  | .put s e f, m, h => by
    obtain ⟨h1, h2, h3⟩ : Nx s ∧ e.ok 1 ∧ f.ok 1 := by unfold St.ok at h; exact h
    obtain ⟨p, e1, e2, e3⟩ := ex_py e 1 h2
    obtain ⟨q, f1, f2, f3⟩ := ex_py f 1 h3
    refine ⟨.tuple [.str "put", .str s, p, q], ?_, ?_, ?_⟩
    · show (D.pys [D.str "put", .str s, e.d, f.d]).map PyData.tuple = _
      simp only [D.pys, D.py, e1, f1]
      rfl
    · show (PyData.strOk _ && (PyData.strOk s && (p.canLay0 && (q.canLay0 && true)))) = true
      rw [strOk_of, h1.2, e2, f2]
      rfl
    · show max 0 (max 0 (max p.depth (max q.depth 0))) + 1 ≤ _
      omega
  | .send c e s, m, h => by
    obtain ⟨h0, h2, h1⟩ : W5 c ∧ e.ok 2 ∧ Nx s := by unfold St.ok at h; exact h
    obtain ⟨p, e1, e2, e3⟩ := ex_py e 2 h2
    refine ⟨.tuple [.str "send", .int c, p, .str s], ?_, ?_, ?_⟩
    · show (D.pys [D.str "send", .int c, e.d, .str s]).map PyData.tuple = _
      simp only [D.pys, D.py, e1]
      rfl
    · show (PyData.strOk _ && (true && (p.canLay0 && (PyData.strOk s && true)))) = true
      rw [strOk_of, h1.2, e2]
      rfl
    · show max 0 (max 0 (max p.depth (max 0 0))) + 1 ≤ _
      omega
  | .recv c s t, m, h => by
    obtain ⟨h0, h1, h2⟩ : W5 c ∧ Nx s ∧ Nx t := by unfold St.ok at h; exact h
    refine ⟨.tuple [.str "receive", .int c, .str s, .str t], rfl, ?_, ?_⟩
    · show (PyData.strOk _ && (true && (PyData.strOk s && (PyData.strOk t && true)))) = true
      rw [strOk_of, h1.2, h2.2]
      rfl
    · show 1 ≤ _
      omega
  | .frame s, m, h => by
    have h1 : Nx s := by unfold St.ok at h; exact h
    refine ⟨.tuple [.str "frame", .str s], rfl, ?_, ?_⟩
    · show (PyData.strOk _ && (PyData.strOk s && true)) = true
      rw [strOk_of, h1.2]
      rfl
    · show 1 ≤ _
      omega
  | .rest, m, _ => ⟨.tuple [.str "rest"], rfl, by decide +kernel, by show 1 ≤ _; omega⟩
  | .stop, m, _ => ⟨.tuple [.str "stop"], rfl, by decide +kernel, by show 1 ≤ _; omega⟩
  | .iff e a b, _, h => by
    obtain ⟨n, rfl, h1, ha, hb⟩ := by unfold St.ok at h; exact h
    obtain ⟨p, e1, e2, e3⟩ := ex_py e 1 h1
    obtain ⟨ps, a1, a2, a3, a4⟩ := sts_py a n ha.2
    obtain ⟨qs, b1, b2, b3, b4⟩ := sts_py b n hb.2
    refine ⟨.tuple [.str "if", p, .list ps, .list qs], ?_, ?_, ?_⟩
    · show (D.pys [D.str "if", e.d, .lst a.ds, .lst b.ds]).map PyData.tuple = _
      simp only [D.pys, D.py, e1, a1, b1]
      rfl
    · show (PyData.strOk _ && (p.canLay0 && (PyData.canLayAll0 ps && (PyData.canLayAll0 qs && true)))) = true
      rw [strOk_of, e2, a2, b2]
      rfl
    · show max 0 (max p.depth (max (PyData.depthAll ps + 1) (max (PyData.depthAll qs + 1) 0))) + 1 ≤ _
      omega
  | .whi e a, _, h => by
    obtain ⟨n, rfl, h1, ha⟩ := by unfold St.ok at h; exact h
    obtain ⟨p, e1, e2, e3⟩ := ex_py e 1 h1
    obtain ⟨ps, a1, a2, a3, a4⟩ := sts_py a n ha.2
    refine ⟨.tuple [.str "while", p, .list ps], ?_, ?_, ?_⟩
    · show (D.pys [D.str "while", e.d, .lst a.ds]).map PyData.tuple = _
      simp only [D.pys, D.py, e1, a1]
      rfl
    · show (PyData.strOk _ && (p.canLay0 && (PyData.canLayAll0 ps && true))) = true
      rw [strOk_of, e2, a2]
      rfl
    · show max 0 (max p.depth (max (PyData.depthAll ps + 1) 0)) + 1 ≤ _
      omega
theorem sts_py : ∀ (b : Sts) (m : Nat), b.ok m → ∃ ps, D.pys b.ds = some ps ∧ PyData.canLayAll0 ps = true ∧ PyData.depthAll ps ≤ 4 + 2 * m ∧ ps.length = b.len
  | .nil, m, _ => ⟨[], rfl, rfl, Nat.zero_le _, rfl⟩
  | .cons s r, m, h => by
    obtain ⟨p, e1, e2, e3⟩ := st_py s m h.1
    obtain ⟨ps, a1, a2, a3, a4⟩ := sts_py r m h.2
    refine ⟨p :: ps, ?_, ?_, ?_, ?_⟩
    · show D.pys (s.d :: r.ds) = _
      simp only [D.pys, e1, a1]
    · show (p.canLay0 && PyData.canLayAll0 ps) = true
      rw [e2, a2]
      rfl
    · show max p.depth (PyData.depthAll ps) ≤ _
      omega
    · show ps.length + 1 = r.len + 1
      rw [a4]
end
theorem sts_ne (b : Sts) (m : Nat) (hm : m ≤ 3) (h : b.ok m) : ∃ px, D.py (.lst b.ds) = some px ∧ SeqAt.shaped px = true ∧ PyData.eqv px (.list []) = decide (b.len = 0) := by
  obtain ⟨ps, a1, a2, a3, a4⟩ := sts_py b m h
  refine ⟨.list ps, ?_, ?_, ?_⟩
  · show (D.pys b.ds).map PyData.list = _
    rw [a1]
    rfl
  · unfold SeqAt.shaped
    rw [show (PyData.list ps).canLay0 = PyData.canLayAll0 ps from rfl, a2]
    exact decide_eq_true (show PyData.depthAll ps + 1 ≤ 64 by omega)
  · rw [← a4]
    cases ps with
    | nil => rfl
    | cons x xs => rfl
def insL (ins : Str) (L : List Str) : List Str := L.map fun l => ins ++ l
theorem ins_app (ins : Str) (L M : List Str) : insL ins (L ++ M) = insL ins L ++ insL ins M := List.map_append
theorem ins_fin (ins : Str) (L : List Str) : insL ins (L.map fin) = insL (ins ++ "  ") L := by
  unfold insL fin
  simp only [List.map_map, asc]
  rfl
theorem ins_len (ins : Str) (L : List Str) : (insL ins L).length = L.length := List.length_map _
def PLl (m : Nat) : Prop := ∀ (b : Sts) (q : Nat) (ins : Str), b.Ok m → m + 1 ≤ q → ins.length + 2 * m ≤ 100 → ∀ (k : T → Roots → Prop) (kx : Exn → Roots → Prop), k (lnT (insL ins b.ls)) [] → rcLl q 0 [.dat (.lst b.ds), .dat (.str ins)] [] k kx
def AtL (ds : List D) (ins : Str) (L : List Str) (sl : Slots) (rt : Roots) : Prop := ∃ pre a, sl = [some (.dat (.lst ds)), some (.dat (.str ins)), some (.ref (List.length pre) []), a] ∧ rt = pre ++ [lnT L]
theorem hd_eq (ins kd : Str) (e : Ex) : ins ++ kd ++ " " ++ showE e ++ " {" = ins ++ (kd ++ " " ++ showE e ++ " {") := by simp only [asc]
theorem at2 (a b c : D) (r : List D) : atI (a :: b :: c :: r) 2 = some c := by
  unfold atI ixN
  rw [if_pos (by decide), if_pos (by simp only [List.length_cons]; omega)]
  rfl
theorem app1 (L : List Str) (x : Str) : (L.map fun l => T.dat (.str l)) ++ [T.dat (.str x)] = (L ++ [x]).map fun l => T.dat (.str l) := by simp
abbrev lineW (rc : Nat → CW) : WS :=
(wIf (wB (wBin (sIn false) (wIdx (wVar 3) (wC (.int 0))) (wTup (wCons (wC (.str "if")) (wCons (wC (.str "while")) wNil)))))
(wSeq (wApp (wVar 2) (wLift (wAdd (wAdd (wAdd (wAdd (wVar 1) (wIdx (wVar 3) (wC (.int 0)))) (wC (.str " "))) (wFrz (wCall (rcLs 6 0) (wCons (wIdx (wVar 3) (wC (.int 1))) wNil)))) (wC (.str " {")))))
(wSeq (wNew 2 (wCatL (wVar 2) (wFrz (wCall (rc 0) (wCons (wIdx (wVar 3) (wC (.int 2))) (wCons (wAdd (wVar 1) (wC (.str "  "))) wNil))))))
(wCut (wIf (wAndT (wB (wBin (sEq false) (wIdx (wVar 3) (wC (.int 0))) (wC (.str "if")))) (wB (wBin (sEqV true) (wIdx (wVar 3) (wC (.int 3))) (wFrz (wLst wNil)))))
(wNew 2 (wCatL (wFrz (wCatL (wVar 2) (wFrz (wLst (wCons (wAdd (wVar 1) (wC (.str "} else {"))) wNil))))) (wFrz (wCall (rc 0) (wCons (wIdx (wVar 3) (wC (.int 3))) (wCons (wAdd (wVar 1) (wC (.str "  "))) wNil))))))
wNext)
(wApp (wVar 2) (wLift (wAdd (wVar 1) (wC (.str "}"))))))))
(wApp (wVar 2) (wLift (wAdd (wVar 1) (wFrz (wCall cLawSimple (wCons (wVar 3) wNil)))))))
abbrev slL (ds : List D) (ins : Str) (n : Nat) (a : Option Val) : Slots := [some (.dat (.lst ds)), some (.dat (.str ins)), some (.ref n []), a]
theorem lw_plain {m : Nat} (s : St) (h : s.ok m) (hb : blockS s = false) (e : s.ls = [plainS s]) (ds : List D) (ins : Str) (hi : ins.length ≤ 100) (L : List Str) (hL : L.length ≤ 3087) (pre : Roots) (Z : WEnds)
    (hk : ∀ (pre' : Roots) a', Z.nx (slL ds ins pre'.length a') (pre' ++ [lnT (L ++ insL ins s.ls)])) :
    wApp (wVar 2) (wLift (wAdd (wVar 1) (wFrz (wCall cLawSimple (wCons (wVar 3) wNil))))) Z (slL ds ins pre.length (some (.dat s.d))) (pre ++ [lnT L]) := by
  have sz := sl_eq
  have pn := plain_len s m h
  refine app_at (.str (ins ++ plainS s)) rfl ?_ (by rw [List.length_map]; omega) ?_
  · intro K hK
    exact ⟨rfl, spec_lp s m hb h _ _ ⟨by omega, hK⟩⟩
  · rw [app1]
    rw [e] at hk
    exact hk pre _
theorem lw_block {m : Nat} (hm : m ≤ 3) (q : Nat) (ih : ∀ m', m = m' + 1 → PLl m') (hq : m ≤ q) (s : St) (kd : Str) (hkd : kd.length ≤ 5) (e : Ex) (a : Sts) (rest : List D) (hd : s.d = .tup (.str kd :: e.d :: .lst a.ds :: rest)) (h1 : e.ok 1) (n : Nat) (hn : m = n + 1) (ha : a.Ok n)
    (ds : List D) (ins : Str) (hi : ins.length + 2 * m ≤ 100) (L E : List Str) (hL : L.length ≤ 3087) (hE : E.length ≤ 3088) (pre : Roots) (Z : WEnds) (wels : WS)
    (hels : ∀ (Y : WEnds) (M : List Str) (pre : Roots), M.length ≤ 8000 → (∀ (pre' : Roots) a', Y.nx (slL ds ins pre'.length a') (pre' ++ [lnT (M ++ E)])) → wels Y (slL ds ins pre.length (some (.dat s.d))) (pre ++ [lnT M]))
    (hk : ∀ (pre' : Roots) a', Z.nx (slL ds ins pre'.length a') (pre' ++ [lnT (L ++ insL ins ((kd ++ " " ++ showE e ++ " {") :: a.ls.map fin) ++ E ++ [ins ++ sEnd])])) :
    (wSeq (wApp (wVar 2) (wLift (wAdd (wAdd (wAdd (wAdd (wVar 1) (wIdx (wVar 3) (wC (.int 0)))) (wC (.str " "))) (wFrz (wCall (rcLs 6 0) (wCons (wIdx (wVar 3) (wC (.int 1))) wNil)))) (wC (.str " {")))))
    (wSeq (wNew 2 (wCatL (wVar 2) (wFrz (wCall (rcLl q 0) (wCons (wIdx (wVar 3) (wC (.int 2))) (wCons (wAdd (wVar 1) (wC (.str "  "))) wNil))))))
    (wCut wels (wApp (wVar 2) (wLift (wAdd (wVar 1) (wC (.str "}")))))))) Z (slL ds ins pre.length (some (.dat s.d))) (pre ++ [lnT L]) := by
  have sz := sl_eq
  have s1 := shl1 h1
  have ca := cnt3 ha (by omega)
  rw [hd]
  have g0 : (ins ++ kd ++ " " ++ showE e ++ " {").length ≤ sizeLine := by
    simp only [strLen_append, show (" " : Str).length = 1 from rfl, show (" {" : Str).length = 2 from rfl]
    omega
  have g1 := apl g0
  have g2 := apl g1
  have g3 := apl g2
  have gi : ("  " : Str).length = 2 := rfl
  unfold wSeq
  refine app_at (.str (ins ++ kd ++ " " ++ showE e ++ " {")) rfl ?_ (by rw [List.length_map]; omega) ?_
  · intro K hK
    exact ⟨.str kd, at0 _ _, ap g3, ap g2, e.d, at1 _ _ _, rfl, spec_ls e 1 6 h1 (by decide) (szb s1) _ _ ⟨ap g1, ap g0, hK⟩⟩
  rw [app1, hd_eq]
  dsimp only
  refine new_ln (L := L ++ [ins ++ (kd ++ " " ++ showE e ++ " {")] ++ insL (ins ++ "  ") a.ls) ?_ ?_
  · intro K hK
    refine cat_at rfl ?_ ?_ hK
    · intro K hK
      refine ⟨.lst a.ds, at2 _ _ _ _, by omega, rfl, ih n hn a q (ins ++ "  ") ha (by omega) (by rw [strLen_append]; omega) _ _ ?_⟩
      simp only [toD_ln]
      exact hK
    · rw [ins_len, List.length_append]
      show _ + 1 + _ ≤ _
      omega
  refine ⟨fun sl rt => ∃ pre' a', sl = slL ds ins (List.length pre') a' ∧ rt = pre' ++ [lnT (L ++ [ins ++ (kd ++ " " ++ showE e ++ " {")] ++ insL (ins ++ "  ") a.ls ++ E)], ?_, ?_⟩
  · have := hels { nx := fun sl rt => ∃ pre' a', sl = slL ds ins (List.length pre') a' ∧ rt = pre' ++ [lnT (L ++ [ins ++ (kd ++ " " ++ showE e ++ " {")] ++ insL (ins ++ "  ") a.ls ++ E)], rt := Z.rt, ro := Z.ro, bk := Z.bk, ct := Z.ct, ex := Z.ex } (L ++ [ins ++ (kd ++ " " ++ showE e ++ " {")] ++ insL (ins ++ "  ") a.ls) (pre ++ [lnT (L ++ [ins ++ (kd ++ " " ++ showE e ++ " {")])]) (by
      rw [List.length_append, List.length_append, ins_len]
      show _ + 1 + _ ≤ _
      omega) fun pre' a' => ⟨pre', a', rfl, rfl⟩
    rw [hd] at this
    exact this
  · rintro _ _ ⟨pre', a', rfl, rfl⟩
    refine app_at (.str (ins ++ sEnd)) rfl ?_ ?_ ?_
    · intro K hK
      refine ⟨?_, hK⟩
      show ins.length + 1 ≤ _
      omega
    · rw [List.length_map, List.length_append, List.length_append, List.length_append, ins_len]
      show _ + 1 + _ + _ < _
      omega
    · rw [app1]
      have := hk pre' a'
      have e1 : insL ins ((kd ++ " " ++ showE e ++ " {") :: a.ls.map fin) = [ins ++ (kd ++ " " ++ showE e ++ " {")] ++ insL (ins ++ "  ") a.ls := by
        rw [← ins_fin]
        rfl
      rw [e1, ← List.append_assoc] at this
      exact this
theorem lw_one {m : Nat} (hm : m ≤ 3) (q : Nat) (ih : ∀ m', m = m' + 1 → PLl m') (hq : m ≤ q) (s : St) (h : s.ok m)
    (ds : List D) (ins : Str) (hi : ins.length + 2 * m ≤ 100) (L : List Str) (hL : L.length ≤ 3087) (pre : Roots) (Z : WEnds)
    (hk : ∀ (pre' : Roots) a', Z.nx (slL ds ins pre'.length a') (pre' ++ [lnT (L ++ insL ins s.ls)])) : lineW (rcLl q) Z (slL ds ins pre.length (some (.dat s.d))) (pre ++ [lnT L]) := by
  have sz := sl_eq
  cases s with
  | set s e => exact ⟨_, rfl, by show 2 ≤ 1000; decide, rfl, rfl, fun z => absurd z (by decide +kernel), fun _ => lw_plain _ h rfl rfl ds ins (by omega) L hL pre Z hk⟩
  | put s e f => exact ⟨_, rfl, by show 2 ≤ 1000; decide, rfl, rfl, fun z => absurd z (by decide +kernel), fun _ => lw_plain _ h rfl rfl ds ins (by omega) L hL pre Z hk⟩
  | send c e s => exact ⟨_, rfl, by show 2 ≤ 1000; decide, rfl, rfl, fun z => absurd z (by decide +kernel), fun _ => lw_plain _ h rfl rfl ds ins (by omega) L hL pre Z hk⟩
  | recv c s t => exact ⟨_, rfl, by show 2 ≤ 1000; decide, rfl, rfl, fun z => absurd z (by decide +kernel), fun _ => lw_plain _ h rfl rfl ds ins (by omega) L hL pre Z hk⟩
  | frame s => exact ⟨_, rfl, by show 2 ≤ 1000; decide, rfl, rfl, fun z => absurd z (by decide +kernel), fun _ => lw_plain _ h rfl rfl ds ins (by omega) L hL pre Z hk⟩
  | rest => exact ⟨_, rfl, by show 2 ≤ 1000; decide, rfl, rfl, fun z => absurd z (by decide +kernel), fun _ => lw_plain _ h rfl rfl ds ins (by omega) L hL pre Z hk⟩
  | stop => exact ⟨_, rfl, by show 2 ≤ 1000; decide, rfl, rfl, fun z => absurd z (by decide +kernel), fun _ => lw_plain _ h rfl rfl ds ins (by omega) L hL pre Z hk⟩
  | iff e a b =>
    obtain ⟨n, rfl, h1, ha, hb⟩ := by unfold St.ok at h; exact h
    have cb := cnt3 hb (by omega)
    obtain ⟨px, p1, p2, p3⟩ := sts_ne b n (by omega) hb.2
    have gi : ("  " : Str).length = 2 := rfl
    refine ⟨_, rfl, by show 2 ≤ 1000; decide, rfl, rfl, fun _ => ?_, fun z => absurd z (by decide +kernel)⟩
    refine lw_block hm q ih hq (.iff e a b) "if" (by decide) e a [.lst b.ds] rfl h1 n rfl ha ds ins hi L (if 0 < b.len then insL ins (sElse :: b.ls.map fin) else []) hL ?_ pre Z _ ?_ ?_
    · split
      · rw [ins_len, List.length_cons, List.length_map]
        omega
      · exact Nat.zero_le _
    · intro Y M pre hM hY
      refine ⟨_, rfl, !PyData.eqv px (.list []), fun _ => ⟨_, rfl, by show 0 ≤ 1000; decide, px, .list [], p1, rfl, p2, rfl, rfl, rfl⟩, fun hw => ?_, fun hw => ?_⟩
      · have hw : (true && !PyData.eqv px (.list [])) = true := hw
        rw [p3] at hw
        have hw : (!decide (b.len = 0)) = true := hw
        have hw : ¬ b.len = 0 := by
          intro z
          rw [decide_eq_true z] at hw
          cases hw
        rw [if_pos (by omega)] at hY
        refine new_ln (L := M ++ [ins ++ sElse] ++ insL (ins ++ "  ") b.ls) ?_ ?_
        · intro K hK
          refine cat_dd (L := M ++ [ins ++ sElse]) ?_ ?_ ?_ hK
          · intro K hK
            refine frz_ln (L := M ++ [ins ++ sElse]) ?_ hK
            intro K hK
            refine cat_at (M := [ins ++ sElse]) rfl ?_ ?_ hK
            · intro K hK
              refine ⟨?_, by show 1 ≤ 1000; decide, hK⟩
              show ins.length + 8 ≤ _
              omega
            · show _ + 1 ≤ _
              omega
          · intro K hK
            refine ⟨_, rfl, by omega, rfl, ih n rfl b q (ins ++ "  ") hb (by omega) (by rw [strLen_append]; omega) _ _ ?_⟩
            simp only [toD_ln]
            exact hK
          · rw [ins_len, List.length_append]
            show _ + 1 + _ ≤ _
            omega
        · have := hY (pre ++ [lnT M]) (some (.dat (St.iff e a b).d))
          have e1 : insL ins (sElse :: b.ls.map fin) = [ins ++ sElse] ++ insL (ins ++ "  ") b.ls := by
            rw [← ins_fin]
            rfl
          rw [e1, ← List.append_assoc] at this
          exact this
      · have hw : (true && !PyData.eqv px (.list [])) = false := hw
        rw [p3] at hw
        have hw : (!decide (b.len = 0)) = false := hw
        have hw : b.len = 0 := Decidable.byContradiction fun z => by
          rw [decide_eq_false z] at hw
          cases hw
        rw [if_neg (by omega), List.append_nil] at hY
        exact hY pre _
    · intro pre' a'
      have := hk pre' a'
      have e1 : insL ins (St.iff e a b).ls = insL ins ((("if" : Str) ++ " " ++ showE e ++ " {") :: a.ls.map fin) ++ (if 0 < b.len then insL ins (sElse :: b.ls.map fin) else []) ++ [ins ++ sEnd] := by
        unfold St.ls
        rw [ins_app, ins_app]
        by_cases z : 0 < b.len
        · rw [if_pos z, if_pos z]
          rfl
        · rw [if_neg z, if_neg z]
          rfl
      rw [e1, ← List.append_assoc, ← List.append_assoc] at this
      exact this
  | whi e a =>
    obtain ⟨n, rfl, h1, ha⟩ := by unfold St.ok at h; exact h
    refine ⟨_, rfl, by show 2 ≤ 1000; decide, rfl, rfl, fun _ => ?_, fun z => absurd z (by decide +kernel)⟩
    refine lw_block hm q ih hq (.whi e a) "while" (by decide) e a [] rfl h1 n rfl ha ds ins hi L [] hL (Nat.zero_le _) pre Z _ ?_ ?_
    · intro Y M pre hM hY
      rw [List.append_nil] at hY
      exact ⟨_, rfl, false, fun z => absurd z (by decide +kernel), fun z => absurd z (by decide +kernel), fun _ => hY pre _⟩
    · intro pre' a'
      have := hk pre' a'
      have e1 : insL ins (St.whi e a).ls = insL ins ((("while" : Str) ++ " " ++ showE e ++ " {") :: a.ls.map fin) ++ [ins ++ sEnd] := by
        unfold St.ls
        rw [ins_app]
        rfl
      rw [e1, ← List.append_assoc] at this
      rw [List.append_nil]
      exact this
theorem ll_of {m : Nat} (hm : m ≤ 3) (ih : ∀ m', m = m' + 1 → PLl m') : PLl m := by
  intro b q ins h hq hi k kx hk
  obtain ⟨q, rfl⟩ : ∃ q', q = q' + 1 := ⟨q - 1, by omega⟩
  rw [rcLl_0]
  unfold cwOf weLawLines
  refine ⟨rfl, by show 0 ≤ 1000; decide, ?_⟩
  rw [ds_toL]
  refine ⟨AtL (b.toL.map St.d) ins (insL ins b.ls), ?_, ?_⟩
  · refine ⟨fun i => AtL (b.toL.map St.d) ins (insL ins ((b.toL.take i).map St.ls).flatten), ⟨[], none, rfl, rfl⟩, ?_, ?_⟩
    · rintro i d _ _ hd ⟨pre, a, rfl, rfl⟩
      rw [List.getElem?_map, Option.map_eq_some_iff] at hd
      obtain ⟨s, hs, rfl⟩ := hd
      have so := ok_toL h.2 s (List.mem_of_getElem? hs)
      have cL : (insL ins ((b.toL.take i).map St.ls).flatten).length ≤ 3087 := by rw [ins_len]; exact flat_take_cnt h hm i
      refine lw_one hm q ih (by omega) s so (b.toL.map St.d) ins hi _ cL pre _ fun pre' a' => Or.inl ⟨pre', a', rfl, ?_⟩
      rw [flat_take _ _ _ hs, ins_app]
    · rintro sl rt h
      rw [List.length_map, List.take_length, ← ls_toL] at h
      exact h
  · rintro _ _ ⟨pre, a, rfl, rfl⟩
    refine var_at rfl ⟨Nat.zero_le _, ?_⟩
    rw [List.getElem?_append_right (Nat.le_refl _), Nat.sub_self]
    exact hk
theorem spec_ll : ∀ m, m ≤ 3 → PLl m
  | 0, hm => ll_of hm fun _ z => (nomatch z)
  | m + 1, hm => ll_of hm fun _ z => by cases z; exact spec_ll m (by omega)
end K41
end

section
set_option linter.all false
set_option maxRecDepth 100000
set_option maxHeartbeats 1000000
set_option pp.deepTerms false
namespace K41
open PySem L2 Evl Wv
/-! ### equal trees -/
mutual
def gd : D → Bool
  | .int _ => true
  | .str _ => true
  | .tup ds => gds ds
  | .lst ds => gds ds
  | _ => false
def gds : List D → Bool
  | [] => true
  | d :: ds => gd d && gds ds
end
mutual
def tsz : D → Nat
  | .tup ds => tszs ds + 1
  | .lst ds => tszs ds + 1
  | _ => 1
def tszs : List D → Nat
  | [] => 0
  | d :: ds => tsz d + tszs ds
end
theorem gds_mem : ∀ {ds : List D}, gds ds = true → ∀ d ∈ ds, gd d = true
  | [], _, _, h => (nomatch h)
  | x :: ds, hg, d, h => by
    have hg : (gd x && gds ds) = true := hg
    obtain ⟨a, b⟩ := Bool.and_eq_true_iff.mp hg
    rcases List.mem_cons.mp h with rfl | h
    · exact a
    · exact gds_mem b d h
theorem tszs_app : ∀ (a b : List D), tszs (a ++ b) = tszs a + tszs b
  | [], b => (Nat.zero_add _).symm
  | x :: a, b => by
    show tsz x + tszs (a ++ b) = tsz x + tszs a + tszs b
    rw [tszs_app a b, Nat.add_assoc]
theorem tsz_pos : ∀ d : D, 1 ≤ tsz d := by
  intro d
  cases d <;> first | exact Nat.le_refl 1 | exact Nat.succ_le_succ (Nat.zero_le _)
theorem len_tszs : ∀ ds : List D, ds.length ≤ tszs ds
  | [] => Nat.le_refl 0
  | x :: ds => by
    have := len_tszs ds
    have := tsz_pos x
    show ds.length + 1 ≤ tsz x + tszs ds
    omega
abbrev pr2 (d : D) : D := .tup [d, d]
theorem zip_self : ∀ ds : List D, (ds.zip ds).map pairD = ds.map pr2
  | [] => rfl
  | d :: ds => by
    show pairD (d, d) :: (ds.zip ds).map pairD = _
    rw [zip_self ds]
    rfl
abbrev waT (W : List D) : T := .lst ((W.map pr2).map .dat)
def ISm (x : D) (m : Nat) (sl : Slots) (rt : Roots) : Prop := ∃ W a b, sl = [some (.dat x), some (.dat x), some (.ref 0 []), a, b] ∧ rt = [waT W] ∧ (∀ d ∈ W, gd d = true) ∧ tszs W = m ∧ m ≤ 30000
theorem spec_ar0 (x : D) (h : (∃ i, x = .int i) ∨ ∃ s, x = .str s) (k : T → Roots → Prop) (kx : Exn → Roots → Prop) (hk : k (.dat (.bool false)) []) : cAreRows [.dat x, .dat x] [] k kx := by
  unfold cAreRows cwOf weAreRows
  rcases h with ⟨i, rfl⟩ | ⟨i, rfl⟩
  · exact ⟨rfl, false, rfl, fun z => (nomatch z), fun _ => ⟨false, rfl, false, fun z => (nomatch z), hk⟩⟩
  · exact ⟨rfl, false, rfl, fun z => (nomatch z), fun _ => ⟨false, rfl, false, fun z => (nomatch z), hk⟩⟩
theorem spec_ar1 (x : D) (h : (∃ ds, x = .tup ds) ∨ ∃ ds, x = .lst ds) (k : T → Roots → Prop) (kx : Exn → Roots → Prop) (hk : k (.dat (.bool true)) []) : cAreRows [.dat x, .dat x] [] k kx := by
  unfold cAreRows cwOf weAreRows
  rcases h with ⟨i, rfl⟩ | ⟨i, rfl⟩
  · exact ⟨rfl, false, rfl, fun z => (nomatch z), fun _ => ⟨true, rfl, true, fun _ => ⟨true, rfl, rfl, rfl⟩, hk⟩⟩
  · exact ⟨rfl, true, rfl, fun _ => ⟨true, rfl, hk⟩, fun z => (nomatch z)⟩
theorem last_wa (W : List D) (x : D) : ((W ++ [x]).map pr2).map T.dat = (W.map pr2).map T.dat ++ [.dat (pr2 x)] := by simp
theorem spec_same (x : D) (hg : gd x = true) (hs : tsz x ≤ 30000) (k : T → Roots → Prop) (kx : Exn → Roots → Prop) (hk : k (.dat (.bool true)) []) : cSameTrees [.dat x, .dat x] [] k kx := by
  unfold cSameTrees cwOf weSameTrees
  refine ⟨rfl, by show 2 ≤ 1000; decide, by show 1 ≤ 1000; decide, ?_⟩
  refine ⟨fun sl rt => True, ?_, ?_⟩
  · refine ⟨ISm x, ⟨tsz x, [x], none, none, rfl, rfl, fun d hd => by cases List.mem_singleton.mp hd; exact hg, rfl, hs⟩, ?_⟩
    rintro m _ rt ⟨W, a, b, rfl, hrt, hW, hm, hb⟩
    rcases List.eq_nil_or_concat W with rfl | ⟨W, d, rfl⟩
    · subst hrt
      exact ⟨fun h => absurd h (by decide), fun _ => trivial⟩
    rw [List.concat_eq_append] at *
    have hd := hW d (List.mem_append_right _ (List.mem_singleton.mpr rfl))
    have hW' : ∀ y ∈ W, gd y = true := fun y hy => hW y (List.mem_append_left _ hy)
    rw [tszs_app] at hm
    have hm : tszs W + (tsz d + 0) = m := hm
    have hl := len_tszs W
    have hp := tsz_pos d
    rw [waT, last_wa] at hrt
    subst hrt
    refine ⟨fun _ => ?_, fun _ => trivial⟩
    refine ⟨?_, pr2 d, ?_, rfl, ?_⟩
    · rw [List.all_eq_true]
      intro t ht
      rcases List.mem_append.mp ht with ht | ht
      · obtain ⟨y, _, rfl⟩ := List.mem_map.mp ht
        rfl
      · cases List.mem_singleton.mp ht
        rfl
    · rw [List.length_append, List.length_singleton, Nat.add_sub_cancel, List.getElem?_append_right (Nat.le_refl _), Nat.sub_self]
      rfl
    have e0 : ((W.map pr2).map T.dat ++ [T.dat (pr2 d)]).dropLast = (W.map pr2).map T.dat := List.dropLast_concat
    rw [e0]
    cases d with
    | int i =>
      refine ⟨rfl, spec_ar0 _ (Or.inl ⟨i, rfl⟩) _ _ ⟨fun z => (nomatch z), fun _ => ?_⟩⟩
      refine ⟨fun z => ?_, fun _ => Or.inl ⟨tszs W, by omega, W, _, _, rfl, rfl, hW', rfl, by omega⟩⟩
      have z : (!decide (i = i)) = true := z
      rw [decide_eq_true rfl] at z
      cases z
    | str i =>
      refine ⟨rfl, spec_ar0 _ (Or.inr ⟨i, rfl⟩) _ _ ⟨fun z => (nomatch z), fun _ => ?_⟩⟩
      refine ⟨fun z => ?_, fun _ => Or.inl ⟨tszs W, by omega, W, _, _, rfl, rfl, hW', rfl, by omega⟩⟩
      have z : (!decide (i = i)) = true := z
      rw [decide_eq_true rfl] at z
      cases z
    | tup ds =>
      have hm : tszs W + (tszs ds + 1 + 0) = m := hm
      have hl2 := len_tszs ds
      refine ⟨rfl, spec_ar1 _ (Or.inl ⟨ds, rfl⟩) _ _ ⟨fun _ => ?_, fun z => (nomatch z)⟩⟩
      refine ⟨fun z => ?_, fun _ => ?_⟩
      · have z : (!decide ((ds.length : Int) = (ds.length : Int))) = true := z
        rw [decide_eq_true rfl] at z
        cases z
      refine ⟨rfl, by show ds.length ≤ _; omega, ?_⟩
      simp only [toD_dats, zip_self]
      refine ⟨by simp only [List.length_map]; omega, Or.inl ⟨tszs W + tszs ds, by omega, W ++ ds, _, _, rfl, ?_, ?_, tszs_app _ _, by omega⟩⟩
      · show [T.lst (_ ++ _)] = _
        rw [waT, List.map_append, List.map_append]
      · intro y hy
        rcases List.mem_append.mp hy with hy | hy
        · exact hW' y hy
        · exact gds_mem hd y hy
    | lst ds =>
      have hm : tszs W + (tszs ds + 1 + 0) = m := hm
      have hl2 := len_tszs ds
      refine ⟨rfl, spec_ar1 _ (Or.inr ⟨ds, rfl⟩) _ _ ⟨fun _ => ?_, fun z => (nomatch z)⟩⟩
      refine ⟨fun z => ?_, fun _ => ?_⟩
      · have z : (!decide ((ds.length : Int) = (ds.length : Int))) = true := z
        rw [decide_eq_true rfl] at z
        cases z
      refine ⟨rfl, by show ds.length ≤ _; omega, ?_⟩
      simp only [toD_dats, zip_self]
      refine ⟨by simp only [List.length_map]; omega, Or.inl ⟨tszs W + tszs ds, by omega, W ++ ds, _, _, rfl, ?_, ?_, tszs_app _ _, by omega⟩⟩
      · show [T.lst (_ ++ _)] = _
        rw [waT, List.map_append, List.map_append]
      · intro y hy
        rcases List.mem_append.mp hy with hy | hy
        · exact hW' y hy
        · exact gds_mem hd y hy
    | _ => exact absurd hd (by simp [gd])
  · rintro _ _ _
    exact hk
end K41
end

section
set_option linter.all false
set_option maxRecDepth 100000
set_option maxHeartbeats 1000000
set_option pp.deepTerms false
namespace K41
open PySem L2 Evl Wv
/-! ### the law -/
theorem ex_gd : ∀ (e : Ex) (m : Nat), e.ok m → gd e.d = true ∧ tsz e.d ≤ 6 * 2 ^ m - 3
  | .num i, m, _ => ⟨rfl, by have : 1 ≤ 2 ^ m := Nat.one_le_pow _ _ (by decide); show 3 ≤ _; omega⟩
  | .nam s, m, _ => ⟨rfl, by have : 1 ≤ 2 ^ m := Nat.one_le_pow _ _ (by decide); show 3 ≤ _; omega⟩
  | .item s e, _, h => by
    obtain ⟨n, rfl, h1, h2⟩ := h
    obtain ⟨a, b⟩ := ex_gd e n h2
    have : 1 ≤ 2 ^ n := Nat.one_le_pow _ _ (by decide)
    refine ⟨?_, ?_⟩
    · show (true && (true && (gd e.d && true))) = true
      rw [a]
      rfl
    · show 1 + (1 + (tsz e.d + 0)) + 1 ≤ _
      rw [Nat.pow_succ]
      omega
  | .inv e, _, h => by
    obtain ⟨n, rfl, h2⟩ := h
    obtain ⟨a, b⟩ := ex_gd e n h2
    have : 1 ≤ 2 ^ n := Nat.one_le_pow _ _ (by decide)
    refine ⟨?_, ?_⟩
    · show (true && (gd e.d && true)) = true
      rw [a]
      rfl
    · show 1 + (tsz e.d + 0) + 1 ≤ _
      rw [Nat.pow_succ]
      omega
  | .shift s e x, _, h => by
    obtain ⟨n, rfl, h1, h3, h2⟩ := h
    obtain ⟨a, b⟩ := ex_gd e n h2
    have : 1 ≤ 2 ^ n := Nat.one_le_pow _ _ (by decide)
    refine ⟨?_, ?_⟩
    · show (true && (true && (gd e.d && (true && true)))) = true
      rw [a]
      rfl
    · show 1 + (1 + (tsz e.d + (1 + 0))) + 1 ≤ _
      rw [Nat.pow_succ]
      omega
  | .op s e f, _, h => by
    obtain ⟨n, rfl, h1, h2, h3⟩ := h
    obtain ⟨a, b⟩ := ex_gd e n h2
    obtain ⟨c, d⟩ := ex_gd f n h3
    have : 1 ≤ 2 ^ n := Nat.one_le_pow _ _ (by decide)
    refine ⟨?_, ?_⟩
    · show (true && (true && (gd e.d && (gd f.d && true)))) = true
      rw [a, c]
      rfl
    · show 1 + (1 + (tsz e.d + (tsz f.d + 0))) + 1 ≤ _
      rw [Nat.pow_succ]
      omega
theorem ex1 {e : Ex} (h : e.ok 1) : gd e.d = true ∧ tsz e.d ≤ 9 := ex_gd e 1 h
theorem ex2 {e : Ex} (h : e.ok 2) : gd e.d = true ∧ tsz e.d ≤ 21 := ex_gd e 2 h
mutual
theorem st_gd : ∀ (s : St) (m : Nat), s.ok m → gd s.d = true ∧ tsz s.d ≤ 28 * 6 ^ m - 3
  | .set s e, m, h => by
    obtain ⟨h1, h2⟩ : Nx s ∧ e.ok 2 := by unfold St.ok at h; exact h
    obtain ⟨a, b⟩ := ex2 h2
    have : 1 ≤ 6 ^ m := Nat.one_le_pow _ _ (by decide)
    refine ⟨?_, ?_⟩
    · show (true && (true && (gd e.d && true))) = true
      rw [a]
      rfl
    · show 1 + (1 + (tsz e.d + 0)) + 1 ≤ _
      omega
  | .put s e f, m, h => by
    obtain ⟨h1, h2, h3⟩ : Nx s ∧ e.ok 1 ∧ f.ok 1 := by unfold St.ok at h; exact h
    obtain ⟨a, b⟩ := ex1 h2
    obtain ⟨c, d⟩ := ex1 h3
    have : 1 ≤ 6 ^ m := Nat.one_le_pow _ _ (by decide)
    refine ⟨?_, ?_⟩
    · show (true && (true && (gd e.d && (gd f.d && true)))) = true
      rw [a, c]
      rfl
    · show 1 + (1 + (tsz e.d + (tsz f.d + 0))) + 1 ≤ _
      omega
  | .send c e s, m, h => by
    obtain ⟨h0, h2, h1⟩ : W5 c ∧ e.ok 2 ∧ Nx s := by unfold St.ok at h; exact h
    obtain ⟨a, b⟩ := ex2 h2
    have : 1 ≤ 6 ^ m := Nat.one_le_pow _ _ (by decide)
    refine ⟨?_, ?_⟩
    · show (true && (true && (gd e.d && (true && true)))) = true
      rw [a]
      rfl
    · show 1 + (1 + (tsz e.d + (1 + 0))) + 1 ≤ _
      omega
  | .recv c s t, m, _ => ⟨rfl, by have : 1 ≤ 6 ^ m := Nat.one_le_pow _ _ (by decide); show 5 ≤ _; omega⟩
  | .frame s, m, _ => ⟨rfl, by have : 1 ≤ 6 ^ m := Nat.one_le_pow _ _ (by decide); show 3 ≤ _; omega⟩
  | .rest, m, _ => ⟨rfl, by have : 1 ≤ 6 ^ m := Nat.one_le_pow _ _ (by decide); show 2 ≤ _; omega⟩
  | .stop, m, _ => ⟨rfl, by have : 1 ≤ 6 ^ m := Nat.one_le_pow _ _ (by decide); show 2 ≤ _; omega⟩
  | .iff e a b, _, h => by
    obtain ⟨n, rfl, h1, ⟨a1, a2⟩, b1, b2⟩ := by unfold St.ok at h; exact h
    obtain ⟨x, y⟩ := ex1 h1
    obtain ⟨c, d⟩ := sts_gd a n a2
    obtain ⟨f, g⟩ := sts_gd b n b2
    have : 1 ≤ 6 ^ n := Nat.one_le_pow _ _ (by decide)
    have d : tszs a.ds ≤ 3 * (28 * 6 ^ n - 3) := Nat.le_trans d (Nat.mul_le_mul_right _ a1)
    have g : tszs b.ds ≤ 3 * (28 * 6 ^ n - 3) := Nat.le_trans g (Nat.mul_le_mul_right _ b1)
    refine ⟨?_, ?_⟩
    · show (true && (gd e.d && (gds a.ds && (gds b.ds && true)))) = true
      rw [x, c, f]
      rfl
    · show 1 + (tsz e.d + (tszs a.ds + 1 + (tszs b.ds + 1 + 0))) + 1 ≤ _
      rw [Nat.pow_succ]
      omega
  | .whi e a, _, h => by
    obtain ⟨n, rfl, h1, a1, a2⟩ := by unfold St.ok at h; exact h
    obtain ⟨x, y⟩ := ex1 h1
    obtain ⟨c, d⟩ := sts_gd a n a2
    have : 1 ≤ 6 ^ n := Nat.one_le_pow _ _ (by decide)
    have d : tszs a.ds ≤ 3 * (28 * 6 ^ n - 3) := Nat.le_trans d (Nat.mul_le_mul_right _ a1)
    refine ⟨?_, ?_⟩
    · show (true && (gd e.d && (gds a.ds && true))) = true
      rw [x, c]
      rfl
    · show 1 + (tsz e.d + (tszs a.ds + 1 + 0)) + 1 ≤ _
      rw [Nat.pow_succ]
      omega
theorem sts_gd : ∀ (b : Sts) (m : Nat), b.ok m → gds b.ds = true ∧ tszs b.ds ≤ b.len * (28 * 6 ^ m - 3)
  | .nil, _, _ => ⟨rfl, Nat.zero_le _⟩
  | .cons s r, m, h => by
    obtain ⟨a, b⟩ := st_gd s m h.1
    obtain ⟨c, d⟩ := sts_gd r m h.2
    refine ⟨?_, ?_⟩
    · show (gd s.d && gds r.ds) = true
      rw [a, c]
      rfl
    · show tsz s.d + tszs r.ds ≤ (r.len + 1) * _
      rw [Nat.add_mul, Nat.one_mul]
      omega
end
theorem ints_gd : ∀ ws : List Int, gds (dints ws) = true ∧ tszs (dints ws) = ws.length
  | [] => ⟨rfl, rfl⟩
  | w :: ws => by
    obtain ⟨a, b⟩ := ints_gd ws
    refine ⟨?_, ?_⟩
    · show (true && gds (dints ws)) = true
      rw [a]
      rfl
    · show 1 + tszs (dints ws) = ws.length + 1
      rw [b, Nat.add_comm]
theorem nm_gd (n : Nm) (h : n.ok) : gd n.d = true ∧ tsz n.d ≤ 20 := by
  cases n with
  | var s i => exact ⟨rfl, by show 4 ≤ 20; decide⟩
  | page s a n => exact ⟨rfl, by show 5 ≤ 20; decide⟩
  | tab s n ws =>
    obtain ⟨h1, h2, h3, h4⟩ := h
    obtain ⟨a, b⟩ := ints_gd ws
    refine ⟨?_, ?_⟩
    · show (true && (true && (true && (gds (dints ws) && true)))) = true
      rw [a]
      rfl
    · show 1 + (1 + (1 + (tszs (dints ws) + 1 + 0))) + 1 ≤ _
      omega
theorem nms_gd : ∀ (ns : List Nm), (∀ n ∈ ns, n.ok) → gds (ns.map Nm.d) = true ∧ tszs (ns.map Nm.d) ≤ ns.length * 20
  | [], _ => ⟨rfl, Nat.zero_le _⟩
  | n :: ns, h => by
    obtain ⟨a, b⟩ := nm_gd n (h n (List.mem_cons_self ..))
    obtain ⟨c, d⟩ := nms_gd ns fun x hx => h x (List.mem_cons_of_mem _ hx)
    refine ⟨?_, ?_⟩
    · show (gd n.d && gds _) = true
      rw [a, c]
      rfl
    · show tsz n.d + tszs _ ≤ (ns.length + 1) * 20
      omega
theorem spec_seq (ns : List Nm) (b : Sts) (h : OkS ns) (hb : b.Ok 3) (k : T → Roots → Prop) (kx : Exn → Roots → Prop) (hk : k (.dat (.bool true)) []) : cSourceEq [.dat (.obj 0 [nmD ns, .lst b.ds]), .dat (.obj 0 [nmD ns, .lst b.ds])] [] k kx := by
  obtain ⟨a1, a2⟩ := nms_gd ns h.2
  obtain ⟨b1, b2⟩ := sts_gd b 3 hb.2
  have hn := h.1
  have hl : tszs b.ds ≤ 3 * (28 * 6 ^ 3 - 3) := Nat.le_trans b2 (Nat.mul_le_mul_right _ hb.1)
  unfold cSourceEq cwOf weSourceEq
  refine ⟨rfl, rfl, true, fun _ => ⟨by show 2 ≤ 1000; decide, by show 2 ≤ 1000; decide, rfl, spec_same (.tup [nmD ns, .lst b.ds]) ?_ ?_ _ _ ⟨rfl, rfl⟩⟩, hk⟩
  · show (gds _ && (gds _ && true)) = true
    rw [a1, b1]
    rfl
  · show tszs _ + 1 + (tszs _ + 1 + 0) + 1 ≤ _
    omega
theorem spec_si (A B : List D) (k : T → Roots → Prop) (kx : Exn → Roots → Prop) (hk : k (.dat .non) [.obj 0 [.lst (A.map .dat), .lst (B.map .dat)]]) : cSourceInit [.ref 0 [], .dat (.lst A), .dat (.lst B)] [.obj 0 []] k kx := by
  unfold cSourceInit cwOf weSourceInit
  refine ⟨rfl, A, rfl, by show 0 < 900; decide, Or.inl ⟨rfl, ?_⟩⟩
  exact ⟨B, rfl, by show 1 < 900; decide, Or.inl ⟨rfl, hk⟩⟩
theorem toD_src (A B : List D) : (T.obj 0 [.lst (A.map .dat), .lst (B.map .dat)]).toD = .obj 0 [.lst A, .lst B] := by
  show D.obj 0 [.lst (T.toDs _), .lst (T.toDs _)] = _
  rw [toDs_dat, toDs_dat]
theorem toD_put (A B : List D) : ((T.obj 0 [.lst (A.map .dat), .lst (B.map .dat)]).put [] (T.obj 0 [])).toD = .obj 0 [.lst A, .lst B] := toD_src A B
theorem toD_nm (ns : List Nm) : (nmT ns).toD = nmD ns := by
  show D.lst (T.toDs _) = _
  rw [toDs_map]
theorem insE (L : List Str) : insL "" L = L := by
  unfold insL
  have : (fun l : Str => ("" : Str) ++ l) = id := by
    funext l
    exact epa l
  rw [this, List.map_id]
theorem the_law (cs : List Int) (k : T → Roots → Prop) (kx : Exn → Roots → Prop) (hk : k (.dat (.bool true)) []) : cLaw [.dat (.ro (dints cs))] [] k kx := by
  unfold cLaw cwOf weLaw
  refine ⟨rfl, by show 2 ≤ 1000; decide, rfl, spec_names 0 0 cs _ _ fun ns i j hn => ?_⟩
  simp only [toD_nm]
  have h : OkS ns := hn
  have hn1 := hn.1
  refine ⟨rfl, spec_body cs ns h 3 10 i j 3 true rfl (by decide) _ _ fun b i j hb => ?_⟩
  simp only [toD_dats]
  obtain ⟨l1, l2⟩ := allL_len h hb
  have hbl := cnt3 hb (by decide)
  refine ⟨rfl, spec_si _ _ _ _ ⟨rfl, ?_⟩⟩
  simp only [toD_put]
  refine ⟨lcI ns (fun n => .str (showN n)) [dst2 i j], ⟨rfl, rfl⟩, ?_, ?_⟩
  · rintro m d _ _ hd ⟨rfl, rfl⟩
    obtain ⟨x, hx, rfl, hm, hi⟩ := lc_at hd
    exact ⟨lc_len hi (by omega), fun _ => ⟨rfl, spec_ld x (h.2 x hm) _ _ (lc_step hx)⟩, fun z => (nomatch z)⟩
  rintro _ _ ⟨rfl, rfl⟩
  rw [lc_all]
  refine ⟨rfl, spec_ll 3 (by decide) b 6 "" hb (by decide) (by decide) _ _ ?_⟩
  refine ⟨(ns.map showN).map D.str, b.ls.map D.str, ?_, ?_, by simp only [List.length_map]; omega, ?_⟩
  · show some (T.toDs _) = _
    rw [toDs_map]
    simp
  · show some (T.toDs _) = _
    rw [toDs_map, insE]
  rw [← List.map_append]
  simp only [toD_dats, toD_put]
  refine ⟨rfl, spec_ps ns b h hb _ _ ?_⟩
  refine ⟨lcI (allL ns b) (fun l => .str (nl l)) [dst2 i j], ⟨rfl, rfl⟩, ?_, ?_⟩
  · rintro m d _ _ hd ⟨rfl, rfl⟩
    obtain ⟨x, hx, rfl, hm, hi⟩ := lc_at (L := allL ns b) hd
    refine ⟨lc_len hi (by omega), fun _ => ⟨?_, lc_step hx⟩, fun z => (nomatch z)⟩
    have := l2 x hm
    have := sl_eq
    show x.length + 1 ≤ _
    omega
  rintro _ _ ⟨rfl, rfl⟩
  rw [show ns.map showN ++ b.ls = allL ns b from rfl, lc_all]
  refine ⟨(allL ns b).map nl, ?_, nl_sum l1 l2, ?_⟩
  · show some (T.toDs _) = _
    rw [toDs_map, nl_D]
  refine ⟨true, fun _ => ⟨rfl, spec_si _ _ _ _ ⟨rfl, ?_⟩⟩, ?_⟩
  · refine ⟨rfl, rfl, ?_⟩
    simp only [toD_put]
    exact spec_seq ns b h hb _ _ ⟨rfl, rfl⟩
  · show k (.dat (.bool (decide (textOf (allL ns b) = textOf (allL ns b)) && true))) []
    rw [decide_eq_true rfl]
    exact hk
end K41
end

section
set_option Elab.async false
set_option linter.all false
set_option maxRecDepth 100000
set_option maxHeartbeats 4000000
namespace K41
open PySem PySem.Spec PyProof.Rows L2 Evl Wv
theorem dr_fn {K : PySem.W.Frag} {C : Cs} {G : Hp} {a : Addr} (j : Nat) (e : C.fn j = a) : DR K C G (.ref a) (.fn j) := e ▸ DR.fn j
def spLaw (K : PySem.W.Frag) : Sp := fun vs H Q _ => ∃ (a : Addr) (ns : List Int), vs = [.ref a] ∧ SqL K H a (ns.map V.int) ∧ ns.length ≤ 63 ∧ ∀ H', Q (.bl true) H'
theorem ok_fin {P : Program} {w : World} {K : PySem.W.Frag} {mg : Str → Option Value} {base : Heap} (T : Tx K w mg) : FnOk P w K mg base CX0 29 T.aLaw T.fdLaw PLaw (spLaw K) :=
  (ok_law T).imp fun vs H Q E h => by
    obtain ⟨a, ns, rfl, hS, hl, q⟩ := h
    refine ⟨H, [], [], [.dat (.ro (dints ns))], [], fun t rt => t = .dat (.bool true) ∧ rt = [], fun _ _ => False, ⟨Ex.refl _, .nil, List.nodup_nil, fun _ z => (nomatch z)⟩, .cons (DR.ro hS (DRs.of_ints ns)) .nil, the_law ns _ _ ⟨rfl, rfl⟩, ?_, fun _ _ _ _ _ _ _ _ _ _ z => z⟩
    rintro t rt' fps' fp G' H' v _ _ o _ ⟨rfl, rfl⟩
    cases o.tr with
    | dat h => cases h; exact q _
theorem all_mk {l : PySem.W.OpenLaw} {w : World} {K : PySem.W.Frag} {h : Heap} {mg : Str → Option Value} {fa : Addr} (X : K.In h) (G : h.Ns mainGlobals mg) (hfa : mg "law" = some (.ref fa))
    {C0 : Addr}
    {f0 : Addr} {od0 an0 : Option Addr} {sl0 : Array (Option Value)} {oc0 kV0 dc0 pm0 cd0 ct0 : Value}
    {f1 : Addr} {od1 an1 : Option Addr} {sl1 : Array (Option Value)} {oc1 kV1 dc1 pm1 cd1 ct1 : Value}
    {f2 : Addr} {od2 an2 : Option Addr} {sl2 : Array (Option Value)} {oc2 kV2 dc2 pm2 cd2 ct2 : Value}
    {f3 : Addr} {od3 an3 : Option Addr} {sl3 : Array (Option Value)} {oc3 kV3 dc3 pm3 cd3 ct3 : Value}
    {f4 : Addr} {od4 an4 : Option Addr} {sl4 : Array (Option Value)} {oc4 kV4 dc4 pm4 cd4 ct4 : Value}
    {f5 : Addr} {od5 an5 : Option Addr} {sl5 : Array (Option Value)} {oc5 kV5 dc5 pm5 cd5 ct5 : Value}
    {f6 : Addr} {od6 an6 : Option Addr} {sl6 : Array (Option Value)} {oc6 kV6 dc6 pm6 cd6 ct6 : Value}
    {f7 : Addr} {od7 an7 : Option Addr} {sl7 : Array (Option Value)} {oc7 kV7 dc7 pm7 cd7 ct7 : Value}
    {f8 : Addr} {od8 an8 : Option Addr} {sl8 : Array (Option Value)} {oc8 kV8 dc8 pm8 cd8 ct8 : Value}
    {f9 : Addr} {od9 an9 : Option Addr} {sl9 : Array (Option Value)} {oc9 kV9 dc9 pm9 cd9 ct9 : Value}
    {f10 : Addr} {od10 an10 : Option Addr} {sl10 : Array (Option Value)} {oc10 kV10 dc10 pm10 cd10 ct10 : Value}
    {f11 : Addr} {od11 an11 : Option Addr} {sl11 : Array (Option Value)} {oc11 kV11 dc11 pm11 cd11 ct11 : Value}
    {f12 : Addr} {od12 an12 : Option Addr} {sl12 : Array (Option Value)} {oc12 kV12 dc12 pm12 cd12 ct12 : Value}
    {f13 : Addr} {od13 an13 : Option Addr} {sl13 : Array (Option Value)} {oc13 kV13 dc13 pm13 cd13 ct13 : Value}
    {f14 : Addr} {od14 an14 : Option Addr} {sl14 : Array (Option Value)} {oc14 kV14 dc14 pm14 cd14 ct14 : Value}
    {f15 : Addr} {od15 an15 : Option Addr} {sl15 : Array (Option Value)} {oc15 kV15 dc15 pm15 cd15 ct15 : Value}
    {f16 : Addr} {od16 an16 : Option Addr} {sl16 : Array (Option Value)} {oc16 kV16 dc16 pm16 cd16 ct16 : Value}
    {f17 : Addr} {od17 an17 : Option Addr} {sl17 : Array (Option Value)} {oc17 kV17 dc17 pm17 cd17 ct17 : Value}
    {f18 : Addr} {od18 an18 : Option Addr} {sl18 : Array (Option Value)} {oc18 kV18 dc18 pm18 cd18 ct18 : Value}
    {f19 : Addr} {od19 an19 : Option Addr} {sl19 : Array (Option Value)} {oc19 kV19 dc19 pm19 cd19 ct19 : Value}
    {f20 : Addr} {od20 an20 : Option Addr} {sl20 : Array (Option Value)} {oc20 kV20 dc20 pm20 cd20 ct20 : Value}
    {f21 : Addr} {od21 an21 : Option Addr} {sl21 : Array (Option Value)} {oc21 kV21 dc21 pm21 cd21 ct21 : Value}
    {f22 : Addr} {od22 an22 : Option Addr} {sl22 : Array (Option Value)} {oc22 kV22 dc22 pm22 cd22 ct22 : Value}
    {f23 : Addr} {od23 an23 : Option Addr} {sl23 : Array (Option Value)} {oc23 kV23 dc23 pm23 cd23 ct23 : Value}
    {f24 : Addr} {od24 an24 : Option Addr} {sl24 : Array (Option Value)} {oc24 kV24 dc24 pm24 cd24 ct24 : Value}
    {f25 : Addr} {od25 an25 : Option Addr} {sl25 : Array (Option Value)} {oc25 kV25 dc25 pm25 cd25 ct25 : Value}
    {f26 : Addr} {od26 an26 : Option Addr} {sl26 : Array (Option Value)} {oc26 kV26 dc26 pm26 cd26 ct26 : Value}
    (ca0 : PySem.W.nsIn K mainGlobals "Source" = some (some (.ref C0)))
    (cp0 : PySem.W.plainGet K C0 PySem.Str.empty = true)
    (ch0 : PySem.W.hasDictIn K C0 = true)
    (co0 : PySem.W.plainOver K C0 = true)
    (cs0 : PySem.W.findIn K (.ref C0) "__setattr__" = some (some (.builtin "object.__setattr__")))
    (n0_names : PySem.W.findIn K (.ref C0) "names" = some none)
    (n0_body : PySem.W.findIn K (.ref C0) "body" = some none)
    (cc0 : PySem.W.findIn K (.ref C0) "__class__" = some (some (.builtin "object.__class__")))
    (cm0 : PySem.W.mroIn K C0 (.type "object") = some true)
    (ck0 : PySem.W.kitOne K (.ref C0) (.ref C0) = some true)
    (ci0 : PySem.W.kitOne K (.type "int") (.ref C0) = some false)
    (sp0 : PySem.W.specialIn K (.builtin "object.__class__") "__get__" = some (some (.builtin "getset_descriptor.__get__")))
    (tk0 : PySem.W.takesIn K (.builtin "object.__class__") = some true)
    (a0 : PySem.W.nsIn K mainGlobals "unrolled" = some (some (.ref f0)))
    (l0 : K.lookup f0 = some ⟨oc0, od0, .func (PySem.W.fnOf "unrolled" "unrolled" (defArgs sUnrolled) (defBody sUnrolled) (defScope sUnrolled) .none kV0 dc0 pm0 an0 cd0 ct0), sl0⟩)
    (c0 : PySem.W.codeIn K cd0 "unrolled" = true)
    (k0 : PySem.W.keepIn K (.ref f0) = true)
    (a1 : PySem.W.nsIn K mainGlobals "shown_first" = some (some (.ref f1)))
    (l1 : K.lookup f1 = some ⟨oc1, od1, .func (PySem.W.fnOf "shown_first" "shown_first" (defArgs sShownFirst) (defBody sShownFirst) (defScope sShownFirst) .none kV1 dc1 pm1 an1 cd1 ct1), sl1⟩)
    (c1 : PySem.W.codeIn K cd1 "shown_first" = true)
    (k1 : PySem.W.keepIn K (.ref f1) = true)
    (a2 : PySem.W.nsIn K mainGlobals "shown" = some (some (.ref f2)))
    (l2 : K.lookup f2 = some ⟨oc2, od2, .func (PySem.W.fnOf "shown" "shown" (defArgs sShown) (defBody sShown) (defScope sShown) .none kV2 dc2 pm2 an2 cd2 ct2), sl2⟩)
    (c2 : PySem.W.codeIn K cd2 "shown" = true)
    (k2 : PySem.W.keepIn K (.ref f2) = true)
    (a3 : PySem.W.nsIn K mainGlobals "shown_name" = some (some (.ref f3)))
    (l3 : K.lookup f3 = some ⟨oc3, od3, .func (PySem.W.fnOf "shown_name" "shown_name" (defArgs sShownName) (defBody sShownName) (defScope sShownName) .none kV3 dc3 pm3 an3 cd3 ct3), sl3⟩)
    (c3 : PySem.W.codeIn K cd3 "shown_name" = true)
    (k3 : PySem.W.keepIn K (.ref f3) = true)
    (a4 : PySem.W.nsIn K mainGlobals "shown_send" = some (some (.ref f4)))
    (l4 : K.lookup f4 = some ⟨oc4, od4, .func (PySem.W.fnOf "shown_send" "shown_send" (defArgs sShownSend) (defBody sShownSend) (defScope sShownSend) .none kV4 dc4 pm4 an4 cd4 ct4), sl4⟩)
    (c4 : PySem.W.codeIn K cd4 "shown_send" = true)
    (k4 : PySem.W.keepIn K (.ref f4) = true)
    (a5 : PySem.W.nsIn K mainGlobals "shown_plain" = some (some (.ref f5)))
    (l5 : K.lookup f5 = some ⟨oc5, od5, .func (PySem.W.fnOf "shown_plain" "shown_plain" (defArgs sShownPlain) (defBody sShownPlain) (defScope sShownPlain) .none kV5 dc5 pm5 an5 cd5 ct5), sl5⟩)
    (c5 : PySem.W.codeIn K cd5 "shown_plain" = true)
    (k5 : PySem.W.keepIn K (.ref f5) = true)
    (a6 : PySem.W.nsIn K mainGlobals "further_in" = some (some (.ref f6)))
    (l6 : K.lookup f6 = some ⟨oc6, od6, .func (PySem.W.fnOf "further_in" "further_in" (defArgs sFurtherIn) (defBody sFurtherIn) (defScope sFurtherIn) .none kV6 dc6 pm6 an6 cd6 ct6), sl6⟩)
    (c6 : PySem.W.codeIn K cd6 "further_in" = true)
    (k6 : PySem.W.keepIn K (.ref f6) = true)
    (a7 : PySem.W.nsIn K mainGlobals "lines_of" = some (some (.ref f7)))
    (l7 : K.lookup f7 = some ⟨oc7, od7, .func (PySem.W.fnOf "lines_of" "lines_of" (defArgs sLinesOf) (defBody sLinesOf) (defScope sLinesOf) .none kV7 dc7 pm7 an7 cd7 ct7), sl7⟩)
    (c7 : PySem.W.codeIn K cd7 "lines_of" = true)
    (k7 : PySem.W.keepIn K (.ref f7) = true)
    (a8 : PySem.W.nsIn K mainGlobals "lines_of_all" = some (some (.ref f8)))
    (l8 : K.lookup f8 = some ⟨oc8, od8, .func (PySem.W.fnOf "lines_of_all" "lines_of_all" (defArgs sLinesOfAll) (defBody sLinesOfAll) (defScope sLinesOfAll) .none kV8 dc8 pm8 an8 cd8 ct8), sl8⟩)
    (c8 : PySem.W.codeIn K cd8 "lines_of_all" = true)
    (k8 : PySem.W.keepIn K (.ref f8) = true)
    (a9 : PySem.W.nsIn K mainGlobals "print_source" = some (some (.ref f9)))
    (l9 : K.lookup f9 = some ⟨oc9, od9, .func (PySem.W.fnOf "print_source" "print_source" (defArgs sPrintSource) (defBody sPrintSource) (defScope sPrintSource) .none kV9 dc9 pm9 an9 cd9 ct9), sl9⟩)
    (c9 : PySem.W.codeIn K cd9 "print_source" = true)
    (k9 : PySem.W.keepIn K (.ref f9) = true)
    (a10 : PySem.W.nsIn K mainGlobals "are_rows" = some (some (.ref f10)))
    (l10 : K.lookup f10 = some ⟨oc10, od10, .func (PySem.W.fnOf "are_rows" "are_rows" (defArgs sAreRows) (defBody sAreRows) (defScope sAreRows) .none kV10 dc10 pm10 an10 cd10 ct10), sl10⟩)
    (c10 : PySem.W.codeIn K cd10 "are_rows" = true)
    (k10 : PySem.W.keepIn K (.ref f10) = true)
    (a11 : PySem.W.nsIn K mainGlobals "same_trees" = some (some (.ref f11)))
    (l11 : K.lookup f11 = some ⟨oc11, od11, .func (PySem.W.fnOf "same_trees" "same_trees" (defArgs sSameTrees) (defBody sSameTrees) (defScope sSameTrees) .none kV11 dc11 pm11 an11 cd11 ct11), sl11⟩)
    (c11 : PySem.W.codeIn K cd11 "same_trees" = true)
    (k11 : PySem.W.keepIn K (.ref f11) = true)
    (a12 : PySem.W.findIn K (.ref C0) "__init__" = some (some (.ref f12)))
    (t12 : PySem.W.isFn K (.ref f12) = true)
    (l12 : K.lookup f12 = some ⟨oc12, od12, .func (PySem.W.fnOf "__init__" "Source.__init__" (defArgs sSourceInit) (defBody sSourceInit) (defScope sSourceInit) .none kV12 dc12 pm12 an12 cd12 ct12), sl12⟩)
    (c12 : PySem.W.codeIn K cd12 "Source.__init__" = true)
    (k12 : PySem.W.keepIn K (.ref f12) = true)
    (mk0 : PySem.W.makesIn K C0 = true)
    (kc0 : PySem.W.keepIn K (.ref C0) = true)
    (a13 : PySem.W.findIn K (.ref C0) "__eq__" = some (some (.ref f13)))
    (t13 : PySem.W.isFn K (.ref f13) = true)
    (l13 : K.lookup f13 = some ⟨oc13, od13, .func (PySem.W.fnOf "__eq__" "Source.__eq__" (defArgs sSourceEq) (defBody sSourceEq) (defScope sSourceEq) .none kV13 dc13 pm13 an13 cd13 ct13), sl13⟩)
    (c13 : PySem.W.codeIn K cd13 "Source.__eq__" = true)
    (k13 : PySem.W.keepIn K (.ref f13) = true)
    (ne0 : PySem.W.findIn K (.ref C0) "__ne__" = some (some (.builtin "object.__ne__")))
    (a14 : PySem.W.nsIn K mainGlobals "_law_draw" = some (some (.ref f14)))
    (l14 : K.lookup f14 = some ⟨oc14, od14, .func (PySem.W.fnOf "_law_draw" "_law_draw" (defArgs sLawDraw) (defBody sLawDraw) (defScope sLawDraw) .none kV14 dc14 pm14 an14 cd14 ct14), sl14⟩)
    (c14 : PySem.W.codeIn K cd14 "_law_draw" = true)
    (k14 : PySem.W.keepIn K (.ref f14) = true)
    (a15 : PySem.W.nsIn K mainGlobals "_law_names" = some (some (.ref f15)))
    (l15 : K.lookup f15 = some ⟨oc15, od15, .func (PySem.W.fnOf "_law_names" "_law_names" (defArgs sLawNames) (defBody sLawNames) (defScope sLawNames) .none kV15 dc15 pm15 an15 cd15 ct15), sl15⟩)
    (c15 : PySem.W.codeIn K cd15 "_law_names" = true)
    (k15 : PySem.W.keepIn K (.ref f15) = true)
    (a16 : PySem.W.nsIn K mainGlobals "_law_of" = some (some (.ref f16)))
    (l16 : K.lookup f16 = some ⟨oc16, od16, .func (PySem.W.fnOf "_law_of" "_law_of" (defArgs sLawOf) (defBody sLawOf) (defScope sLawOf) .none kV16 dc16 pm16 an16 cd16 ct16), sl16⟩)
    (c16 : PySem.W.codeIn K cd16 "_law_of" = true)
    (k16 : PySem.W.keepIn K (.ref f16) = true)
    (a17 : PySem.W.nsIn K mainGlobals "_law_pick" = some (some (.ref f17)))
    (l17 : K.lookup f17 = some ⟨oc17, od17, .func (PySem.W.fnOf "_law_pick" "_law_pick" (defArgs sLawPick) (defBody sLawPick) (defScope sLawPick) .none kV17 dc17 pm17 an17 cd17 ct17), sl17⟩)
    (c17 : PySem.W.codeIn K cd17 "_law_pick" = true)
    (k17 : PySem.W.keepIn K (.ref f17) = true)
    (a18 : PySem.W.nsIn K mainGlobals "_law_expression" = some (some (.ref f18)))
    (l18 : K.lookup f18 = some ⟨oc18, od18, .func (PySem.W.fnOf "_law_expression" "_law_expression" (defArgs sLawExpression) (defBody sLawExpression) (defScope sLawExpression) .none kV18 dc18 pm18 an18 cd18 ct18), sl18⟩)
    (c18 : PySem.W.codeIn K cd18 "_law_expression" = true)
    (k18 : PySem.W.keepIn K (.ref f18) = true)
    (a19 : PySem.W.nsIn K mainGlobals "_law_call" = some (some (.ref f19)))
    (l19 : K.lookup f19 = some ⟨oc19, od19, .func (PySem.W.fnOf "_law_call" "_law_call" (defArgs sLawCall) (defBody sLawCall) (defScope sLawCall) .none kV19 dc19 pm19 an19 cd19 ct19), sl19⟩)
    (c19 : PySem.W.codeIn K cd19 "_law_call" = true)
    (k19 : PySem.W.keepIn K (.ref f19) = true)
    (a20 : PySem.W.nsIn K mainGlobals "_law_statement" = some (some (.ref f20)))
    (l20 : K.lookup f20 = some ⟨oc20, od20, .func (PySem.W.fnOf "_law_statement" "_law_statement" (defArgs sLawStatement) (defBody sLawStatement) (defScope sLawStatement) .none kV20 dc20 pm20 an20 cd20 ct20), sl20⟩)
    (c20 : PySem.W.codeIn K cd20 "_law_statement" = true)
    (k20 : PySem.W.keepIn K (.ref f20) = true)
    (a21 : PySem.W.nsIn K mainGlobals "_law_body" = some (some (.ref f21)))
    (l21 : K.lookup f21 = some ⟨oc21, od21, .func (PySem.W.fnOf "_law_body" "_law_body" (defArgs sLawBody) (defBody sLawBody) (defScope sLawBody) .none kV21 dc21 pm21 an21 cd21 ct21), sl21⟩)
    (c21 : PySem.W.codeIn K cd21 "_law_body" = true)
    (k21 : PySem.W.keepIn K (.ref f21) = true)
    (a22 : PySem.W.nsIn K mainGlobals "_law_shown" = some (some (.ref f22)))
    (l22 : K.lookup f22 = some ⟨oc22, od22, .func (PySem.W.fnOf "_law_shown" "_law_shown" (defArgs sLawShown) (defBody sLawShown) (defScope sLawShown) .none kV22 dc22 pm22 an22 cd22 ct22), sl22⟩)
    (c22 : PySem.W.codeIn K cd22 "_law_shown" = true)
    (k22 : PySem.W.keepIn K (.ref f22) = true)
    (a23 : PySem.W.nsIn K mainGlobals "_law_simple" = some (some (.ref f23)))
    (l23 : K.lookup f23 = some ⟨oc23, od23, .func (PySem.W.fnOf "_law_simple" "_law_simple" (defArgs sLawSimple) (defBody sLawSimple) (defScope sLawSimple) .none kV23 dc23 pm23 an23 cd23 ct23), sl23⟩)
    (c23 : PySem.W.codeIn K cd23 "_law_simple" = true)
    (k23 : PySem.W.keepIn K (.ref f23) = true)
    (a24 : PySem.W.nsIn K mainGlobals "_law_lines" = some (some (.ref f24)))
    (l24 : K.lookup f24 = some ⟨oc24, od24, .func (PySem.W.fnOf "_law_lines" "_law_lines" (defArgs sLawLines) (defBody sLawLines) (defScope sLawLines) .none kV24 dc24 pm24 an24 cd24 ct24), sl24⟩)
    (c24 : PySem.W.codeIn K cd24 "_law_lines" = true)
    (k24 : PySem.W.keepIn K (.ref f24) = true)
    (a25 : PySem.W.nsIn K mainGlobals "_law_declared" = some (some (.ref f25)))
    (l25 : K.lookup f25 = some ⟨oc25, od25, .func (PySem.W.fnOf "_law_declared" "_law_declared" (defArgs sLawDeclared) (defBody sLawDeclared) (defScope sLawDeclared) .none kV25 dc25 pm25 an25 cd25 ct25), sl25⟩)
    (c25 : PySem.W.codeIn K cd25 "_law_declared" = true)
    (k25 : PySem.W.keepIn K (.ref f25) = true)
    (a26 : PySem.W.nsIn K mainGlobals "law" = some (some (.ref f26)))
    (l26 : K.lookup f26 = some ⟨oc26, od26, .func (PySem.W.fnOf "law" "law" (defArgs sLaw) (defBody sLaw) (defScope sLaw) .none kV26 dc26 pm26 an26 cd26 ct26), sl26⟩)
    (c26 : PySem.W.codeIn K cd26 "law" = true)
    (k26 : PySem.W.keepIn K (.ref f26) = true)
    (z_len : PySem.W.nsIn K mainGlobals "len" = some none)
    (z_int : PySem.W.nsIn K mainGlobals "int" = some none)
    (z_range : PySem.W.nsIn K mainGlobals "range" = some none)
    (z_tuple : PySem.W.nsIn K mainGlobals "tuple" = some none)
    (z_list : PySem.W.nsIn K mainGlobals "list" = some none)
    (z_isinstance : PySem.W.nsIn K mainGlobals "isinstance" = some none)
    (z_str : PySem.W.nsIn K mainGlobals "str" = some none)
    (z_min : PySem.W.nsIn K mainGlobals "min" = some none)
    (z_zip : PySem.W.nsIn K mainGlobals "zip" = some none) :
    ∃ fd : FuncData, (∀ (s : Shared) (v : Value), BindsTo s fd ⟨[v], []⟩ [("script", v)]) ∧ ∀ base : Heap, K.In base → base.Ns mainGlobals mg → FnOk l.prog w K mg base CX0 29 fa fd ["script"] (spLaw K) := by
  have e := hfa.symm.trans (PySem.W.mg_of X G a26)
  cases e
  let T : Tx K w mg :=
    { cSource := C0
      gSource := PySem.W.mg_of X G ca0
      clSource := ⟨cp0, ch0, co0, cs0⟩
      nSource_names := n0_names
      nSource_body := n0_body
      isSource := ⟨⟨cp0, ch0, co0, cs0⟩, cc0, sp0, tk0, cm0, ck0, ci0⟩
      aUnrolled := f0
      fdUnrolled := PySem.W.fnOf "unrolled" "unrolled" (defArgs sUnrolled) (defBody sUnrolled) (defScope sUnrolled) .none kV0 dc0 pm0 an0 cd0 ct0
      dUnrolled := ⟨fun_mk (st := sUnrolled) l0 c0 k0, PySem.W.mg_of X G a0, (fun_mk (st := sUnrolled) l0 c0 k0).binds (ps := PUnrolled) fun _ _ _ _ _ _ us hl => match us, hl with | [_], _ => rfl⟩
      aShownFirst := f1
      fdShownFirst := PySem.W.fnOf "shown_first" "shown_first" (defArgs sShownFirst) (defBody sShownFirst) (defScope sShownFirst) .none kV1 dc1 pm1 an1 cd1 ct1
      dShownFirst := ⟨fun_mk (st := sShownFirst) l1 c1 k1, PySem.W.mg_of X G a1, (fun_mk (st := sShownFirst) l1 c1 k1).binds (ps := PShownFirst) fun _ _ _ _ _ _ us hl => match us, hl with | [_], _ => rfl⟩
      aShown := f2
      fdShown := PySem.W.fnOf "shown" "shown" (defArgs sShown) (defBody sShown) (defScope sShown) .none kV2 dc2 pm2 an2 cd2 ct2
      dShown := ⟨fun_mk (st := sShown) l2 c2 k2, PySem.W.mg_of X G a2, (fun_mk (st := sShown) l2 c2 k2).binds (ps := PShown) fun _ _ _ _ _ _ us hl => match us, hl with | [_], _ => rfl⟩
      aShownName := f3
      fdShownName := PySem.W.fnOf "shown_name" "shown_name" (defArgs sShownName) (defBody sShownName) (defScope sShownName) .none kV3 dc3 pm3 an3 cd3 ct3
      dShownName := ⟨fun_mk (st := sShownName) l3 c3 k3, PySem.W.mg_of X G a3, (fun_mk (st := sShownName) l3 c3 k3).binds (ps := PShownName) fun _ _ _ _ _ _ us hl => match us, hl with | [_], _ => rfl⟩
      aShownSend := f4
      fdShownSend := PySem.W.fnOf "shown_send" "shown_send" (defArgs sShownSend) (defBody sShownSend) (defScope sShownSend) .none kV4 dc4 pm4 an4 cd4 ct4
      dShownSend := ⟨fun_mk (st := sShownSend) l4 c4 k4, PySem.W.mg_of X G a4, (fun_mk (st := sShownSend) l4 c4 k4).binds (ps := PShownSend) fun _ _ _ _ _ _ us hl => match us, hl with | [_], _ => rfl⟩
      aShownPlain := f5
      fdShownPlain := PySem.W.fnOf "shown_plain" "shown_plain" (defArgs sShownPlain) (defBody sShownPlain) (defScope sShownPlain) .none kV5 dc5 pm5 an5 cd5 ct5
      dShownPlain := ⟨fun_mk (st := sShownPlain) l5 c5 k5, PySem.W.mg_of X G a5, (fun_mk (st := sShownPlain) l5 c5 k5).binds (ps := PShownPlain) fun _ _ _ _ _ _ us hl => match us, hl with | [_], _ => rfl⟩
      aFurtherIn := f6
      fdFurtherIn := PySem.W.fnOf "further_in" "further_in" (defArgs sFurtherIn) (defBody sFurtherIn) (defScope sFurtherIn) .none kV6 dc6 pm6 an6 cd6 ct6
      dFurtherIn := ⟨fun_mk (st := sFurtherIn) l6 c6 k6, PySem.W.mg_of X G a6, (fun_mk (st := sFurtherIn) l6 c6 k6).binds (ps := PFurtherIn) fun _ _ _ _ _ _ us hl => match us, hl with | [_], _ => rfl⟩
      aLinesOf := f7
      fdLinesOf := PySem.W.fnOf "lines_of" "lines_of" (defArgs sLinesOf) (defBody sLinesOf) (defScope sLinesOf) .none kV7 dc7 pm7 an7 cd7 ct7
      dLinesOf := ⟨fun_mk (st := sLinesOf) l7 c7 k7, PySem.W.mg_of X G a7, (fun_mk (st := sLinesOf) l7 c7 k7).binds (ps := PLinesOf) fun _ _ _ _ _ _ us hl => match us, hl with | [_], _ => rfl⟩
      aLinesOfAll := f8
      fdLinesOfAll := PySem.W.fnOf "lines_of_all" "lines_of_all" (defArgs sLinesOfAll) (defBody sLinesOfAll) (defScope sLinesOfAll) .none kV8 dc8 pm8 an8 cd8 ct8
      dLinesOfAll := ⟨fun_mk (st := sLinesOfAll) l8 c8 k8, PySem.W.mg_of X G a8, (fun_mk (st := sLinesOfAll) l8 c8 k8).binds (ps := PLinesOfAll) fun _ _ _ _ _ _ us hl => match us, hl with | [_], _ => rfl⟩
      aPrintSource := f9
      fdPrintSource := PySem.W.fnOf "print_source" "print_source" (defArgs sPrintSource) (defBody sPrintSource) (defScope sPrintSource) .none kV9 dc9 pm9 an9 cd9 ct9
      dPrintSource := ⟨fun_mk (st := sPrintSource) l9 c9 k9, PySem.W.mg_of X G a9, (fun_mk (st := sPrintSource) l9 c9 k9).binds (ps := PPrintSource) fun _ _ _ _ _ _ us hl => match us, hl with | [_], _ => rfl⟩
      aAreRows := f10
      fdAreRows := PySem.W.fnOf "are_rows" "are_rows" (defArgs sAreRows) (defBody sAreRows) (defScope sAreRows) .none kV10 dc10 pm10 an10 cd10 ct10
      dAreRows := ⟨fun_mk (st := sAreRows) l10 c10 k10, PySem.W.mg_of X G a10, (fun_mk (st := sAreRows) l10 c10 k10).binds (ps := PAreRows) fun _ _ _ _ _ _ us hl => match us, hl with | [_, _], _ => rfl⟩
      aSameTrees := f11
      fdSameTrees := PySem.W.fnOf "same_trees" "same_trees" (defArgs sSameTrees) (defBody sSameTrees) (defScope sSameTrees) .none kV11 dc11 pm11 an11 cd11 ct11
      dSameTrees := ⟨fun_mk (st := sSameTrees) l11 c11 k11, PySem.W.mg_of X G a11, (fun_mk (st := sSameTrees) l11 c11 k11).binds (ps := PSameTrees) fun _ _ _ _ _ _ us hl => match us, hl with | [_, _], _ => rfl⟩
      aSourceInit := f12
      fdSourceInit := PySem.W.fnOf "__init__" "Source.__init__" (defArgs sSourceInit) (defBody sSourceInit) (defScope sSourceInit) .none kV12 dc12 pm12 an12 cd12 ct12
      mSourceInit := ⟨fun_mk (st := sSourceInit) l12 c12 k12, (fun_mk (st := sSourceInit) l12 c12 k12).binds (ps := PSourceInit) fun _ _ _ _ _ _ us hl => match us, hl with | [_, _, _], _ => rfl⟩
      mkSource := ⟨mk0, a12, t12, kc0⟩
      aSourceEq := f13
      fdSourceEq := PySem.W.fnOf "__eq__" "Source.__eq__" (defArgs sSourceEq) (defBody sSourceEq) (defScope sSourceEq) .none kV13 dc13 pm13 an13 cd13 ct13
      mSourceEq := ⟨fun_mk (st := sSourceEq) l13 c13 k13, (fun_mk (st := sSourceEq) l13 c13 k13).binds (ps := PSourceEq) fun _ _ _ _ _ _ us hl => match us, hl with | [_, _], _ => rfl⟩
      eqSource := ⟨a13, ne0, t13, cm0⟩
      aLawDraw := f14
      fdLawDraw := PySem.W.fnOf "_law_draw" "_law_draw" (defArgs sLawDraw) (defBody sLawDraw) (defScope sLawDraw) .none kV14 dc14 pm14 an14 cd14 ct14
      dLawDraw := ⟨fun_mk (st := sLawDraw) l14 c14 k14, PySem.W.mg_of X G a14, (fun_mk (st := sLawDraw) l14 c14 k14).binds (ps := PLawDraw) fun _ _ _ _ _ _ us hl => match us, hl with | [_, _, _], _ => rfl⟩
      aLawNames := f15
      fdLawNames := PySem.W.fnOf "_law_names" "_law_names" (defArgs sLawNames) (defBody sLawNames) (defScope sLawNames) .none kV15 dc15 pm15 an15 cd15 ct15
      dLawNames := ⟨fun_mk (st := sLawNames) l15 c15 k15, PySem.W.mg_of X G a15, (fun_mk (st := sLawNames) l15 c15 k15).binds (ps := PLawNames) fun _ _ _ _ _ _ us hl => match us, hl with | [_, _, _], _ => rfl⟩
      aLawOf := f16
      fdLawOf := PySem.W.fnOf "_law_of" "_law_of" (defArgs sLawOf) (defBody sLawOf) (defScope sLawOf) .none kV16 dc16 pm16 an16 cd16 ct16
      dLawOf := ⟨fun_mk (st := sLawOf) l16 c16 k16, PySem.W.mg_of X G a16, (fun_mk (st := sLawOf) l16 c16 k16).binds (ps := PLawOf) fun _ _ _ _ _ _ us hl => match us, hl with | [_, _], _ => rfl⟩
      aLawPick := f17
      fdLawPick := PySem.W.fnOf "_law_pick" "_law_pick" (defArgs sLawPick) (defBody sLawPick) (defScope sLawPick) .none kV17 dc17 pm17 an17 cd17 ct17
      dLawPick := ⟨fun_mk (st := sLawPick) l17 c17 k17, PySem.W.mg_of X G a17, (fun_mk (st := sLawPick) l17 c17 k17).binds (ps := PLawPick) fun _ _ _ _ _ _ us hl => match us, hl with | [_, _, _], _ => rfl⟩
      aLawExpression := f18
      fdLawExpression := PySem.W.fnOf "_law_expression" "_law_expression" (defArgs sLawExpression) (defBody sLawExpression) (defScope sLawExpression) .none kV18 dc18 pm18 an18 cd18 ct18
      dLawExpression := ⟨fun_mk (st := sLawExpression) l18 c18 k18, PySem.W.mg_of X G a18, (fun_mk (st := sLawExpression) l18 c18 k18).binds (ps := PLawExpression) fun _ _ _ _ _ _ us hl => match us, hl with | [_, _, _, _], _ => rfl⟩
      aLawCall := f19
      fdLawCall := PySem.W.fnOf "_law_call" "_law_call" (defArgs sLawCall) (defBody sLawCall) (defScope sLawCall) .none kV19 dc19 pm19 an19 cd19 ct19
      dLawCall := ⟨fun_mk (st := sLawCall) l19 c19 k19, PySem.W.mg_of X G a19, (fun_mk (st := sLawCall) l19 c19 k19).binds (ps := PLawCall) fun _ _ _ _ _ _ us hl => match us, hl with | [_, _, _, _], _ => rfl⟩
      aLawStatement := f20
      fdLawStatement := PySem.W.fnOf "_law_statement" "_law_statement" (defArgs sLawStatement) (defBody sLawStatement) (defScope sLawStatement) .none kV20 dc20 pm20 an20 cd20 ct20
      dLawStatement := ⟨fun_mk (st := sLawStatement) l20 c20 k20, PySem.W.mg_of X G a20, (fun_mk (st := sLawStatement) l20 c20 k20).binds (ps := PLawStatement) fun _ _ _ _ _ _ us hl => match us, hl with | [_, _, _, _, _], _ => rfl⟩
      aLawBody := f21
      fdLawBody := PySem.W.fnOf "_law_body" "_law_body" (defArgs sLawBody) (defBody sLawBody) (defScope sLawBody) .none kV21 dc21 pm21 an21 cd21 ct21
      dLawBody := ⟨fun_mk (st := sLawBody) l21 c21 k21, PySem.W.mg_of X G a21, (fun_mk (st := sLawBody) l21 c21 k21).binds (ps := PLawBody) fun _ _ _ _ _ _ us hl => match us, hl with | [_, _, _, _, _], _ => rfl⟩
      aLawShown := f22
      fdLawShown := PySem.W.fnOf "_law_shown" "_law_shown" (defArgs sLawShown) (defBody sLawShown) (defScope sLawShown) .none kV22 dc22 pm22 an22 cd22 ct22
      dLawShown := ⟨fun_mk (st := sLawShown) l22 c22 k22, PySem.W.mg_of X G a22, (fun_mk (st := sLawShown) l22 c22 k22).binds (ps := PLawShown) fun _ _ _ _ _ _ us hl => match us, hl with | [_], _ => rfl⟩
      aLawSimple := f23
      fdLawSimple := PySem.W.fnOf "_law_simple" "_law_simple" (defArgs sLawSimple) (defBody sLawSimple) (defScope sLawSimple) .none kV23 dc23 pm23 an23 cd23 ct23
      dLawSimple := ⟨fun_mk (st := sLawSimple) l23 c23 k23, PySem.W.mg_of X G a23, (fun_mk (st := sLawSimple) l23 c23 k23).binds (ps := PLawSimple) fun _ _ _ _ _ _ us hl => match us, hl with | [_], _ => rfl⟩
      aLawLines := f24
      fdLawLines := PySem.W.fnOf "_law_lines" "_law_lines" (defArgs sLawLines) (defBody sLawLines) (defScope sLawLines) .none kV24 dc24 pm24 an24 cd24 ct24
      dLawLines := ⟨fun_mk (st := sLawLines) l24 c24 k24, PySem.W.mg_of X G a24, (fun_mk (st := sLawLines) l24 c24 k24).binds (ps := PLawLines) fun _ _ _ _ _ _ us hl => match us, hl with | [_, _], _ => rfl⟩
      aLawDeclared := f25
      fdLawDeclared := PySem.W.fnOf "_law_declared" "_law_declared" (defArgs sLawDeclared) (defBody sLawDeclared) (defScope sLawDeclared) .none kV25 dc25 pm25 an25 cd25 ct25
      dLawDeclared := ⟨fun_mk (st := sLawDeclared) l25 c25 k25, PySem.W.mg_of X G a25, (fun_mk (st := sLawDeclared) l25 c25 k25).binds (ps := PLawDeclared) fun _ _ _ _ _ _ us hl => match us, hl with | [_], _ => rfl⟩
      aLaw := fa
      fdLaw := PySem.W.fnOf "law" "law" (defArgs sLaw) (defBody sLaw) (defScope sLaw) .none kV26 dc26 pm26 an26 cd26 ct26
      dLaw := ⟨fun_mk (st := sLaw) l26 c26 k26, PySem.W.mg_of X G a26, (fun_mk (st := sLaw) l26 c26 k26).binds (ps := PLaw) fun _ _ _ _ _ _ us hl => match us, hl with | [_], _ => rfl⟩
      b_len := PySem.W.mg_none_of X G z_len
      b_int := PySem.W.mg_none_of X G z_int
      b_range := PySem.W.mg_none_of X G z_range
      b_tuple := PySem.W.mg_none_of X G z_tuple
      b_list := PySem.W.mg_none_of X G z_list
      b_isinstance := PySem.W.mg_none_of X G z_isinstance
      b_str := PySem.W.mg_none_of X G z_str
      b_min := PySem.W.mg_none_of X G z_min
      b_zip := PySem.W.mg_none_of X G z_zip }
  exact ⟨T.fdLaw, fun s v => .of_eq rfl, fun base _ _ => ok_fin T⟩
theorem walk {l : PySem.W.OpenLaw} {q : Program} {loose : List Str} {XP : (Str → Option Value) → Heap → Prop} {YP : World → Heap → Prop} {d : DefRec} {K : Params → PySem.W.Frag} (hn : l.most = some 63) (hdf : d.params.defaults = [])
    (hY : ∀ (w : World) (h : Heap), YP w h → (K w.params).In h)
    (F : ∀ (w : World) (mg : Str → Option Value) (fa : Addr) (h : Heap), (K w.params).In h → h.Ns mainGlobals mg → mg d.name = some (.ref fa) →
      ∃ fd : FuncData, (∀ (s : Shared) (u : Value), BindsTo s fd ⟨[u], []⟩ [("script", u)]) ∧ ∀ base : Heap, (K w.params).In base → base.Ns mainGlobals mg → FnOk l.prog w (K w.params) mg base CX0 29 fa fd ["script"] (spLaw (K w.params))) :
    PySem.W.WalkO q loose XP YP l.row.toRowW d [] (fun f vs => PySem.call f vs) :=
  L2.walk_of (n := 63) (k := 29) (x := "script") (CX := fun _ => CX0) (sp := fun w => spLaw (K w.params)) hn (by decide) hdf ⟨rfl, by decide, by decide⟩ hY F (fun _ _ a ns hl _ hS => ⟨a, ns, rfl, hS, hl, fun _ => rfl⟩) fun _ _ _ _ _ z => z
end K41
open PySem PySem.W PyProof.Rows
set_option maxRecDepth 100000 in
set_option maxHeartbeats 0 in
theorem PySem.Challenge.cw_merestone_k41_printed_programs_holds : PySem.Challenge.rw_merestone_k41_printed_programs.Holds := by
  w_on; o_law; k_head; (case hw => w_witness2)
  k_fill
  refine K41.walk (l := PySem.Challenge.rw_merestone_k41_printed_programs) rfl rfl (fun w h Y => PySem.W.kIn_of Y) ?F
  case F =>
    intro w mg fa h KX G hmg
    refine' K41.all_mk KX G hmg ?ca0 ?cp0 ?ch0 ?co0 ?cs0 ?n0_names ?n0_body ?cc0 ?cm0 ?ck0 ?ci0 ?sp0 ?tk0 ?a0 ?l0 ?c0 ?k0 ?a1 ?l1 ?c1 ?k1 ?a2 ?l2 ?c2 ?k2 ?a3 ?l3 ?c3 ?k3 ?a4 ?l4 ?c4 ?k4 ?a5 ?l5 ?c5 ?k5 ?a6 ?l6 ?c6 ?k6 ?a7 ?l7 ?c7 ?k7 ?a8 ?l8 ?c8 ?k8 ?a9 ?l9 ?c9 ?k9 ?a10 ?l10 ?c10 ?k10 ?a11 ?l11 ?c11 ?k11 ?a12 ?t12 ?l12 ?c12 ?k12 ?mk0 ?kc0 ?a13 ?t13 ?l13 ?c13 ?k13 ?ne0 ?a14 ?l14 ?c14 ?k14 ?a15 ?l15 ?c15 ?k15 ?a16 ?l16 ?c16 ?k16 ?a17 ?l17 ?c17 ?k17 ?a18 ?l18 ?c18 ?k18 ?a19 ?l19 ?c19 ?k19 ?a20 ?l20 ?c20 ?k20 ?a21 ?l21 ?c21 ?k21 ?a22 ?l22 ?c22 ?k22 ?a23 ?l23 ?c23 ?k23 ?a24 ?l24 ?c24 ?k24 ?a25 ?l25 ?c25 ?k25 ?a26 ?l26 ?c26 ?k26 ?z_len ?z_int ?z_range ?z_tuple ?z_list ?z_isinstance ?z_str ?z_min ?z_zip
    (case ca0 => k_is)
    (case cp0 => k_is)
    (case ch0 => k_is)
    (case co0 => k_is)
    (case cs0 => k_is)
    (case n0_names => k_is)
    (case n0_body => k_is)
    (case cc0 => k_is)
    (case cm0 => k_is)
    (case ck0 => kit_is)
    (case ci0 => kit_is)
    (case sp0 => k_is)
    (case tk0 => k_is)
    (case a0 => k_is)
    (case l0 => k_is)
    (case c0 => k_is)
    (case k0 => k_is)
    (case a1 => k_is)
    (case l1 => k_is)
    (case c1 => k_is)
    (case k1 => k_is)
    (case a2 => k_is)
    (case l2 => k_is)
    (case c2 => k_is)
    (case k2 => k_is)
    (case a3 => k_is)
    (case l3 => k_is)
    (case c3 => k_is)
    (case k3 => k_is)
    (case a4 => k_is)
    (case l4 => k_is)
    (case c4 => k_is)
    (case k4 => k_is)
    (case a5 => k_is)
    (case l5 => k_is)
    (case c5 => k_is)
    (case k5 => k_is)
    (case a6 => k_is)
    (case l6 => k_is)
    (case c6 => k_is)
    (case k6 => k_is)
    (case a7 => k_is)
    (case l7 => k_is)
    (case c7 => k_is)
    (case k7 => k_is)
    (case a8 => k_is)
    (case l8 => k_is)
    (case c8 => k_is)
    (case k8 => k_is)
    (case a9 => k_is)
    (case l9 => k_is)
    (case c9 => k_is)
    (case k9 => k_is)
    (case a10 => k_is)
    (case l10 => k_is)
    (case c10 => k_is)
    (case k10 => k_is)
    (case a11 => k_is)
    (case l11 => k_is)
    (case c11 => k_is)
    (case k11 => k_is)
    (case a12 => k_is)
    (case t12 => k_is)
    (case l12 => k_is)
    (case c12 => k_is)
    (case k12 => k_is)
    (case mk0 => k_is)
    (case kc0 => k_is)
    (case a13 => k_is)
    (case t13 => k_is)
    (case l13 => k_is)
    (case c13 => k_is)
    (case k13 => k_is)
    (case ne0 => k_is)
    (case a14 => k_is)
    (case l14 => k_is)
    (case c14 => k_is)
    (case k14 => k_is)
    (case a15 => k_is)
    (case l15 => k_is)
    (case c15 => k_is)
    (case k15 => k_is)
    (case a16 => k_is)
    (case l16 => k_is)
    (case c16 => k_is)
    (case k16 => k_is)
    (case a17 => k_is)
    (case l17 => k_is)
    (case c17 => k_is)
    (case k17 => k_is)
    (case a18 => k_is)
    (case l18 => k_is)
    (case c18 => k_is)
    (case k18 => k_is)
    (case a19 => k_is)
    (case l19 => k_is)
    (case c19 => k_is)
    (case k19 => k_is)
    (case a20 => k_is)
    (case l20 => k_is)
    (case c20 => k_is)
    (case k20 => k_is)
    (case a21 => k_is)
    (case l21 => k_is)
    (case c21 => k_is)
    (case k21 => k_is)
    (case a22 => k_is)
    (case l22 => k_is)
    (case c22 => k_is)
    (case k22 => k_is)
    (case a23 => k_is)
    (case l23 => k_is)
    (case c23 => k_is)
    (case k23 => k_is)
    (case a24 => k_is)
    (case l24 => k_is)
    (case c24 => k_is)
    (case k24 => k_is)
    (case a25 => k_is)
    (case l25 => k_is)
    (case c25 => k_is)
    (case k25 => k_is)
    (case a26 => k_is)
    (case l26 => k_is)
    (case c26 => k_is)
    (case k26 => k_is)
    (case z_len => k_is)
    (case z_int => k_is)
    (case z_range => k_is)
    (case z_tuple => k_is)
    (case z_list => k_is)
    (case z_isinstance => k_is)
    (case z_str => k_is)
    (case z_min => k_is)
    (case z_zip => k_is)
#print axioms PySem.Challenge.cw_merestone_k41_printed_programs_holds
end
