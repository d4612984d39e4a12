import PyProof.Rows.All
import Wide.All
import OpenK.AllK
import Wide.FinOn
import HandS.ForMost
import HandS.Exc
import HandS.ExcOwn
import HandS.ExcInit
import HandS.ExcSuper
import HandS.FStr
import KE.KExcSuper
import HandS.Deep
import KE.SortData
import PyProof.ReprRoads
import PyProof.CallFns
import HandS.Dict
import KE.KDictPairs
import HandS.TupLen
import HandS.ExcIs
import HandS.ExcField
import HandS.ExcValue
import HandS.IsInst
import KE.KExcIs
import KE.KExcStr
import HandS.Iter
import HandS.DictTup
import PyProof.Rows.TupDisplay
import HandS.DictComp
import HandS.Style
import HandS.Property
import HandS.EndBits
import HandS.Zip
import HandS.WordsExc
import HandS.Head0
import HandS.Head1
import HandS.Head2
import HandS.HeadEnd
import HandS.HeadHook1
import HandS.HeadHook2
import PySem.Challenge.RW_hushweb_k16_error_classes
set_option Elab.async false
set_option linter.all false
set_option maxRecDepth 100000
set_option maxHeartbeats 4000000
/-! the abstract domain: values, objects, the abstract heap as a tree, what it stands for -/
namespace J
open PySem L2

inductive AV where
  | non | bl (b : Bool) | int (i : Int) | str (x : Str) | ref (n : Nat) | ty (n : String) | gl (x : Nat)
  deriving DecidableEq
inductive AO where
  | lst (xs : List AV) | rol (xs : List AV) | kol (xs : List AV) | tup (xs : List AV) | dK (kvs : List (Key × AV)) | dT (kvs : List (List Key × AV)) | fK (kvs : List (Key × AV)) | fT (kvs : List (List Key × AV)) | exc (C : Nat) (ar d : Option Nat) | xd (fs : List (Str × AV)) | unk | ins (C : Nat) (fs : List (Str × AV))

def AV.lt (n : Nat) : AV → Prop
  | .ref k => k < n
  | _ => True
def AO.lt (n : Nat) : AO → Prop
  | .lst xs | .rol xs | .kol xs | .tup xs => ∀ v ∈ xs, v.lt n
  | .dK kvs | .fK kvs => ∀ p ∈ kvs, p.2.lt n
  | .dT kvs | .fT kvs => ∀ p ∈ kvs, p.2.lt n
  | .exc _ ar d => (∀ i, ar = some i → i < n) ∧ ∀ i, d = some i → i < n
  | .xd fs => ∀ p ∈ fs, p.2.lt n
  | .unk => True
  | .ins _ fs => ∀ p ∈ fs, p.2.lt n
theorem AV.lt.mono {n m : Nat} (h : n ≤ m) : ∀ {v : AV}, v.lt n → v.lt m
  | .ref k, x => Nat.lt_of_lt_of_le x h
  | .non, _ => trivial | .bl _, _ => trivial | .int _, _ => trivial | .str _, _ => trivial | .ty _, _ => trivial | .gl _, _ => trivial
theorem AO.lt.mono {n m : Nat} (h : n ≤ m) : ∀ {o : AO}, o.lt n → o.lt m
  | .lst _, x => fun v hv => (x v hv).mono h
  | .rol _, x => fun v hv => (x v hv).mono h
  | .kol _, x => fun v hv => (x v hv).mono h
  | .tup _, x => fun v hv => (x v hv).mono h
  | .dK _, x => fun v hv => (x v hv).mono h
  | .dT _, x => fun v hv => (x v hv).mono h
  | .fK _, x => fun v hv => (x v hv).mono h
  | .fT _, x => fun v hv => (x v hv).mono h
  | .exc _ _ _, x => ⟨fun i e => Nat.lt_of_lt_of_le (x.1 i e) h, fun i e => Nat.lt_of_lt_of_le (x.2 i e) h⟩
  | .xd _, x => fun v hv => (x v hv).mono h
  | .unk, _ => trivial
  | .ins _ _, x => fun v hv => (x v hv).mono h

/-! ### the tree -/
inductive Tr where
  | nil | node (o : Option AO) (l r : Tr)
def Tr.get : Tr → Nat → Option AO
  | .nil, _ => none
  | .node o l r, k => if k = 0 then o else if k % 2 = 1 then l.get (k / 2) else r.get (k / 2 - 1)
def Tr.put : Nat → Tr → Nat → AO → Tr
  | 0, t, _, _ => t
  | f + 1, .nil, k, v => if k = 0 then .node (some v) .nil .nil else if k % 2 = 1 then .node none (Tr.put f .nil (k / 2) v) .nil else .node none .nil (Tr.put f .nil (k / 2 - 1) v)
  | f + 1, .node o l r, k, v => if k = 0 then .node (some v) l r else if k % 2 = 1 then .node o (Tr.put f l (k / 2) v) r else .node o l (Tr.put f r (k / 2 - 1) v)
theorem Tr.get_put : ∀ (f : Nat) (t : Tr) (k : Nat) (v : AO) (j : Nat), k < f → (Tr.put f t k v).get j = if j = k then some v else t.get j
  | 0, _, _, _, _, h => absurd h (Nat.not_lt_zero _)
  | f + 1, .nil, k, v, j, h => by
    unfold Tr.put
    by_cases k0 : k = 0
    · subst k0
      rw [if_pos rfl]
      unfold Tr.get
      by_cases j0 : j = 0
      · rw [if_pos j0, if_pos j0]
      · rw [if_neg j0, if_neg j0]
        split <;> rfl
    · rw [if_neg k0]
      by_cases k1 : k % 2 = 1
      · rw [if_pos k1]
        show (if j = 0 then none else if j % 2 = 1 then (Tr.put f .nil (k / 2) v).get (j / 2) else Tr.nil.get (j / 2 - 1)) = _
        by_cases j0 : j = 0
        · rw [if_pos j0, if_neg (by omega)]; rfl
        · rw [if_neg j0]
          by_cases j1 : j % 2 = 1
          · rw [if_pos j1, Tr.get_put f .nil (k / 2) v (j / 2) (by omega)]
            by_cases e : j = k
            · rw [if_pos e, if_pos (by omega)]
            · rw [if_neg e, if_neg (by omega)]; rfl
          · rw [if_neg j1, if_neg (by omega)]; rfl
      · rw [if_neg k1]
        show (if j = 0 then none else if j % 2 = 1 then Tr.nil.get (j / 2) else (Tr.put f .nil (k / 2 - 1) v).get (j / 2 - 1)) = _
        by_cases j0 : j = 0
        · rw [if_pos j0, if_neg (by omega)]; rfl
        · rw [if_neg j0]
          by_cases j1 : j % 2 = 1
          · rw [if_pos j1, if_neg (by omega)]; rfl
          · rw [if_neg j1, Tr.get_put f .nil (k / 2 - 1) v (j / 2 - 1) (by omega)]
            by_cases e : j = k
            · rw [if_pos e, if_pos (by omega)]
            · rw [if_neg e, if_neg (by omega)]; rfl
  | f + 1, .node o l r, k, v, j, h => by
    unfold Tr.put
    by_cases k0 : k = 0
    · subst k0
      rw [if_pos rfl]
      show (if j = 0 then some v else if j % 2 = 1 then l.get (j / 2) else r.get (j / 2 - 1)) = if j = 0 then some v else (if j = 0 then o else if j % 2 = 1 then l.get (j / 2) else r.get (j / 2 - 1))
      by_cases j0 : j = 0
      · rw [if_pos j0, if_pos j0]
      · rw [if_neg j0, if_neg j0, if_neg j0]
    · rw [if_neg k0]
      by_cases k1 : k % 2 = 1
      · rw [if_pos k1]
        show (if j = 0 then o else if j % 2 = 1 then (Tr.put f l (k / 2) v).get (j / 2) else r.get (j / 2 - 1)) = if j = k then some v else (if j = 0 then o else if j % 2 = 1 then l.get (j / 2) else r.get (j / 2 - 1))
        by_cases j0 : j = 0
        · rw [if_pos j0, if_neg (by omega), if_pos j0]
        · rw [if_neg j0, if_neg j0]
          by_cases j1 : j % 2 = 1
          · rw [if_pos j1, if_pos j1, Tr.get_put f l (k / 2) v (j / 2) (by omega)]
            by_cases e : j = k
            · rw [if_pos e, if_pos (by omega)]
            · rw [if_neg e, if_neg (by omega)]
          · rw [if_neg j1, if_neg j1, if_neg (by omega)]
      · rw [if_neg k1]
        show (if j = 0 then o else if j % 2 = 1 then l.get (j / 2) else (Tr.put f r (k / 2 - 1) v).get (j / 2 - 1)) = if j = k then some v else (if j = 0 then o else if j % 2 = 1 then l.get (j / 2) else r.get (j / 2 - 1))
        by_cases j0 : j = 0
        · rw [if_pos j0, if_neg (by omega), if_pos j0]
        · rw [if_neg j0, if_neg j0]
          by_cases j1 : j % 2 = 1
          · rw [if_pos j1, if_pos j1, if_neg (by omega)]
          · rw [if_neg j1, if_neg j1, Tr.get_put f r (k / 2 - 1) v (j / 2 - 1) (by omega)]
            by_cases e : j = k
            · rw [if_pos e, if_pos (by omega)]
            · rw [if_neg e, if_neg (by omega)]

structure AH where
  n : Nat
  t : Tr
def AH.get (h : AH) (i : Nat) : Option AO := h.t.get i
def AH.set (h : AH) (i : Nat) (o : AO) : AH := ⟨h.n, Tr.put (i + 1) h.t i o⟩
def AH.push (h : AH) (o : AO) : AH := ⟨h.n + 1, Tr.put (h.n + 1) h.t h.n o⟩
theorem AH.get_set (h : AH) (i j : Nat) (o : AO) : (h.set i o).get j = if j = i then some o else h.get j := Tr.get_put _ _ _ _ _ (Nat.lt_succ_self _)
theorem AH.get_push (h : AH) (j : Nat) (o : AO) : (h.push o).get j = if j = h.n then some o else h.get j := Tr.get_put _ _ _ _ _ (Nat.lt_succ_self _)

/-! ### what is stood for -/
section
variable (G : Nat → Addr) (α : Nat → Addr)
def cv : AV → V
  | .non => .non | .bl b => .bl b | .int i => .int i | .str x => .str x | .ref n => .ref (α n) | .ty n => .ty n | .gl x => .ref (G x)
def cvs (xs : List AV) : List V := xs.map (cv G α)
/-- a list of the written part -/
def KL (K : PySem.W.Frag) (a : Addr) (xs : List V) : Prop := ∃ (o : Obj) (its : Array Value) (n : Nat), K.lookup a = some o ∧ o.cls = .type "list" ∧ o.dict = none ∧ o.data = .seq its n ∧ its.size ≤ sizeLine ∧ Vals xs its.toList
/-- one place of the abstract heap for one object -/
def AO.own : AO → Bool
  | .kol _ | .rol _ | .tup _ | .exc _ _ _ | .xd _ | .unk => false
  | _ => true
/-- an exception that is kept -/
def ExK (cls : Value) (ar d : Option Addr) (a : Addr) (u : HO) : Prop := ∃ φ : Heap → Prop, u = .ext φ ∧ ∀ h : Heap, φ h → ∃ oe vs, h.get? a = some oe ∧ oe.cls = cls ∧ oe.dict = d ∧ oe.data = .fields vs ∧ ∀ t, ar = some t → vs[0]? = some (.ref t)
end
section
variable (K : PySem.W.Frag) (G : Nat → Addr) (α : Nat → Addr)
def Co (H : Hp) (a : Addr) : AO → Prop
  | .kol xs => KL K a (cvs G α xs)
  | .lst xs => H a = some (.lst (cvs G α xs))
  | .rol xs => ∃ o, H a = some (.frz o (.lst (cvs G α xs)))
  | .tup xs => H a = some (.tup (cvs G α xs))
  | .dK kvs => H a = some (.dK (kvs.map fun p => (p.1, cv G α p.2)))
  | .dT kvs => H a = some (.dT (kvs.map fun p => (p.1, cv G α p.2)))
  | .fK kvs => ∃ o, H a = some (.frz o (.dK (kvs.map fun p => (p.1, cv G α p.2))))
  | .fT kvs => ∃ o, H a = some (.frz o (.dT (kvs.map fun p => (p.1, cv G α p.2))))
  | .exc C ar d => ∃ u, H a = some u ∧ ExK (.ref (G C)) (ar.map α) (d.map α) a u
  | .xd fs => H a = some (.xd (fs.map fun p => (p.1, cv G α p.2)))
  | .unk => True
  | .ins C fs => ∃ dx, H a = some (.ins (G C) dx (fs.map fun p => (p.1, cv G α p.2)))
structure Good (h : AH) (H : Hp) : Prop where
  at_ : ∀ i o, h.get i = some o → i < h.n ∧ o.lt h.n ∧ Co K G α H (α i) o
  inj : ∀ i j oi oj, h.get i = some oi → h.get j = some oj → oi.own = true → oj.own = true → α i = α j → i = j
end
section
variable {K : PySem.W.Frag} {G : Nat → Addr} {α β : Nat → Addr} {h h' : AH} {H H' : Hp} {n : Nat}
theorem cv_ext (e : ∀ i, i < n → β i = α i) : ∀ {v : AV}, v.lt n → cv G β v = cv G α v
  | .ref k, x => by show V.ref _ = V.ref _; rw [e k x]
  | .non, _ => rfl | .bl _, _ => rfl | .int _, _ => rfl | .str _, _ => rfl | .ty _, _ => rfl | .gl _, _ => rfl
theorem cvs_ext (e : ∀ i, i < n → β i = α i) {xs : List AV} (x : ∀ v ∈ xs, v.lt n) : cvs G β xs = cvs G α xs := List.map_congr_left fun v hv => cv_ext e (x v hv)
theorem kvs_ext {κ : Type} (e : ∀ i, i < n → β i = α i) {xs : List (κ × AV)} (x : ∀ p ∈ xs, p.2.lt n) : (xs.map fun p => (p.1, cv G β p.2)) = xs.map fun p => (p.1, cv G α p.2) :=
  List.map_congr_left fun v hv => by rw [cv_ext e (x v hv)]
theorem Co.ext {a : Addr} (e : ∀ i, i < n → β i = α i) : ∀ {o : AO}, o.lt n → Co K G α H a o → Co K G β H a o
  | .lst xs, x, c => by show H a = _; rw [cvs_ext e x]; exact c
  | .rol xs, x, ⟨o, c⟩ => ⟨o, by rw [cvs_ext e x]; exact c⟩
  | .kol xs, x, c => by show KL K a _; rw [cvs_ext e x]; exact c
  | .tup xs, x, c => by show H a = _; rw [cvs_ext e x]; exact c
  | .dK xs, x, c => by show H a = _; rw [kvs_ext e x]; exact c
  | .dT xs, x, c => by show H a = _; rw [kvs_ext e x]; exact c
  | .fK xs, x, ⟨o, c⟩ => ⟨o, by rw [kvs_ext e x]; exact c⟩
  | .fT xs, x, ⟨o, c⟩ => ⟨o, by rw [kvs_ext e x]; exact c⟩
  | .exc _ ar d, x, c => by
    have e1 : ar.map β = ar.map α := by cases ar with | none => rfl | some i => exact congrArg some (e i (x.1 i rfl))
    have e2 : d.map β = d.map α := by cases d with | none => rfl | some i => exact congrArg some (e i (x.2 i rfl))
    show ∃ u, _ ∧ _; rw [e1, e2]; exact c
  | .xd xs, x, c => by show H a = _; rw [kvs_ext e x]; exact c
  | .unk, _, c => c
  | .ins C xs, x, ⟨dx, c⟩ => ⟨dx, by rw [kvs_ext e x]; exact c⟩
theorem Co.keep {a : Addr} (e : H' a = H a) : ∀ {o : AO}, Co K G α H a o → Co K G α H' a o
  | .lst xs, c => by show H' a = _; rw [e]; exact c
  | .rol xs, ⟨o, c⟩ => ⟨o, by rw [e]; exact c⟩
  | .kol xs, c => c
  | .tup xs, c => by show H' a = _; rw [e]; exact c
  | .dK xs, c => by show H' a = _; rw [e]; exact c
  | .dT xs, c => by show H' a = _; rw [e]; exact c
  | .fK xs, ⟨o, c⟩ => ⟨o, by rw [e]; exact c⟩
  | .fT xs, ⟨o, c⟩ => ⟨o, by rw [e]; exact c⟩
  | .exc _ _ _, ⟨u, c, x⟩ => ⟨u, by rw [e]; exact c, x⟩
  | .xd xs, c => by show H' a = _; rw [e]; exact c
  | .unk, c => c
  | .ins C xs, ⟨dx, c⟩ => ⟨dx, by rw [e]; exact c⟩
/-- told by H -/
def AO.told : AO → Bool
  | .kol _ | .unk => false
  | _ => true
theorem AO.told_of {o : AO} (h : o.own = true) : o.told = true := by cases o <;> first | rfl | cases h
theorem Co.some {a : Addr} : ∀ {o : AO}, o.told = true → Co K G α H a o → H a ≠ none
  | .lst xs, _, c => by rw [show H a = _ from c]; simp
  | .rol xs, _, ⟨o, c⟩ => by rw [c]; simp
  | .tup xs, _, c => by rw [show H a = _ from c]; simp
  | .dK xs, _, c => by rw [show H a = _ from c]; simp
  | .dT xs, _, c => by rw [show H a = _ from c]; simp
  | .fK xs, _, ⟨o, c⟩ => by rw [c]; simp
  | .fT xs, _, ⟨o, c⟩ => by rw [c]; simp
  | .exc _ _ _, _, ⟨u, c, _⟩ => by rw [c]; simp
  | .xd xs, _, c => by rw [show H a = _ from c]; simp
  | .ins C xs, _, ⟨dx, c⟩ => by rw [c]; simp
/-- what is not told stands whatever happens; what is told, where its address is let alone -/
theorem Co.off {a : Addr} : ∀ {o : AO}, (o.told = true → H' a = H a) → Co K G α H a o → Co K G α H' a o
  | .kol _, _, c => c
  | .unk, _, c => c
  | .lst _, e, c => Co.keep (e rfl) c
  | .rol _, e, c => Co.keep (e rfl) c
  | .tup _, e, c => Co.keep (e rfl) c
  | .dK _, e, c => Co.keep (e rfl) c
  | .dT _, e, c => Co.keep (e rfl) c
  | .fK _, e, c => Co.keep (e rfl) c
  | .fT _, e, c => Co.keep (e rfl) c
  | .exc _ _ _, e, c => Co.keep (e rfl) c
  | .xd _, e, c => Co.keep (e rfl) c
  | .ins _ _, e, c => Co.keep (e rfl) c
/-- an own object and one that may be shared stand apart -/
theorem Co.apart {a : Addr} {o u : AO} (ho : o.own = true) (hu : u.own = false) (hb : u.told = true) (c : Co K G α H a o) (d : Co K G α H a u) : False := by
  cases u with
  | rol ys =>
    obtain ⟨ob, d⟩ := d
    cases o with
    | lst xs => rw [show H a = _ from c] at d; cases d
    | dK xs => rw [show H a = _ from c] at d; cases d
    | dT xs => rw [show H a = _ from c] at d; cases d
    | fK xs => obtain ⟨_, c⟩ := c; rw [c] at d; cases d
    | fT xs => obtain ⟨_, c⟩ := c; rw [c] at d; cases d
    | ins C xs => obtain ⟨_, c⟩ := c; rw [c] at d; cases d
    | _ => cases ho
  | tup ys =>
    have d : H a = _ := d
    cases o with
    | lst xs => rw [show H a = _ from c] at d; cases d
    | dK xs => rw [show H a = _ from c] at d; cases d
    | dT xs => rw [show H a = _ from c] at d; cases d
    | fK xs => obtain ⟨_, c⟩ := c; rw [c] at d; cases d
    | fT xs => obtain ⟨_, c⟩ := c; rw [c] at d; cases d
    | ins C xs => obtain ⟨_, c⟩ := c; rw [c] at d; cases d
    | _ => cases ho
  | xd ys =>
    have d : H a = _ := d
    cases o with
    | lst xs => rw [show H a = _ from c] at d; cases d
    | dK xs => rw [show H a = _ from c] at d; cases d
    | dT xs => rw [show H a = _ from c] at d; cases d
    | fK xs => obtain ⟨_, c⟩ := c; rw [c] at d; cases d
    | fT xs => obtain ⟨_, c⟩ := c; rw [c] at d; cases d
    | ins C xs => obtain ⟨_, c⟩ := c; rw [c] at d; cases d
    | _ => cases ho
  | exc C' _ _ =>
    obtain ⟨u, d, φ, eu, _⟩ := d
    subst eu
    cases o with
    | lst xs => rw [show H a = _ from c] at d; cases d
    | dK xs => rw [show H a = _ from c] at d; cases d
    | dT xs => rw [show H a = _ from c] at d; cases d
    | fK xs => obtain ⟨_, c⟩ := c; rw [c] at d; cases d
    | fT xs => obtain ⟨_, c⟩ := c; rw [c] at d; cases d
    | ins C xs => obtain ⟨_, c⟩ := c; rw [c] at d; cases d
    | _ => cases ho
  | kol _ => cases hb
  | unk => cases hb
  | _ => cases hu

/-- locked while something walks it -/
def AO.fro : AO → Bool
  | .fK _ | .fT _ => true
  | _ => false
/-- a run's step: what was tracked may have changed and grown, all else of H stands -/
structure Step (K : PySem.W.Frag) (G : Nat → Addr) (α : Nat → Addr) (h : AH) (H : Hp) (α' : Nat → Addr) (h' : AH) (H' : Hp) : Prop where
  ext : ∀ i, i < h.n → α' i = α i
  good : Good K G α' h' H'
  le : h.n ≤ h'.n
  keep : ∀ a o, H a = some o → (∀ i u, h.get i = some u → u.own = true → α i ≠ a) → H' a = some o ∧ ∀ i u, h'.get i = some u → u.own = true → α' i ≠ a
  fro : ∀ i u, i < h.n → h.get i = some u → u.fro = true → h'.get i = some u ∧ H' (α i) = H (α i)
theorem Step.refl (g : Good K G α h H) : Step K G α h H α h H := ⟨fun _ _ => rfl, g, Nat.le_refl _, fun _ _ e n => ⟨e, n⟩, fun _ _ _ e _ => ⟨e, rfl⟩⟩
theorem Step.trans {α1 α2 : Nat → Addr} {h1 h2 : AH} {H1 H2 : Hp} (a : Step K G α h H α1 h1 H1) (b : Step K G α1 h1 H1 α2 h2 H2) : Step K G α h H α2 h2 H2 :=
  ⟨fun i hi => (b.ext i (Nat.lt_of_lt_of_le hi a.le)).trans (a.ext i hi), b.good, Nat.le_trans a.le b.le, fun c o e n => let ⟨e1, n1⟩ := a.keep c o e n; b.keep c o e1 n1, fun i u l e f => by
    obtain ⟨e1, f1⟩ := a.fro i u l e f
    obtain ⟨e2, f2⟩ := b.fro i u (Nat.lt_of_lt_of_le l a.le) e1 f
    rw [a.ext i l] at f2
    exact ⟨e2, f2.trans f1⟩⟩
theorem AO.own_of {o : AO} (h : o.fro = true) : o.own = true := by cases o <;> first | rfl | cases h

def bump (α : Nat → Addr) (n : Nat) (p : Addr) : Nat → Addr := fun i => if i = n then p else α i
theorem bump_same {n : Nat} {p : Addr} : bump α n p n = p := if_pos rfl
theorem bump_lt {n : Nat} {p : Addr} : ∀ i, i < n → bump α n p i = α i := fun i h => if_neg (Nat.ne_of_lt h)
theorem Good.next (g : Good K G α h H) : h.get h.n = none := by
  cases e : h.get h.n with
  | none => rfl
  | some o => exact absurd (g.at_ _ _ e).1 (Nat.lt_irrefl _)
/-- a new object -/
theorem Good.alloc (g : Good K G α h H) {p : Addr} {o : AO} {ho : HO} (hp : H p = none) (hl : o.lt h.n) (hc : Co K G α (upd H p ho) p o) : Step K G α h H (bump α h.n p) (h.push o) (upd H p ho) := by
  refine ⟨bump_lt, ⟨fun i u e => ?_, fun i j u w e1 e2 o1 o2 e3 => ?_⟩, Nat.le_succ _, fun a u e n => ?_, fun i u l e f => ⟨by rw [AH.get_push, if_neg (Nat.ne_of_lt l)]; exact e, upd_ne fun z => (g.at_ i u e).2.2.some (AO.told_of (AO.own_of f)) (by rw [z]; exact hp)⟩⟩
  · rw [AH.get_push] at e
    by_cases hi : i = h.n
    · rw [if_pos hi] at e; cases e; subst hi
      refine ⟨Nat.lt_succ_self _, hl.mono (Nat.le_succ _), ?_⟩
      rw [bump_same]
      exact hc.ext bump_lt hl
    · rw [if_neg hi] at e
      obtain ⟨q1, q2, q3⟩ := g.at_ i u e
      refine ⟨Nat.lt_succ_of_lt q1, q2.mono (Nat.le_succ _), ?_⟩
      rw [bump_lt i q1]
      refine Co.ext bump_lt q2 (Co.off (fun ow => upd_ne fun z => ?_) q3)
      exact q3.some ow (by rw [z]; exact hp)
  · rw [AH.get_push] at e1 e2
    by_cases hi : i = h.n
    · by_cases hj : j = h.n
      · rw [hi, hj]
      · rw [if_neg hj] at e2
        obtain ⟨q1, _, q3⟩ := g.at_ j w e2
        rw [hi, bump_same, bump_lt j q1] at e3
        exact (q3.some (AO.told_of o2) (by rw [← e3]; exact hp)).elim
    · rw [if_neg hi] at e1
      obtain ⟨q1, _, q3⟩ := g.at_ i u e1
      by_cases hj : j = h.n
      · rw [hj, bump_same, bump_lt i q1] at e3
        exact (q3.some (AO.told_of o1) (by rw [e3]; exact hp)).elim
      · rw [if_neg hj] at e2
        obtain ⟨q2, _, _⟩ := g.at_ j w e2
        rw [bump_lt i q1, bump_lt j q2] at e3
        exact g.inj i j u w e1 e2 o1 o2 e3
  · have na : a ≠ p := ne_of_none e hp
    refine ⟨by rw [upd_ne na]; exact e, fun i w ew ow => ?_⟩
    rw [AH.get_push] at ew
    by_cases hi : i = h.n
    · rw [hi, bump_same]; exact na.symm
    · rw [if_neg hi] at ew
      rw [bump_lt i (g.at_ i w ew).1]
      exact n i w ew ow
/-- an object changed -/
theorem Good.write (g : Good K G α h H) {i : Nat} {o o' : AO} {ho : HO} (e : h.get i = some o) (hl : o'.lt h.n) (hc : Co K G α (upd H (α i) ho) (α i) o') (ow : o.own = true := by rfl) (ow' : o'.own = true := by rfl) (nf : o.fro = false := by rfl) : Step K G α h H α (h.set i o') (upd H (α i) ho) := by
  refine ⟨fun _ _ => rfl, ⟨fun j u ej => ?_, fun j k u w e1 e2 o1 o2 e3 => ?_⟩, Nat.le_refl _, fun a u ea n => ?_, fun j u l ej f => ?_⟩
  · rw [AH.get_set] at ej
    by_cases hj : j = i
    · rw [if_pos hj] at ej; cases ej; subst hj
      exact ⟨(g.at_ j o e).1, hl, hc⟩
    · rw [if_neg hj] at ej
      obtain ⟨q1, q2, q3⟩ := g.at_ j u ej
      refine ⟨q1, q2, Co.off (fun ot => upd_ne fun z => ?_) q3⟩
      cases ou : u.own with
      | true => exact hj (g.inj j i u o ej e ou ow z)
      | false => exact Co.apart ow ou ot (g.at_ i o e).2.2 (by rw [← z]; exact q3)
  · have old : ∀ j u, (h.set i o').get j = some u → u.own = true → ∃ w, h.get j = some w ∧ w.own = true := fun j u ej ou => by
      rw [AH.get_set] at ej
      by_cases hj : j = i
      · exact ⟨o, by rw [hj]; exact e, ow⟩
      · rw [if_neg hj] at ej; exact ⟨u, ej, ou⟩
    obtain ⟨u1, q1, r1⟩ := old j u e1 o1
    obtain ⟨u2, q2, r2⟩ := old k w e2 o2
    exact g.inj j k u1 u2 q1 q2 r1 r2 e3
  · have na : a ≠ α i := fun z => n i o e ow z.symm
    refine ⟨by rw [upd_ne na]; exact ea, fun j w ej oj => ?_⟩
    rw [AH.get_set] at ej
    by_cases hj : j = i
    · rw [hj]; exact na.symm
    · rw [if_neg hj] at ej
      exact n j w ej oj
  · have ne : j ≠ i := fun z => by
      rw [z, e] at ej
      cases ej
      rw [nf] at f
      cases f
    exact ⟨by rw [AH.get_set, if_neg ne]; exact ej, upd_ne fun z => ne (g.inj j i u o ej e (AO.own_of f) ow z)⟩
/-- another place for an object that may be shared -/
theorem Good.alias (g : Good K G α h H) {p : Addr} {o : AO} (hl : o.lt h.n) (hc : Co K G α H p o) (ow : o.own = false := by rfl) : Step K G α h H (bump α h.n p) (h.push o) H := by
  refine ⟨bump_lt, ⟨fun i u e => ?_, fun i j u w e1 e2 o1 o2 e3 => ?_⟩, Nat.le_succ _, fun a u e n => ⟨e, fun i w ew ow' => ?_⟩, fun i u l e f => ⟨by rw [AH.get_push, if_neg (Nat.ne_of_lt l)]; exact e, rfl⟩⟩
  · rw [AH.get_push] at e
    by_cases hi : i = h.n
    · rw [if_pos hi] at e; cases e; subst hi
      refine ⟨Nat.lt_succ_self _, hl.mono (Nat.le_succ _), ?_⟩
      rw [bump_same]
      exact hc.ext bump_lt hl
    · rw [if_neg hi] at e
      obtain ⟨q1, q2, q3⟩ := g.at_ i u e
      refine ⟨Nat.lt_succ_of_lt q1, q2.mono (Nat.le_succ _), ?_⟩
      rw [bump_lt i q1]
      exact q3.ext bump_lt q2
  · have out : ∀ i u, (h.push o).get i = some u → u.own = true → h.get i = some u := fun i u e ou => by
      rw [AH.get_push] at e
      by_cases hi : i = h.n
      · rw [if_pos hi] at e; cases e; rw [ow] at ou; cases ou
      · rw [if_neg hi] at e; exact e
    have q1 := out i u e1 o1
    have q2 := out j w e2 o2
    rw [bump_lt i (g.at_ i u q1).1, bump_lt j (g.at_ j w q2).1] at e3
    exact g.inj i j u w q1 q2 o1 o2 e3
  · rw [AH.get_push] at ew
    by_cases hi : i = h.n
    · rw [if_pos hi] at ew; cases ew; rw [ow] at ow'; cases ow'
    · rw [if_neg hi] at ew
      rw [bump_lt i (g.at_ i w ew).1]
      exact n i w ew ow'
/-- what was not known is known -/
theorem Good.named (g : Good K G α h H) {n : Nat} {o : AO} {ho : HO} (e : h.get n = some .unk) (hp : H (α n) = none) (hl : o.lt h.n) (hc : Co K G α (upd H (α n) ho) (α n) o) (ow : o.own = false := by rfl) : Step K G α h H α (h.set n o) (upd H (α n) ho) := by
  have apart : ∀ j u, h.get j = some u → u.told = true → α j ≠ α n := fun j u ej ot z => (g.at_ j u ej).2.2.some ot (by rw [z]; exact hp)
  have old : ∀ j u, (h.set n o).get j = some u → u.own = true → h.get j = some u := fun j u ej ou => by
    rw [AH.get_set] at ej
    by_cases hj : j = n
    · rw [if_pos hj] at ej; cases ej; rw [ow] at ou; cases ou
    · rw [if_neg hj] at ej; exact ej
  refine ⟨fun _ _ => rfl, ⟨fun j u ej => ?_, fun j k u w e1 e2 o1 o2 e3 => g.inj j k u w (old j u e1 o1) (old k w e2 o2) o1 o2 e3⟩, Nat.le_refl _, fun a u ea nn => ⟨by rw [upd_ne (ne_of_none ea hp)]; exact ea, fun j w ej oj => nn j w (old j w ej oj) oj⟩, fun j u l ej f => ?_⟩
  · rw [AH.get_set] at ej
    by_cases hj : j = n
    · rw [if_pos hj] at ej; cases ej; subst hj
      exact ⟨(g.at_ j _ e).1, hl, hc⟩
    · rw [if_neg hj] at ej
      obtain ⟨q1, q2, q3⟩ := g.at_ j u ej
      exact ⟨q1, q2, Co.off (fun ot => upd_ne (apart j u ej ot)) q3⟩
  · have hj : j ≠ n := fun z => by rw [z, e] at ej; cases ej; cases f
    exact ⟨by rw [AH.get_set, if_neg hj]; exact ej, upd_ne (apart j u ej (AO.told_of (AO.own_of f)))⟩
/-- locked before, read again: the whole is a step -/
theorem Step.unlock {α1 : Nat → Addr} {h1 : AH} {H1 : Hp} (s : Step K G α h H α1 h1 H1) {i : Nat} {o o' : AO} {ho : HO} (e : h1.get i = some o) (ne : ∀ u, i < h.n → h.get i = some u → u.fro = false) (hl : o'.lt h1.n) (hc : Co K G α1 (upd H1 (α1 i) ho) (α1 i) o')
    (ow : o.own = true := by rfl) (ow' : o'.own = true := by rfl) : Step K G α h H α1 (h1.set i o') (upd H1 (α1 i) ho) := by
  have g := s.good
  refine ⟨s.ext, ⟨fun j u ej => ?_, fun j k u w e1 e2 o1 o2 e3 => ?_⟩, s.le, fun a u ea n => ?_, fun j u l ej f => ?_⟩
  · rw [AH.get_set] at ej
    by_cases hj : j = i
    · rw [if_pos hj] at ej; cases ej; subst hj
      exact ⟨(g.at_ j o e).1, hl, hc⟩
    · rw [if_neg hj] at ej
      obtain ⟨q1, q2, q3⟩ := g.at_ j u ej
      refine ⟨q1, q2, Co.off (fun ot => upd_ne fun z => ?_) q3⟩
      cases ou : u.own with
      | true => exact hj (g.inj j i u o ej e ou ow z)
      | false => exact Co.apart ow ou ot (g.at_ i o e).2.2 (by rw [← z]; exact q3)
  · have old : ∀ j u, (h1.set i o').get j = some u → u.own = true → ∃ w, h1.get j = some w ∧ w.own = true := fun j u ej ou => by
      rw [AH.get_set] at ej
      by_cases hj : j = i
      · exact ⟨o, by rw [hj]; exact e, ow⟩
      · rw [if_neg hj] at ej; exact ⟨u, ej, ou⟩
    obtain ⟨u1, q1, r1⟩ := old j u e1 o1
    obtain ⟨u2, q2, r2⟩ := old k w e2 o2
    exact g.inj j k u1 u2 q1 q2 r1 r2 e3
  · obtain ⟨k1, k2⟩ := s.keep a u ea n
    have na : a ≠ α1 i := fun z => k2 i o e ow z.symm
    refine ⟨by rw [upd_ne na]; exact k1, fun j w ej oj => ?_⟩
    rw [AH.get_set] at ej
    by_cases hj : j = i
    · rw [hj]; exact na.symm
    · rw [if_neg hj] at ej
      exact k2 j w ej oj
  · obtain ⟨k1, k2⟩ := s.fro j u l ej f
    have hne : j ≠ i := fun z => by
      subst z
      have := ne u l ej
      rw [f] at this
      cases this
    refine ⟨by rw [AH.get_set, if_neg hne]; exact k1, ?_⟩
    rw [upd_ne fun z => hne (g.inj j i u o k1 e (AO.own_of f) ow (by rw [← z]; exact s.ext j l))]
    exact k2
end
end J

set_option Elab.async false
set_option linter.all false
set_option maxRecDepth 100000
set_option maxHeartbeats 4000000
/-! an own exception over ValueError whose __init__ says super().__init__(f'..{p}..'); self.f = p -/
namespace J
open PySem PySem.Spec PyProof.Rows L2
open PySem.W (ksFn ksEnv kxs_mw)

/-- the body -/
def SupBody (p f a b : Str) (body : List Stmt) : Prop := ∃ (p0 p1 p2 p3 p4 p5 p6 p7 p8 p9 p10 p11 p12 p13 : Pos) (k1 k2 : Nat), (p2.endLine == p8.line) = true ∧
  body = [.Expr (.Call (.Attribute (.Call (.Name "super" p0) [] [] p1) "__init__" p2) [.JoinedStr [.Constant (.str a) k1 p3, .FormattedValue (.Name p p4) (-1) none p5, .Constant (.str b) k2 p6] p7] [] p8) p9,
    .Assign [.Attribute (.Name "self" p10) f p11] (.Name p p12) p13]
structure SupI (Pg : Program) (K : PySem.W.Frag) (C fI : Addr) (p f : Str) : Prop where
  cls : OexC K C
  ini : PySem.W.findIn K (.ref C) "__init__" = some (some (.ref fI))
  ity : PySem.W.typeIn K (.ref fI) = some (.type "function")
  fn : ∃ (x qual : Str) (pr : Arguments) (sc : Scope) (body : List Stmt) (kV doc pm ct oc ccl cl : Value) (an od cdd cld : Option Addr) (osl ccs csl : Array (Option Value)) (cda cc : Addr) (vs : Array Value) (file a b : Str) (tf : Tok) (ar : Arg),
    K.lookup fI = some ⟨oc, od, .func (ksFn x qual pr body sc .none kV doc pm an (.ref cda) ct cc), osl⟩ ∧ PySem.W.codeIn K (.ref cda) qual = true ∧ K.lookup cda = some ⟨ccl, cdd, .fields vs, ccs⟩ ∧ vs[2]? = some (.str file tf) ∧ (Pg.main.file == file) = true ∧
    K.lookup cc = some ⟨cl, cld, .cell (some (.ref C)), csl⟩ ∧ SupBody p f a b body ∧ a.length ≤ 1000 ∧ b.length ≤ 1000 ∧ (pr.posonlyargs ++ pr.args).head? = some ar ∧ ar.arg = "self" ∧
    (∀ (s : Shared) (u v : Value), BindsTo s (ksFn x qual pr body sc .none kV doc pm an (.ref cda) ct cc) ⟨[u, v], []⟩ [("self", u), (p, v)]) ∧ (∀ (s : Shared) (u v : Value), BindsTo s (ksFn x qual pr body sc .none kV doc pm an (.ref cda) ct cc) ⟨[u], [(p, v)]⟩ [("self", u), (p, v)]) ∧
    (∀ y ∈ sc.names, y.2 ≠ .cell) ∧ sc.isCoroutine = false ∧ sc.isGenerator = false ∧ sc.kind = .function ∧ sc.names.lookup ("self" : Str) = some NameKind.local ∧ sc.names.lookup p = some NameKind.local ∧ sc.names.lookup ("super" : Str) = some NameKind.globalImplicit ∧ sc.names.lookup ("__class__" : Str) = some NameKind.free
  pne : (p == ("self" : Str)) = false
  pdb : (p == ("__debug__" : Str)) = false
  sup : PySem.W.ks_superIn K C C "__init__" = some (some (.builtin "ValueError.__init__"))
  vB : PySem.W.subIn K (.ref C) (.type "ValueError") = some true
  opq : PySem.W.nsIn K cStatics "thirdparty.any" = some none
  sub : PySem.W.mroIn K C (.ref C) = some true
  noF : PySem.W.findIn K (.ref C) f = some none
  top : (Pg.main.scope.names.lookup ("super" : Str)).isSome = false
theorem call_eq {o : Expr} {name : Str} {apos pos : Pos} {args : List Expr} {env : Env} (h : (apos.endLine == pos.line) = true) (hf : methodCallForm (args.length + 0) (backTo pos (starEach args env)) [] = true) :
    eval (.Call (.Attribute o name apos) args [] pos) env = (do
      let ov ← attributeBase o name env (eval o env)
      standAt apos.atName
      let (f, first) ← holding [ov] (getMethod ov name (do return (← importBound o env).getD true))
      callWith pos f first (backTo pos (starEach args env)) []) := by
  have e : eval (.Call (.Attribute o name apos) args [] pos) env = (do
      let ov ← attributeBase o name env (eval o env)
      standAt apos.atName
      methodCall o name apos pos env ov (args.length + 0) (backTo pos (starEach args env)) []) := by rfl
  rw [e]
  unfold methodCall calleeOf methodCallPos
  rw [hf, h]
  rfl
theorem len3 (x y z : Str) : (x ++ y ++ z).length = x.length + y.length + z.length := by rw [Str.length_append, Str.length_append]
section
variable {Pg : Program} {w : World} {K : PySem.W.Frag} {C fI e t0 : Addr} {p f : Str} {mg mb : Str → Option Value} {Ar : Around} {R : Result → Shared → Prop} {hp : Heap} {g : Array GenState} {d : Drawn} {t : Nat} {os : OsState} {n : Int} {tk : Tok}
theorem sup_init (S : SupI Pg K C fI p f) (KX : K.In hp) (glob : hp.Ns mainGlobals mg) (hmg : mg "super" = none) (blt : hp.Ns builtinsNs mb) (hmb : mb "super" = some (.type "super")) (nol : hp.NoLimit) (dep : Ar.depth < recursionLimit) (he : hp.get? e = some (PySem.HandSPX.excO C t0)) (hKe : ∀ o, K.lookup e ≠ some o) {ag : Args} (hag : ag = ⟨[.ref e, .int n tk], []⟩ ∨ ag = ⟨[.ref e], [(p, .int n tk)]⟩) (hn : n.natAbs.log2 < 1920) (hz : (Str.ofString (toString n)).length ≤ 1000)
    (hR : ∀ h' t' dx t1, (∀ b o, b ≠ e → hp.get? b = some o → h'.get? b = some o) → hp.get? dx = none → dx ≠ e → h'.get? e = some ({ cls := .ref C, dict := some dx, data := .fields #[.ref t1, .none, .none, .none, .bool false, .none] } : Obj) →
      h'.Ns1 dx (fun y => if y = f then some (.int n tk) else none) → R (.ok (.ret .none)) ⟨h', g, d, t', os⟩) :
    codeAny (model Pg w) Ar (.call (.ref fI) ag) R ⟨hp, g, d, t, os⟩ := by
  obtain ⟨x, qual, pr, sc, body, kV, doc, pm, ct, oc, ccl, cl, an, od, cdd, cld, osl, ccs, csl, cda, cc, vs, file, a, b, tf, ar, lk, hcd, lcd, hvs, hfile, lcc, hb, la, lb, hpar, har, hbind, hbindK, hcell, hco, hgen, hk, kself, kp, ksup, kcls⟩ := S.fn
  obtain ⟨p0, p1, p2, p3, p4, p5, p6, p7, p8, p9, p10, p11, p12, p13, k1, k2, hpl, rfl⟩ := hb
  obtain ⟨nm, q, N, bs, bm, sn, sub, ab, col, dd, c0, c1, c2, c3, c5, hC, hbm⟩ := S.cls.cls
  have hcl : PySem.W.clsIn K C = some { name := nm, bases := bs, mro := .ref C :: bm, ns := N, qualname := q, hasDict := true, slotNames := sn, subclasses := sub, abstract := ab, collection := col, hasDel := false } := by unfold PySem.W.clsIn; rw [hC] <;> rfl
  refine PySem.ks_codeAny_call_defAt (fd := ksFn x qual pr _ sc .none kV doc pm an (.ref cda) ct cc) (binds := [("self", .ref e), (p, .int n tk)]) dep (KX _ _ lk) rfl nol (PySem.W.codeRec_of KX hcd) rfl (by rcases hag with z | z <;> subst z <;> first | exact hbind _ _ _ | exact hbindK _ _ _) hcell (fun y hy => ?_) (fun h1 hns k1' => ?_) hco hgen hk
  · rcases List.mem_cons.mp hy with rfl | hy
    · exact kself
    · rw [List.mem_singleton.mp hy]; exact kp
  have K1 : K.In h1 := KX.keeps k1'
  have vself : (fun y => ([("self", Value.ref e), (p, .int n tk)] : List (Str × Value)).reverse.lookup y) "self" = some (.ref e) := by
    show List.lookup ("self" : Str) [(p, Value.int n tk), ("self", Value.ref e)] = _
    have : (("self" : Str) == p) = false := by rw [beq_eq_false_iff_ne]; exact fun z => by have := S.pne; rw [← z] at this; simp at this
    simp [List.lookup, this]
  have vp : (fun y => ([("self", Value.ref e), (p, .int n tk)] : List (Str × Value)).reverse.lookup y) p = some (.int n tk) := by
    show List.lookup p [(p, Value.int n tk), ("self", Value.ref e)] = _
    simp [List.lookup]
  have hint : ∀ bo, interactive (callEnv (ksFn x qual pr bo sc .none kV doc pm an (.ref cda) ct cc) hp.objs.size fI) = false := fun bo => by unfold interactive; show (sc.kind == .module && _) = false; rw [hk]; rfl
  refine PySem.ks_wpAt_execs_cons (PySem.ks_wpAt_Expr_any (hi := hint _) (PySem.ks_wpAt_MethodCall (he := call_eq hpl (by rfl)) ?_))
  refine PySem.ks_wpAt_super_base ksup kcls (by decide) rfl (K1 _ _ lk) rfl hpar rfl (K1 _ _ lcd) rfl hvs hfile S.top ?_
  refine PySem.W.ks_loadName_global hk ksup (Calls.loadGlobal_builtin (glob.keeps k1') hmg (blt.keeps k1') hmb ⟨rfl, ?_⟩)
  refine wpAny_loadName_free hk kcls rfl ⟨_, K1 _ _ lcc, rfl⟩ ?_
  refine wpAny_loadName_local hk (by rw [har]; exact kself) hns (by rw [har]; exact vself) ?_
  refine PySem.ks_wpAny_isType_cls (K1 _ _ hC) rfl ⟨rfl, ?_⟩
  have he1 : h1.get? e = some (PySem.HandSPX.excO C t0) := k1' _ _ he
  refine PySem.ks_wpAny_call_super (K1 _ _ hC) rfl he1 rfl (fun c z => nomatch z) (PySem.W.looks_mroIn K1 S.sub) (fun h2 e2 k2 => ?_)
  have K2 : K.In h2 := K1.keeps k2
  have he2 : h2.get? e = some (PySem.HandSPX.excO C t0) := k2 _ _ he1
  have hxC : e ≠ C := fun z => by rw [z, K1 _ _ hC] at he1; cases he1
  have I2 : PySem.W.InstAt h2 e (PySem.HandSPX.excO C t0) C none := ⟨he2, rfl, rfl, trivial⟩
  have hI : ∀ {M : Model}, PySem.W.Looks M h2 (isInstance (.ref e) (.type "ValueError")) true := fun {M} => I2.type.andThen (PySem.W.looks_subIn K2 S.vB)
  have hsup := S.sup
  unfold PySem.W.ks_superIn at hsup
  rw [hcl] at hsup
  refine PySem.W.kxs_getMethod PySem.W.kxs_ValueError e2 (PySem.W.looks_opaque K2 S.opq) (l₀ := .ref C :: bm) (fun A Q E s k q => wpAny_bind ((PySem.W.looks_clsIn K2 hcl) A _ E s k (wpAny_pure q))) rfl K2 hsup hI hxC (by decide) ?_
  have k3 : ∀ b o, h2.get? b = some o → (h2.push (kxs_mw "ValueError.__init__" e)).get? b = some o := fun b o z => Heap.get?_push_of_some _ z
  generalize eh3 : h2.push (kxs_mw "ValueError.__init__" e) = h3 at k3
  have hu : h3.get? h2.objs.size = some (kxs_mw "ValueError.__init__" e) := by rw [← eh3]; exact Heap.get?_push_at rfl rfl
  have k13 : ∀ b o, h1.get? b = some o → h3.get? b = some o := fun b o z => k3 b o (k2 b o z)
  have hns3 := hns.keeps k13
  have K3 : K.In h3 := K2.keeps k3
  have he3 := k3 _ _ he2
  refine PySem.W.kxs_callWith (i := "ValueError.__init__") (x := e) (by rfl) (Calls.evalArgs_plain (Calls.spliced_cons (wpAny_JoinedStr (pos := p7) ?_)))
  refine Calls.Constant_str ⟨a, _, rfl, ?_, ?_⟩
  · show (Str.empty ++ a).length ≤ sizeLine
    rw [Str.length_append, sizeLine_eq]; have : Str.empty.length = 0 := rfl; omega
  refine wpAny_FormattedValue_plain (PySem.ESX.ldL hns3 vp (wpAny_formatField_int hn ⟨toString n, _, rfl, ?_, ?_⟩) hk kp S.pdb)
  · show ((Str.empty ++ a) ++ _).length ≤ sizeLine
    rw [Str.length_append, Str.length_append, sizeLine_eq]; have : Str.empty.length = 0 := rfl; have : Str.length (Str.ofString (toString n)) ≤ 1000 := hz; omega
  have hlen : (((Str.empty ++ a) ++ Str.ofString (toString n)) ++ b).length ≤ sizeLine := by
    rw [Str.length_append, Str.length_append, Str.length_append, sizeLine_eq]; have : Str.empty.length = 0 := rfl; omega
  refine Calls.Constant_str ⟨b, _, rfl, hlen, hlen, Calls.spliced_nil ⟨hu, ?_⟩⟩
  refine wpAny_call (codeAny_of_tree ?_)
  show wpAny _ _ (callAny (.ref h2.objs.size) ⟨_, []⟩) _ _ _
  simp only [callAny]
  refine wpAny_bind (wpAny_load hu ?_)
  simp only [kxs_mw, show (Value.type "method-wrapper" == Value.type "method" || Value.type "method-wrapper" == Value.type "builtin_function_or_method" || Value.type "method-wrapper" == Value.type "method-wrapper") = true by decide, if_true]
  refine PySem.W.KFB.if_so (by decide) ?_
  refine wpAny_bind (PySem.W.check_bound_init F.excBase_ValueError.toExcCallFacts (K3 _ _ hC) he3 rfl ?_)
  refine wpAny_bind (wpAny_pure (wpAny_pure ?_))
  refine ⟨Code.quiet_builtin _ (by decide +kernel), codeAny_builtin F.excBase_ValueError.initEntry ?_⟩
  refine PySem.W.exc_init_tree (cls := .ref C) (t0 := t0) (dv := none) (c2 := .none) (c3 := .none) (b4 := .bool false) he3 (by show 1 ≤ sizeLine; rw [sizeLine_eq]; omega) (fun h4 k4 e4 t4 => ?_)
  have hLe : hp.objs.size ≠ e := (Nat.ne_of_lt (Heap.lt_size he)).symm
  have hns4 : h4.Ns hp.objs.size (fun y => ([("self", Value.ref e), (p, .int n tk)] : List (Str × Value)).reverse.lookup y) := by
    obtain ⟨oL, es, ep, hL, r⟩ := hns3
    exact ⟨oL, es, ep, k4 _ _ hLe hL, r⟩
  have K4 : K.In h4 := fun c o z => k4 c o (fun y => hKe o (by rw [← y]; exact z)) (K3 c o z)
  refine PySem.wpAt_of_wpAny (wpAny_execs_cons (plainObj_wpAny_Assign_Attribute (PySem.ESX.ldL hns4 vp (PySem.ESX.ldL hns4 vself ?_ hk kself) hk kp S.pdb)))
  refine PySem.W.set_plain K4 (ox := { cls := .ref C, dict := none, data := .fields #[.ref h3.objs.size, .none, .none, .none, .bool false, .none] }) (od := none) ⟨e4, rfl, rfl, trivial⟩ S.cls.sa ?_
  refine PySem.HandSPX.exc_osa K4 e4 hcl (show PySem.HandSPX.refsVE (.ref C :: bm) = true from hbm) rfl S.noF (fun h5 tk5 dx k5 dn dne hx hn5 => ?_)
  refine wpAny_execs_nil (hR h5 _ dx _ (fun c o hc z => k5 c o hc (k4 c o hc (k13 c o (k1' c o z)))) ?_ dne hx hn5)
  cases q : hp.get? dx with
  | none => rfl
  | some o =>
    exact absurd (Heap.lt_size (k4 dx o dne (k13 dx o (k1' dx o q)))) (Nat.not_lt.mpr dn)
end
end J

set_option Elab.async false
set_option linter.all false
set_option maxRecDepth 100000
set_option maxHeartbeats 4000000
/-! .. made with its parameter by name -/
namespace J
open PySem PySem.Spec PyProof.Rows PySem.HandSPX
section
variable {M : Model} {A : Around} {E : Value → Shared → Prop} {h : Heap} {g : Array GenState} {d : Drawn} {t : Nat} {os : OsState}
variable {nm q : Str} {C N : Addr} {bs bm bmB : List Value} {hdct : Bool} {sn : List Str} {sub : List Value} {ab : Bool} {col : Option Bool} {dd : Option Addr} {k0 k1 k2 k3 k5 : Option Value} {B newId initId : String} {kx : Str} {kv : Value}
theorem kwNewCheck (F : ExcBaseFacts B newId initId bmB) (same : ∀ T : String, bm.contains (.type T) = bmB.contains (.type T)) {Q : Unit → Shared → Prop}
    (cls : h.get? C = some (excClassObj nm q C N bs bm hdct sn sub ab col dd k0 k1 k2 k3 k5 newId)) (z : Q () ⟨h, g, d, t, os⟩) : wpAny M A (checkBuiltinCall newId ⟨[.ref C], [(kx, kv)]⟩) Q E ⟨h, g, d, t, os⟩ := by
  have has : (Value.ref C :: bm).contains (.type B) = true := by rw [List.contains_cons, same, F.hasB, Bool.or_true]
  have short := F.noStar
  simp only [checkBuiltinCall, F.newKind, F.newSplit, F.newRow]
  repeat (first | refine wpAny_loadPart_at cls ?_ | (refine wpAny_isSubtype_exc cls ?_; rw [has]) | refine wpAny_staticBase_exc cls ?_ | refine wpAny_madeBy_exc cls ?_ | simp only [bne_self_eq_false, Bool.false_eq_true, if_false] | wp_step)
  exact z
end
section
variable {prog : Program} {w : World} {A : Around} {E : Value → Shared → Prop} {R : Result → Shared → Prop} {h : Heap} {g : Array GenState} {d : Drawn} {t : Nat} {os : OsState}
variable {nm q : Str} {C N : Addr} {bs bm bmB : List Value} {hdct : Bool} {sn : List Str} {sub : List Value} {ab : Bool} {col : Option Bool} {dd : Option Addr} {k0 k1 k2 k3 k5 : Option Value} {B newId initId : String} {kx : Str} {kv : Value}
theorem kwNew (F : ExcBaseFacts B newId initId bmB) (same : ∀ T : String, bm.contains (.type T) = bmB.contains (.type T))
    (cls : h.get? C = some (excClassObj nm q C N bs bm hdct sn sub ab col dd k0 k1 k2 k3 k5 newId))
    (z : R (.ok (.ret (.ref (h.objs.size + 1)))) ⟨(h.push (PySem.W.kdv_tup [])).push (excO C h.objs.size), g, d, t, os⟩) :
    codeAny (model prog w) A (.builtin newId ⟨[.ref C], [(kx, kv)]⟩) R ⟨h, g, d, t, os⟩ := by
  have ends := F.ends
  have isB : (Value.ref C :: bm).contains (.type B) = true := by rw [List.contains_cons, same, F.hasB, Bool.or_true]
  have isA : (Value.ref C :: bm).contains (.type "AttributeError") = false := by rw [List.contains_cons, same, F.noAttr]; rfl
  have isN : (Value.ref C :: bm).contains (.type "NameError") = false := by rw [List.contains_cons, same, F.noName]; rfl
  refine codeAny_builtinAt F.entry ?_
  unfold Builtin.«BaseException.__new__»
  refine PySem.wpAt_bind ?_
  show PySem.wpAt _ _ _ (stack >>= _) _ _ _
  refine PySem.wpAt_bind (PySem.wpAt_stack fun p below => PySem.wpAt_of_wpAny ?_)
  wp_walk
  all_goals (try refine PySem.wpAt_of_wpAny ?_)
  all_goals (try rw [F.owner])
  all_goals (repeat (first | with_reducible refine wpAny_madeHere_exc F.canon cls ?_ | with_reducible refine wpAny_loadPart_at cls ?_ | (with_reducible refine wpAny_isSubtype_exc cls ?_; first | rw [isB] | rw [isA] | rw [isN]) | wp_step))
  show R _ _
  rw [Heap.size_push]
  exact z
theorem kwCallType (F : ExcBaseFacts B newId initId bmB) (same : ∀ T : String, bm.contains (.type T) = bmB.contains (.type T)) {fI : Addr} {Q : Fin → Shared → Prop}
    (cls : h.get? C = some (excClassObj nm q C N bs bm hdct sn sub ab col dd k0 k1 k2 k3 k5 newId))
    (ini : W.Looks (model prog w) h (typeLookup (.ref C) "__init__") (some (.ref fI))) (bnd : ∀ self, W.Looks (model prog w) h (bindSpecial (.ref fI) self) (.ref fI, [self]))
    (z : codeAny (model prog w) A (.call (.ref fI) ⟨[.ref (h.objs.size + 1)], [(kx, kv)]⟩)
      (fun r s' => match r with | .ok (.ret v) => v = .none ∧ Q (.done (.ret (.ref (h.objs.size + 1)))) s' | .ok _ => False | .error e => E e s')
      ⟨(h.push (W.kdv_tup [])).push (excO C h.objs.size), g, d, t, os⟩) :
    wpAny (model prog w) A (Builtin.«type.__call__» ⟨[.ref C], [(kx, kv)]⟩) Q E ⟨h, g, d, t, os⟩ := by
  repeat (first | with_reducible refine wpAny_loadPart_at cls ?_ | with_reducible refine wpAny_madeBy_exc cls ?_ | wp_step)
  refine codeAny_call_builtin_code (Code.quiet_builtin _ F.quiet) (kwNewCheck F same cls ?_)
  refine kwNew F same cls ?_
  show wpAny _ _ _ _ _ _
  have up : ∀ b o, h.get? b = some o → ((h.push (W.kdv_tup [])).push (excO C h.objs.size)).get? b = some o := fun b o e => Heap.get?_push_of_some _ (Heap.get?_push_of_some _ e)
  have cls1 := up _ _ cls
  have new1 : ((h.push (W.kdv_tup [])).push (excO C h.objs.size)).get? (h.objs.size + 1) = some (excO C h.objs.size) := by heap_get
  have self1 : (Value.ref C :: bm).contains (.ref C) = true := by simp
  have ini1 := ini.keeps up
  have bnd1 := (bnd (.ref (h.objs.size + 1))).keeps up
  unfold isInstance
  repeat (first | with_reducible refine wpAny_loadPart_at new1 ?_ | (with_reducible refine wpAny_isSubtype_exc cls1 ?_; rw [self1]) | wp_step)
  show wpAny _ _ (typeLookup (.ref C) _) _ _ _
  refine ini1.at ?_
  refine wpAny_holding (wpAny_bind (bnd1.at ?_))
  refine wpAny_bind (wpAny_call (codeAny_mono z fun r s' y => ?_))
  rcases r with e | (v | _ | _ | _) <;> first | exact y | exact y.elim | skip
  obtain ⟨rfl, y⟩ := y
  first
    | exact wpAny_pure (wpAny_pure y)
    | (wp_walk; exact y)
theorem kwCall (F : ExcBaseFacts B newId initId bmB) (same : ∀ T : String, bm.contains (.type T) = bmB.contains (.type T)) {fI : Addr}
    (cls : h.get? C = some (excClassObj nm q C N bs bm hdct sn sub ab col dd k0 k1 k2 k3 k5 newId))
    (ini : W.Looks (model prog w) h (typeLookup (.ref C) "__init__") (some (.ref fI))) (bnd : ∀ self, W.Looks (model prog w) h (bindSpecial (.ref fI) self) (.ref fI, [self]))
    (z : codeAny (model prog w) (A.under (.builtin "type.__call__" ⟨[.ref C], [(kx, kv)]⟩)) (.call (.ref fI) ⟨[.ref (h.objs.size + 1)], [(kx, kv)]⟩) (W.InitBack (h.objs.size + 1) R)
      ⟨(h.push (W.kdv_tup [])).push (excO C h.objs.size), g, d, t, os⟩) :
    codeAny (model prog w) A (.call (.ref C) ⟨[], [(kx, kv)]⟩) R ⟨h, g, d, t, os⟩ := by
  have l1 := tc_lookup
  have l2 := tc_bind (.ref C)
  have isT : (⟨h, g, d, t, os⟩ : Shared).TypeIs (.ref C) "type" := ⟨_, cls, rfl⟩
  refine codeAny_of_tree ?_
  show wpAny _ _ (callAny (.ref C) _) _ _ _
  repeat (any_goals (first | assumption | with_reducible refine wpAny_loadPart_at cls ?_ | wp_step))
  refine ⟨rfl, ?_⟩
  refine codeAny_call_builtin_at (Code.quiet_builtin _ (by decide +kernel)) entry_typeCall (wpAny_check_type_call_sub cls (kwCallType F same cls ini bnd ?_))
  refine codeAny_mono z fun r s' y => ?_
  rcases r with e | (v | _ | _ | _) <;> exact y
end
end J

set_option Elab.async false
set_option linter.all false
set_option maxRecDepth 100000
set_option maxHeartbeats 4000000
/-! the compact syntax, its readings, its run -/
namespace J
open PySem L2

inductive Out (β : Type) where | ok (b : β) (h : AH) | exc (c : Nat) (h : AH) | bad
def Out.bind {β γ : Type} : Out β → (β → AH → Out γ) → Out γ
  | .ok b h, f => f b h
  | .exc c h, _ => .exc c h
  | .bad, _ => .bad
/-- lines that every length here stays below -/
def lid : Nat := 100000
theorem lid_le : lid ≤ sizeLine := by unfold lid; rw [sizeLine_eq]; decide
theorem lid_lt {n : Nat} (h : n < lid) : n < sizeLine := Nat.lt_of_lt_of_le h lid_le

inductive BOp where | add | sub | mul | div | mod | pow
inductive COp where | eq | ne | lt | le | gt | ge | in_ | nin | is_ | isn
inductive BI where | len | list | tuple | all | any | sum | min | max | int | bool | str | repr | sorted | lenset | dict
inductive BM where | append | extend | pop0 | pop1 | clear | reverse | sort | join | split | words | startswith | endswith | isdigit | items_ | values_ | get1 | get2 | copy
inductive Itk where | list | tup | str | range1 | range2 | keys | items | values | enum | zip | rev | poly
inductive G where | nm (i : Nat) | tp (is : List Nat)
mutual
inductive E where
  | k (v : AV) | v (i : Nat)
  | bin (o : BOp) (a b : E) | neg (a : E)
  | cmp (o : COp) (a b : E) | chain (o o' : COp) (a b c : E)
  | andV (a b : E) | orV (a b : E) | notV (a : E)
  | iff (t : T) (a b : E)
  | call (f : Nat) (args : List E) | make (C : Nat) (args : List E)
  | meth (C : Nat) (m : Str) (f : Nat) (o : E) (args : List E) | prop (C : Nat) (f : Nat) (o : E) | fld (f : Str) (o : E)
  | bi (b : BI) (args : List E) | bm (m : BM) (o : E) (args : List E)
  | isi (a : E) (c : AV)
  | ix (a b : E) | sl (a : E) (lo hi : List E) | rev (a : E)
  | lst (es : List E) | tup (es : List E) | dnew | disp (es : List E)
  | lc (e : E) (own : List Nat) (g : G) (i : Itk) (src : List E) (cs : T)
  | mkx (C : Nat) (e : E) | mks (C : Nat) (f : Str) (e : E) | xfld (f : Str) (o : E) | strx (o : E)
  | dc (ke ve : E) (own : List Nat) (g : G) (i : Itk) (src : List E) (cs : T)
inductive T where
  | yes | val (a : E) | tru (a : E) | and_ (a b : T) | or_ (a b : T) | not_ (a : T)
end
inductive S where
  | asg (i : Nat) (e : E) | asgT (is : List Nat) (e : E) | par (i j : Nat) (e1 e2 : E)
  | sub (o i e : E) | fld (C : Nat) (f : Str) (o e : E)
  | expr (e : E) | ret (e : E) | retN
  | ife (t : T) (a b : List S)
  | for_ (g : G) (i : Itk) (src : List E) (body : List S)
  | whil (t : T) (body : List S)
  | try_ (c i : Nat) (body suite : List S)
  | raise (c : Nat) | pass | brk | cont | never

abbrev SA := List (Option AV)
inductive SO where | nx (σ : SA) (h : AH) | rt (v : AV) (h : AH) | bk (σ : SA) (h : AH) | ct (σ : SA) (h : AH) | exc (c : Nat) (σ : SA) (h : AH) | bad

/-! ### values and heaps: what the operations give -/
def two (f : Int → Int → AV) (h : AH) : AV → AV → Out AV
  | .int i, .int j => .ok (f i j) h
  | _, _ => .bad
def binop (o : BOp) (h : AH) (a b : AV) : Out AV := match o with
  | .add => match a, b with
    | .int i, .int j => .ok (.int (i + j)) h
    | .str x, .str y => if x.length + y.length ≤ lid then .ok (.str (x ++ y)) h else .bad
    | .ref l, .ref r => match h.get l, h.get r with
      | some (.lst xs), some (.lst ys) => if xs.length + ys.length ≤ lid then .ok (.ref h.n) (h.push (.lst (xs ++ ys))) else .bad
      | _, _ => .bad
    | _, _ => .bad
  | .sub => two (fun i j => .int (i - j)) h a b
  | .mul => match a, b with
    | .int i, .int j => if (-18446744073709551616 < i ∧ i < 18446744073709551616) ∨ (-18446744073709551616 < j ∧ j < 18446744073709551616) then .ok (.int (i * j)) h else .bad
    | .ref l, .int k => match h.get l with
      | some (.lst xs) => if -1000 ≤ k ∧ k ≤ 1000 ∧ xs.length * k.toNat ≤ lid then .ok (.ref h.n) (h.push (.lst (List.replicate k.toNat xs).flatten)) else .bad
      | _ => .bad
    | _, _ => .bad
  | .div => match a, b with
    | .int i, .int j => if j ≠ 0 ∧ j.natAbs < 1073741824 then .ok (.int (i.fdiv j)) h else .bad
    | _, _ => .bad
  | .mod => match a, b with
    | .int i, .int j => if j ≠ 0 then .ok (.int (i.fmod j)) h else .bad
    | _, _ => .bad
  | .pow => match a, b with
    | .int i, .int j => if 0 ≤ j ∧ j ≤ 1000 ∧ i.natAbs < 18446744073709551616 then .ok (.int (i ^ j.toNat)) h else .bad
    | _, _ => .bad

/-- the reading of a two-place operation -/
def rBin (K : PySem.W.Frag) : BOp → R2
  | .add => fun x y H Q => rI0 (fun i j => .int (i + j)) x y H Q ∨ (∃ i j, x = .str i ∧ y = .str j ∧ i.length + j.length ≤ sizeLine ∧ Q (.str (i ++ j)) H) ∨ rCat x y H Q
  | .sub => rI0 fun i j => .int (i - j)
  | .mul => fun x y H Q => rI CMul (fun i j => .int (i * j)) x y H Q ∨ rRep x y H Q
  | .div => rI CDivN fun i j => .int (i.fdiv j)
  | .mod => rI (fun _ j => j ≠ 0) fun i j => .int (i.fmod j)
  | .pow => rI CPow fun i j => .int (i ^ j.toNat)
def opOf : BOp → Operator
  | .add => .Add | .sub => .Sub | .mul => .Mult | .div => .FloorDiv | .mod => .Mod | .pow => .Pow
theorem op_bin {X : Cx} : ∀ o : BOp, OpR X (binaryOp (opOf o)) (rBin X.K o)
  | .add => op_add.or (op_add_str.or op_cat)
  | .sub => op_sub
  | .mul => op_mul.or op_rep
  | .div => op_fdivN
  | .mod => op_modN
  | .pow => op_pow

section
variable {K : PySem.W.Frag} {gm : Nat → Addr} {α : Nat → Addr} {h h' : AH} {H : Hp}
/-- what a value's run asks of what follows -/
abbrev Then (K : PySem.W.Frag) (gm : Nat → Addr) (α : Nat → Addr) (h : AH) (H : Hp) (v : AV) (h' : AH) (Q : VK) : Prop := ∀ α' H', Step K gm α h H α' h' H' → v.lt h'.n → Q (cv gm α' v) H'
theorem Then.same {Q : VK} {v : AV} (g : Good K gm α h H) (q : Then K gm α h H v h Q) (l : v.lt h.n) : Q (cv gm α v) H := q α H (Step.refl g) l
theorem Then.new {Q : VK} {o : AO} {ho : HO} {p : Addr} (g : Good K gm α h H) (q : Then K gm α h H (.ref h.n) (h.push o) Q) (hp : H p = none) (hl : o.lt h.n) (hc : Co K gm α (upd H p ho) p o) : Q (.ref p) (upd H p ho) := by
  have z := q _ _ (g.alloc hp hl hc) (Nat.lt_succ_self h.n)
  have e : cv gm (bump α h.n p) (.ref h.n) = .ref p := by show V.ref _ = _; rw [bump_same]
  rw [e] at z
  exact z
theorem cvs_append (xs ys : List AV) : cvs gm α (xs ++ ys) = cvs gm α xs ++ cvs gm α ys := List.map_append
theorem cvs_length (xs : List AV) : (cvs gm α xs).length = xs.length := List.length_map _
theorem le_line {n : Nat} (h : n ≤ lid) : n ≤ sizeLine := Nat.le_trans h lid_le

theorem binop_ok (g : Good K gm α h H) {o : BOp} {a b v : AV} {Q : VK} (e : binop o h a b = .ok v h') (q : Then K gm α h H v h' Q) : rBin K o (cv gm α a) (cv gm α b) H Q := by
  cases o with
  | add =>
    unfold binop at e
    simp only at e
    split at e
    · cases e; exact .inl ⟨_, _, rfl, rfl, q.same g trivial⟩
    · split at e
      · rename_i hl; cases e; exact .inr (.inl ⟨_, _, rfl, rfl, le_line hl, q.same g trivial⟩)
      · cases e
    · split at e
      · rename_i l r xs ys e1 e2
        split at e
        · rename_i hl
          cases e
          obtain ⟨_, l1, c1⟩ := g.at_ _ _ e1
          obtain ⟨_, l2, c2⟩ := g.at_ _ _ e2
          refine .inr (.inr ⟨_, _, _, _, rfl, rfl, c1, c2, by rw [cvs_length, cvs_length]; exact le_line hl, fun p hp => ?_⟩)
          refine q.new g hp (fun v hv => ?_) (by show upd _ _ _ _ = _; rw [upd_same, cvs_append])
          rcases List.mem_append.mp hv with m | m
          · exact l1 v m
          · exact l2 v m
        · cases e
      · cases e
    · cases e
  | sub =>
    unfold binop two at e
    simp only at e
    split at e
    · cases e; exact ⟨_, _, rfl, rfl, q.same g trivial⟩
    · cases e
  | mul =>
    unfold binop at e
    simp only at e
    split at e
    · split at e
      · rename_i hc
        cases e
        exact .inl ⟨_, _, rfl, rfl, hc, q.same g trivial⟩
      · cases e
    · split at e
      · rename_i l k xs e1
        split at e
        · rename_i hk
          cases e
          obtain ⟨_, l1, c1⟩ := g.at_ _ _ e1
          refine .inr ⟨_, _, _, rfl, rfl, c1, by omega, by omega, by rw [cvs_length]; exact le_line hk.2.2, fun p hp => ?_⟩
          refine q.new g hp (fun v hv => ?_) (by show upd _ _ _ _ = _; rw [upd_same]; unfold cvs; rw [List.map_flatten, List.map_replicate])
          obtain ⟨z, hz, hv⟩ := List.mem_flatten.mp hv
          rw [(List.mem_replicate.mp hz).2] at hv
          exact l1 v hv
        · cases e
      · cases e
    · cases e
  | div =>
    unfold binop at e
    simp only at e
    split at e
    · split at e
      · rename_i hc; cases e; exact ⟨_, _, rfl, rfl, hc, q.same g trivial⟩
      · cases e
    · cases e
  | mod =>
    unfold binop at e
    simp only at e
    split at e
    · split at e
      · rename_i hc; cases e; exact ⟨_, _, rfl, rfl, hc, q.same g trivial⟩
      · cases e
    · cases e
  | pow =>
    unfold binop at e
    simp only at e
    split at e
    · split at e
      · rename_i hc; cases e; exact ⟨_, _, rfl, rfl, ⟨hc.1, by omega, hc.2.2⟩, q.same g trivial⟩
      · cases e
    · cases e
end
end J

set_option Elab.async false
set_option linter.all false
set_option maxRecDepth 100000
set_option maxHeartbeats 4000000
/-! rules over the layer that it lacks -/
namespace J
open PySem PySem.Spec PyProof.Rows L2
section
variable {X : Cx}
/-! sorted, of data -/
def rSortD (K : PySem.W.Frag) : List V → Hp → VK → Prop := fun vs H Q => ∃ (a : Addr) (xs : List V) (ds : List PyData), vs = [V.ref a] ∧ SqL K H a xs ∧ DpAll K H xs ds ∧ PySem.W.AllAlike ds ∧ PySem.W.Sortable ds ∧ (∀ d ∈ ds, d.depth ≤ 60) ∧
  ∀ p, H p = none → Q (.ref p) (upd H p (.lst (((xs.zip ds).mergeSort (PySem.W.dataLe false Prod.snd)).map Prod.fst)))
theorem dpAll_len {K : PySem.W.Frag} {H : Hp} : ∀ {xs : List V} {ds : List PyData}, DpAll K H xs ds → xs.length = ds.length
  | _, _, .nil => rfl
  | _, _, .cons _ t => congrArg Nat.succ (dpAll_len t)
theorem zip_snd {α β : Type} : ∀ {xs : List α} {ys : List β}, xs.length = ys.length → (xs.zip ys).map Prod.snd = ys
  | [], [], _ => rfl
  | x :: xs, y :: ys, h => by
    show y :: (xs.zip ys).map Prod.snd = y :: ys
    rw [zip_snd (Nat.succ.inj h)]
theorem each_vals {K : PySem.W.Frag} {H : Hp} : ∀ {xs : List V} {us : List Value} {ds : List PyData}, Vals xs us → DpAll K H xs ds → PySem.W.EachIs (fun u (b : V × PyData) => RelV b.1 u ∧ Dp K H b.1 b.2) us (xs.zip ds)
  | _, _, _, .nil, .nil => .nil
  | _, _, _, .cons r t, .cons d u => .cons ⟨r, d⟩ (each_vals t u)
theorem vals_each {K : PySem.W.Frag} {H : Hp} : ∀ {us : List Value} {bs : List (V × PyData)}, PySem.W.EachIs (fun u (b : V × PyData) => RelV b.1 u ∧ Dp K H b.1 b.2) us bs → Vals (bs.map Prod.fst) us
  | _, _, .nil => .nil
  | _, _, .cons h t => .cons h.1 (vals_each t)
theorem cr_sortD (hu : X.A.units + 70 < cLine) : CallR X (.builtin "sorted") (rSortD X.K) := by
  intro pins s σ H vs us Q I r h
  obtain ⟨a, xs, ds, rfl, hs, hd, hal, hso, hdp, q⟩ := h
  obtain ⟨its, rv, hl, hz⟩ := I.list hs
  rw [Vals.ref1 r]
  have hsn : (xs.zip ds).map Prod.snd = ds := zip_snd (dpAll_len hd)
  have e := each_vals rv hd
  have hlen : (xs.zip ds).length = xs.length := by rw [List.length_zip, dpAll_len hd, Nat.min_self]
  refine PySem.W.sorted_data (enc := Prod.snd) hl.isList e (e.mono fun u b z => Dp.reads I b.2 b.1 u z.2 z.1) (by rw [hsn]; exact hal) (by rw [hsn]; exact hso) (by rw [hlen]; exact hz) (fun b hb => ?_) fun out ho he => ?_
  · have hb' : b.2 ∈ ds := by rw [← hsn]; exact List.mem_map_of_mem hb
    have := hdp _ hb'
    omega
  · obtain ⟨ep, he'⟩ := PyProof.Rows.sortedAll_at s.heap its out.toArray
    have rl := vals_each he
    have hz2 : (((xs.zip ds).mergeSort (PySem.W.dataLe false Prod.snd)).map Prod.fst).length ≤ sizeLine := by rw [List.length_map, List.length_mergeSort, hlen]; exact hz
    exact ⟨.ref _, upd H (s.heap.objs.size + 1) (.lst _), I.laid (t' := s.toks) (fun _ _ => PyProof.Rows.sortedAll_old) (Nat.le_succ _) ⟨hz2, out, ep, rl, by simpa using he'⟩, rfl, q _ (I.hok.fresh (Nat.le_succ _))⟩

/-! repr, of data without dicts -/
def rRepr (K : PySem.W.Frag) : List V → Hp → VK → Prop := fun vs H Q => ∃ (x : V) (d : PyData), vs = [x] ∧ Dp K H x d ∧ d.showable = true ∧ d.hasDict = false ∧ d.depth ≤ 60 ∧ d.shown.length ≤ sizeLine ∧ Q (.str d.shown) H
theorem cr_repr (hg : X.A.guards = some []) (hu : X.A.units + 70 < cLine) : CallR X (.builtin "repr") (rRepr X.K) := by
  intro pins s σ H vs us Q I r h
  obtain ⟨x, d, rfl, hd, hs, hnd, hdp, hz, q⟩ := h
  obtain ⟨u, rfl, ru⟩ := vals1 r
  obtain ⟨as, rd⟩ := Dp.reads I d x u hd ru
  have done : ∀ tk t, EP X pins σ Q (.str d.shown t) { s with toks := tk } := fun tk t => ⟨.str d.shown, H, I.kept (t' := tk) fun _ _ e => e, ⟨t, rfl⟩, q⟩
  cases hd with
  | non => cases ru; exact PySem.P.repr_of_none (done _ _)
  | bl b => cases ru; exact PySem.P.repr_of_bool (done _ _)
  | int i => obtain ⟨t, rfl⟩ := ru; exact PySem.P.repr_of_int (of_decide_eq_true hs) (done _ _)
  | str z => obtain ⟨t, rfl⟩ := ru; exact PySem.P.repr_of_str (done _ _) hz
  | lst h1 h2 =>
    cases ru
    exact repr_of_reads' rd hs (fun z => by rw [hnd] at z; cases z) hg (by omega) (fun _ _ e => e) (fun h' t tk hk => ⟨.str _, H, I.kept hk, ⟨t, rfl⟩, q⟩) hz
  | tup h1 h2 =>
    cases ru
    exact repr_of_reads' rd hs (fun z => by rw [hnd] at z; cases z) hg (by omega) (fun _ _ e => e) (fun h' t tk hk => ⟨.str _, H, I.kept hk, ⟨t, rfl⟩, q⟩) hz

/-! in, not in, of dicts -/
def rDin (neg : Bool) : R2 := fun y x H Q => ∃ a o, x = .ref a ∧ DGet H a y o ∧ Q (.bl (if neg then !o.isSome else o.isSome)) H
theorem or_din (hu : X.A.units + 70 < cLine) : OpR X (compareOp .In) (rDin false) := by
  intro pins s σ H y x v u Q I ry rx h
  obtain ⟨a, o, rfl, g, q⟩ := h
  cases rx
  exact d_in (by omega) I g ry fun s3 I3 => ⟨.bl o.isSome, H, I3, rfl, q⟩
theorem or_dnin (hu : X.A.units + 70 < cLine) : OpR X (compareOp .NotIn) (rDin true) := by
  intro pins s σ H y x v u Q I ry rx h
  obtain ⟨a, o, rfl, g, q⟩ := h
  cases rx
  exact d_notIn (by omega) I g ry fun s3 I3 => ⟨.bl (!o.isSome), H, I3, rfl, q⟩

/-! d[k] by values -/
def rIxD : R2 := fun x y H Q => ∃ a v, x = .ref a ∧ DGet H a y (some v) ∧ Q v H
theorem ix_dict (hu : X.A.units + 70 < cLine) : IxR X rIxD := by
  intro value slice pins s σ H x y v u Q I rx ry h hs
  obtain ⟨a, w, rfl, g, q⟩ := h
  cases rx
  have run : wpAny (model X.prog X.w) X.A (getItem (.ref a) u) (EP X pins σ Q) X.xe s := d_getItem (by omega) I g ry fun w' s3 I3 rw' => ⟨w, H, I3, rw', q⟩
  exact tail_any (dict_typeIs I g) PySem.F.slot_dict_getitem.lookup run hs
end
end J

set_option Elab.async false
set_option linter.all false
set_option maxRecDepth 100000
set_option maxHeartbeats 4000000
/-! what comparisons, built-ins and methods give, and that the layer's readings follow -/
namespace J
open PySem L2

/-! ### data read off the abstract heap -/
def allM {A B : Type} (f : A → Option B) : List A → Option (List B)
  | [] => some []
  | x :: xs => match f x with
    | none => none
    | some y => match allM f xs with
      | none => none
      | some ys => some (y :: ys)
def pd (h : AH) : Nat → AV → Option PyData
  | 0, v => match v with
    | .non => some .none | .bl b => some (.bool b) | .int i => some (.int i) | .str x => some (.str x) | _ => none
  | n + 1, v => match v with
    | .non => some .none | .bl b => some (.bool b) | .int i => some (.int i) | .str x => some (.str x)
    | .ref i => match h.get i with
      | some (.lst xs) => (allM (pd h n) xs).map .list
      | some (.rol xs) => (allM (pd h n) xs).map .list
      | some (.kol xs) => (allM (pd h n) xs).map .list
      | some (.tup xs) => (allM (pd h n) xs).map .tuple
      | _ => none
    | _ => none
section
variable {K : PySem.W.Frag} {gm : Nat → Addr} {α : Nat → Addr} {h h' : AH} {H : Hp}
theorem allM_dp {f : AV → Option PyData} (hf : ∀ v d, f v = some d → Dp K H (cv gm α v) d) : ∀ {xs : List AV} {ds : List PyData}, allM f xs = some ds → DpAll K H (cvs gm α xs) ds
  | [], ds, e => by cases e; exact .nil
  | x :: xs, ds, e => by
    unfold allM at e
    cases e1 : f x with
    | none => rw [e1] at e; cases e
    | some y =>
      rw [e1] at e
      simp only at e
      cases e2 : allM f xs with
      | none => rw [e2] at e; cases e
      | some ys => rw [e2] at e; cases e; exact .cons (hf _ _ e1) (allM_dp hf e2)
theorem pd_ok (g : Good K gm α h H) : ∀ (n : Nat) (v : AV) (d : PyData), pd h n v = some d → Dp K H (cv gm α v) d
  | 0, v, d, e => by
    unfold pd at e
    split at e
    · cases e; exact .non
    · cases e; exact .bl _
    · cases e; exact .int _
    · cases e; exact .str _
    · cases e
  | n + 1, v, d, e => by
    unfold pd at e
    split at e
    · cases e; exact .non
    · cases e; exact .bl _
    · cases e; exact .int _
    · cases e; exact .str _
    · split at e
      · rename_i i xs eg
        obtain ⟨_, _, c⟩ := g.at_ _ _ eg
        cases ea : allM (pd h n) xs with
        | none => rw [ea] at e; cases e
        | some ds => rw [ea] at e; cases e; exact .lst (.inl (.inl c)) (allM_dp (pd_ok g n) ea)
      · rename_i i xs eg
        obtain ⟨_, _, o, c⟩ := g.at_ _ _ eg
        cases ea : allM (pd h n) xs with
        | none => rw [ea] at e; cases e
        | some ds => rw [ea] at e; cases e; exact .lst (.inl (.inr ⟨o, c⟩)) (allM_dp (pd_ok g n) ea)
      · rename_i i xs eg
        obtain ⟨_, _, c⟩ := g.at_ _ _ eg
        cases ea : allM (pd h n) xs with
        | none => rw [ea] at e; cases e
        | some ds => rw [ea] at e; cases e; exact .lst (.inr c) (allM_dp (pd_ok g n) ea)
      · rename_i i xs eg
        obtain ⟨_, _, c⟩ := g.at_ _ _ eg
        cases ea : allM (pd h n) xs with
        | none => rw [ea] at e; cases e
        | some ds => rw [ea] at e; cases e; exact .tup (.inl (.inl c)) (allM_dp (pd_ok g n) ea)
      · cases e
    · cases e
def deep : Nat := 40
/-! ### sequences -/
def seqL (h : AH) : AV → Option (List AV)
  | .ref i => match h.get i with
    | some (.lst xs) => some xs
    | some (.rol xs) => some xs
    | some (.kol xs) => some xs
    | _ => none
  | _ => none
def seqT (h : AH) : AV → Option (List AV)
  | .ref i => match h.get i with
    | some (.tup xs) => some xs
    | _ => none
  | _ => none
def seqD (h : AH) : AV → Option (List (Key × AV))
  | .ref i => match h.get i with
    | some (.dK xs) => some xs
    | _ => none
  | _ => none
theorem seqL_ok (g : Good K gm α h H) {v : AV} {xs : List AV} (e : seqL h v = some xs) : (∀ x ∈ xs, x.lt h.n) ∧ ∃ a, cv gm α v = .ref a ∧ SqL K H a (cvs gm α xs) := by
  unfold seqL at e
  split at e
  · split at e
    · rename_i eg; cases e
      obtain ⟨_, l, c⟩ := g.at_ _ _ eg
      exact ⟨l, _, rfl, .inl (.inl c)⟩
    · rename_i eg; cases e
      obtain ⟨_, l, o, c⟩ := g.at_ _ _ eg
      exact ⟨l, _, rfl, .inl (.inr ⟨o, c⟩)⟩
    · rename_i eg; cases e
      obtain ⟨_, l, c⟩ := g.at_ _ _ eg
      exact ⟨l, _, rfl, .inr c⟩
    · cases e
  · cases e
theorem seqT_ok (g : Good K gm α h H) {v : AV} {xs : List AV} (e : seqT h v = some xs) : (∀ x ∈ xs, x.lt h.n) ∧ ∃ a, cv gm α v = .ref a ∧ H a = some (.tup (cvs gm α xs)) := by
  unfold seqT at e
  split at e
  · split at e
    · rename_i eg; cases e
      obtain ⟨_, l, c⟩ := g.at_ _ _ eg
      exact ⟨l, _, rfl, c⟩
    · cases e
  · cases e
theorem seqD_ok (g : Good K gm α h H) {v : AV} {xs : List (Key × AV)} (e : seqD h v = some xs) : (∀ x ∈ xs, x.2.lt h.n) ∧ ∃ a, cv gm α v = .ref a ∧ H a = some (.dK (xs.map fun p => (p.1, cv gm α p.2))) := by
  unfold seqD at e
  split at e
  · split at e
    · rename_i eg; cases e
      obtain ⟨_, l, c⟩ := g.at_ _ _ eg
      exact ⟨l, _, rfl, c⟩
    · cases e
  · cases e
/-! ### flat values, keys -/
def flat : AV → Bool
  | .non | .bl _ | .int _ | .str _ => true
  | _ => false
def fv : AV → V
  | .non => .non | .bl b => .bl b | .int i => .int i | .str x => .str x | _ => .non
theorem fv_ok : ∀ {v : AV}, flat v = true → cv gm α v = fv v ∧ flatV (cv gm α v) = true
  | .non, _ => ⟨rfl, rfl⟩ | .bl _, _ => ⟨rfl, rfl⟩ | .int _, _ => ⟨rfl, rfl⟩ | .str _, _ => ⟨rfl, rfl⟩
  | .ref _, e => by cases e
  | .ty _, e => by cases e
  | .gl _, e => by cases e
theorem fvs_ok : ∀ {xs : List AV}, xs.all flat = true → cvs gm α xs = xs.map fv ∧ (cvs gm α xs).all flatV = true
  | [], _ => ⟨rfl, rfl⟩
  | x :: xs, e => by
    rw [List.all_cons, Bool.and_eq_true] at e
    obtain ⟨e1, e2⟩ := fv_ok (gm := gm) (α := α) e.1
    obtain ⟨i1, i2⟩ := fvs_ok e.2
    exact ⟨by show _ :: cvs gm α xs = _; rw [i1, e1]; rfl, by show (flatV _ && (cvs gm α xs).all flatV) = true; rw [e2, i2]; rfl⟩
def keyA : AV → Option Key
  | .int i => some (.inl i)
  | .str x => some (.inr x)
  | _ => none
theorem keyA_ok : ∀ {v : AV} {k : Key}, keyA v = some k → cv gm α v = kV k
  | .int _, _, e => by cases e; rfl
  | .str _, _, e => by cases e; rfl
  | .non, _, e => by cases e
  | .bl _, _, e => by cases e
  | .ref _, _, e => by cases e
  | .ty _, _, e => by cases e
  | .gl _, _, e => by cases e
def valA {κ : Type} [DecidableEq κ] (kvs : List (κ × AV)) (k : κ) : Option AV := (kvs.find? fun kv => decide (kv.1 = k)).map (·.2)
theorem valA_ok {κ : Type} [DecidableEq κ] (k : κ) : ∀ kvs : List (κ × AV), valV (kvs.map fun p => (p.1, cv gm α p.2)) k = (valA kvs k).map (cv gm α)
  | [] => rfl
  | p :: r => by
    unfold valV valA
    rw [List.map_cons, List.find?_cons, List.find?_cons]
    by_cases e : p.1 = k
    · simp [e]
    · simp only [e, decide_false]
      exact valA_ok k r
theorem valA_mem {κ : Type} [DecidableEq κ] {k : κ} {kvs : List (κ × AV)} {v : AV} (e : valA kvs k = some v) : ∃ p ∈ kvs, p.2 = v := by
  unfold valA at e
  obtain ⟨p, hp, e⟩ := Option.map_eq_some_iff.mp e
  exact ⟨p, List.mem_of_find?_eq_some hp, e⟩
def putA {κ : Type} [DecidableEq κ] (kvs : List (κ × AV)) (k : κ) (v : AV) : List (κ × AV) :=
  if (kvs.any fun kv => decide (kv.1 = k)) = true then kvs.map (fun kv => if kv.1 = k then (kv.1, v) else kv) else kvs ++ [(k, v)]
def keysA : List AV → Option (List Key)
  | [] => some []
  | v :: r => match keyA v, keysA r with
    | some k, some ks => some (k :: ks)
    | _, _ => none
theorem keysA_ok : ∀ {vs : List AV} {ks : List Key}, keysA vs = some ks → cvs gm α vs = ks.map kV
  | [], ks, e => by cases e; rfl
  | v :: r, ks, e => by
    unfold keysA at e
    split at e
    · rename_i k ks' e1 e2
      cases e
      show cv gm α v :: cvs gm α r = kV k :: ks'.map kV
      rw [keyA_ok e1, keysA_ok e2]
    · cases e
/-- a tuple's key -/
def keyT (h : AH) (v : AV) : Option (List Key) := match seqT h v with
  | some xs => keysA xs
  | none => none
theorem keyT_ok (g : Good K gm α h H) {v : AV} {ks : List Key} (e : keyT h v = some ks) : ∃ b, cv gm α v = .ref b ∧ H b = some (.tup (ks.map kV)) := by
  unfold keyT at e
  split at e
  · rename_i xs es
    obtain ⟨_, a, ea, sa⟩ := seqT_ok g es
    exact ⟨a, ea, by rw [sa, keysA_ok e]⟩
  · cases e
/-- a dict, also one that is locked -/
def seqDF (h : AH) : AV → Option (List (Key × AV))
  | .ref i => match h.get i with
    | some (.dK xs) => some xs
    | some (.fK xs) => some xs
    | _ => none
  | _ => none
theorem seqDF_ok (g : Good K gm α h H) {v : AV} {xs : List (Key × AV)} (e : seqDF h v = some xs) : (∀ x ∈ xs, x.2.lt h.n) ∧ ∃ a, cv gm α v = .ref a ∧ Rd H a (.dK (xs.map fun p => (p.1, cv gm α p.2))) := by
  unfold seqDF at e
  split at e
  · split at e
    · rename_i eg; cases e
      obtain ⟨_, l, c⟩ := g.at_ _ _ eg
      exact ⟨l, _, rfl, .inl c⟩
    · rename_i eg; cases e
      obtain ⟨_, l, c⟩ := g.at_ _ _ eg
      exact ⟨l, _, rfl, .inr c⟩
    · cases e
  · cases e
def seqDT (h : AH) : AV → Option (List (List Key × AV))
  | .ref i => match h.get i with
    | some (.dT xs) => some xs
    | some (.fT xs) => some xs
    | _ => none
  | _ => none
theorem seqDT_ok (g : Good K gm α h H) {v : AV} {xs : List (List Key × AV)} (e : seqDT h v = some xs) : (∀ x ∈ xs, x.2.lt h.n) ∧ ∃ a, cv gm α v = .ref a ∧ Rd H a (.dT (xs.map fun p => (p.1, cv gm α p.2))) := by
  unfold seqDT at e
  split at e
  · split at e
    · rename_i eg; cases e
      obtain ⟨_, l, c⟩ := g.at_ _ _ eg
      exact ⟨l, _, rfl, .inl c⟩
    · rename_i eg; cases e
      obtain ⟨_, l, c⟩ := g.at_ _ _ eg
      exact ⟨l, _, rfl, .inr c⟩
    · cases e
  · cases e
/-- what a dict holds at a key; nothing: not known -/
def dget (h : AH) (d k : AV) : Option (Option AV) := match seqDF h d with
  | some kvs => match keyA k with
    | some q => some (valA kvs q)
    | none => none
  | none => match seqDT h d with
    | some kvs => match keyT h k with
      | some q => some (valA kvs q)
      | none => none
    | none => none
theorem dget_ok (g : Good K gm α h H) {d k : AV} {r : Option AV} (e : dget h d k = some r) : ∃ a, cv gm α d = .ref a ∧ DGet H a (cv gm α k) (r.map (cv gm α)) ∧ ∀ v, r = some v → v.lt h.n := by
  unfold dget at e
  split at e
  · rename_i kvs es
    obtain ⟨l, p, ep, sp⟩ := seqDF_ok g es
    split at e
    · rename_i q eq
      cases e
      refine ⟨p, ep, .inl ⟨_, q, sp, keyA_ok eq, by rw [valA_ok]⟩, fun v ev => ?_⟩
      obtain ⟨pr, hp, e2⟩ := valA_mem ev
      rw [← e2]
      exact l pr hp
    · cases e
  · split at e
    · rename_i kvs es
      obtain ⟨l, p, ep, sp⟩ := seqDT_ok g es
      split at e
      · rename_i q eq
        cases e
        obtain ⟨b, eb, hb⟩ := keyT_ok g eq
        refine ⟨p, ep, .inr ⟨_, q, b, sp, eb, hb, by rw [valA_ok]⟩, fun v ev => ?_⟩
        obtain ⟨pr, hp, e2⟩ := valA_mem ev
        rw [← e2]
        exact l pr hp
      · cases e
    · cases e

/-! ### comparisons -/
def cmpop (o : COp) (h : AH) (a b : AV) : Option Bool := match o with
  | .eq => match pd h deep a, pd h deep b with
    | some d, some e => if SeqAt.shaped d && SeqAt.shaped e then some (PyData.eqv d e) else none
    | _, _ => none
  | .ne => match pd h deep a, pd h deep b with
    | some d, some e => if SeqAt.shaped d && SeqAt.shaped e then some (!PyData.eqv d e) else none
    | _, _ => none
  | .lt => match a, b with
    | .int i, .int j => some (decide (i < j))
    | .str x, .str y => some (decide (x.cps.toList < y.cps.toList))
    | _, _ => none
  | .le => match a, b with
    | .int i, .int j => some (decide (i ≤ j))
    | .str x, .str y => some (!decide (y.cps.toList < x.cps.toList))
    | _, _ => none
  | .gt => match a, b with
    | .int i, .int j => some (decide (j < i))
    | .str x, .str y => some (decide (y.cps.toList < x.cps.toList))
    | _, _ => none
  | .ge => match a, b with
    | .int i, .int j => some (decide (j ≤ i))
    | .str x, .str y => some (!decide (x.cps.toList < y.cps.toList))
    | _, _ => none
  | .in_ => inop h a b
  | .nin => (inop h a b).map (!·)
  | .is_ => match b with
    | .non => some (match a with | .non => true | _ => false)
    | _ => none
  | .isn => match b with
    | .non => some (match a with | .non => false | _ => true)
    | _ => none
where
  inop (h : AH) (a b : AV) : Option Bool := match seqL h b with
    | some xs => match pd h deep a, allM (pd h deep) xs with
      | some d, some ds => if SeqAt.shaped d && SeqAt.shaped (.list ds) then some (ds.any fun z => z.eqv d) else none
      | _, _ => none
    | none => match seqT h b with
      | some xs => if flat a && xs.all flat then some (inV (fv a) (xs.map fv)) else none
      | none => match dget h b a with
        | some r => some r.isSome
        | none => match a, b with
          | .str x, .str z => match x.cps.toList with
            | [c] => some (decide (c ∈ z.cps.toList))
            | _ => none
          | _, _ => none
def rInA (K : PySem.W.Frag) : R2 := fun x y H Q => rInD K x y H Q ∨ rIn K false x y H Q ∨ rDin false x y H Q ∨ (∃ (c : Nat) (z : Str), x = .str ⟨#[c]⟩ ∧ y = .str z ∧ Q (.bl (decide (c ∈ z.cps.toList))) H)
def rNinA (K : PySem.W.Frag) : R2 := fun x y H Q => rNotInD K x y H Q ∨ rIn K true x y H Q ∨ rDin true x y H Q ∨ (∃ (c : Nat) (z : Str), x = .str ⟨#[c]⟩ ∧ y = .str z ∧ Q (.bl (!decide (c ∈ z.cps.toList))) H)
def rCmp (K : PySem.W.Frag) : COp → R2
  | .eq => rEqD K
  | .ne => rNeD K
  | .lt => fun x y H Q => rI0 (fun i j => .bl (decide (i < j))) x y H Q ∨ ∃ i j, x = .str i ∧ y = .str j ∧ Q (.bl (decide (i.cps.toList < j.cps.toList))) H
  | .le => fun x y H Q => rI0 (fun i j => .bl (decide (i ≤ j))) x y H Q ∨ ∃ i j, x = .str i ∧ y = .str j ∧ Q (.bl (!decide (j.cps.toList < i.cps.toList))) H
  | .gt => fun x y H Q => rI0 (fun i j => .bl (decide (j < i))) x y H Q ∨ ∃ i j, x = .str i ∧ y = .str j ∧ Q (.bl (decide (j.cps.toList < i.cps.toList))) H
  | .ge => fun x y H Q => rI0 (fun i j => .bl (decide (j ≤ i))) x y H Q ∨ ∃ i j, x = .str i ∧ y = .str j ∧ Q (.bl (!decide (i.cps.toList < j.cps.toList))) H
  | .in_ => rInA K
  | .nin => rNinA K
  | .is_ => fun x y H Q => y = .non ∧ Q (.bl (decide (x = .non))) H
  | .isn => fun x y H Q => y = .non ∧ Q (.bl (!decide (x = .non))) H
def cmpOf : COp → CmpOp
  | .eq => .Eq | .ne => .NotEq | .lt => .Lt | .le => .LtE | .gt => .Gt | .ge => .GtE | .in_ => .In | .nin => .NotIn | .is_ => .Is | .isn => .IsNot
theorem op_cmp {X : Cx} (hu : X.A.units + 70 < cLine) : ∀ o : COp, OpR X (compareOp (cmpOf o)) (rCmp X.K o)
  | .eq => op_eqD (by omega)
  | .ne => op_neD (by omega)
  | .lt => op_lt.or op_lt_str
  | .le => op_le.or op_le_str
  | .gt => op_gt.or op_gt_str
  | .ge => op_ge.or op_ge_str
  | .in_ => (op_inD (by omega)).or (op_in_seq.or ((or_din hu).or op_in_sign))
  | .nin => (op_notInD (by omega)).or (op_notIn_seq.or ((or_dnin hu).or op_notIn_sign))
  | .is_ => op_isN
  | .isn => op_notN
theorem and_t {a b : Bool} (h : (a && b) = true) : a = true ∧ b = true := by
  rw [Bool.and_eq_true] at h
  exact h
theorem inop_ok (g : Good K gm α h H) {a b : AV} {r : Bool} {Q : VK} (e : cmpop.inop h a b = some r) (q : Q (.bl r) H) : rInA K (cv gm α a) (cv gm α b) H Q := by
  unfold cmpop.inop at e
  split at e
  · rename_i xs eb
    obtain ⟨_, a1, e1, s1⟩ := seqL_ok (K := K) g eb
    split at e
    · rename_i d ds ed eds
      split at e
      · rename_i hs
        cases e
        obtain ⟨s2, s3⟩ := and_t hs
        exact .inl ⟨d, ds, pd_ok g _ _ _ ed, by rw [e1]; exact .lst s1 (allM_dp (pd_ok g _) eds), s2, s3, q⟩
      · cases e
    · cases e
  · split at e
    · rename_i xs eb
      obtain ⟨_, a1, e1, s1⟩ := seqT_ok g eb
      split at e
      · rename_i hs
        cases e
        obtain ⟨s2, s3⟩ := and_t hs
        obtain ⟨f1, f2⟩ := fv_ok (gm := gm) (α := α) s2
        obtain ⟨f3, f4⟩ := fvs_ok (gm := gm) (α := α) s3
        refine .inr (.inl ⟨a1, _, e1, .inr (.inl (.inl s1)), f2, f4, ?_⟩)
        rw [f1, f3]
        exact q
      · cases e
    · split at e
      · rename_i r eb
        cases e
        obtain ⟨a1, e1, s1, _⟩ := dget_ok g eb
        refine .inr (.inr (.inl ⟨a1, _, e1, s1, ?_⟩))
        show Q (.bl (Option.map (cv gm α) r).isSome) H
        rw [Option.isSome_map]
        exact q
      · split at e
        · rename_i x z h1 h2 h3
          split at e
          · rename_i c ec
            cases e
            refine .inr (.inr (.inr ⟨c, z, ?_, rfl, q⟩))
            show V.str x = V.str ⟨#[c]⟩
            congr 1
            obtain ⟨⟨l⟩⟩ := x
            have el : l = [c] := ec
            subst el
            rfl
          · cases e
        · cases e
theorem ninop_ok (g : Good K gm α h H) {a b : AV} {r : Bool} {Q : VK} (e : cmpop.inop h a b = some r) (q : Q (.bl (!r)) H) : rNinA K (cv gm α a) (cv gm α b) H Q := by
  rcases inop_ok (K := K) (Q := fun v H => ∃ r', v = .bl r' ∧ Q (.bl (!r')) H) g e ⟨r, rfl, q⟩ with ⟨d, ds, h1, h2, h3, h4, r', e', q'⟩ | ⟨p, xs, h1, h2, h3, h4, r', e', q'⟩ | ⟨a1, o, h1, h2, r', e', q'⟩ | ⟨c, z, h1, h2, r', e', q'⟩
  · cases e'; exact .inl ⟨d, ds, h1, h2, h3, h4, q'⟩
  · cases e'; exact .inr (.inl ⟨p, xs, h1, h2, h3, h4, q'⟩)
  · cases e'; exact .inr (.inr (.inl ⟨a1, o, h1, h2, q'⟩))
  · cases e'; exact .inr (.inr (.inr ⟨c, z, h1, h2, q'⟩))
theorem cmpop_ok (g : Good K gm α h H) {o : COp} {a b : AV} {r : Bool} {Q : VK} (e : cmpop o h a b = some r) (q : Q (.bl r) H) : rCmp K o (cv gm α a) (cv gm α b) H Q := by
  cases o with
  | eq =>
    unfold cmpop at e
    simp only at e
    split at e
    · rename_i d e' ed ee
      split at e
      · rename_i hs; cases e
        exact ⟨d, e', pd_ok g _ _ _ ed, pd_ok g _ _ _ ee, (and_t hs).1, (and_t hs).2, q⟩
      · cases e
    · cases e
  | ne =>
    unfold cmpop at e
    simp only at e
    split at e
    · rename_i d e' ed ee
      split at e
      · rename_i hs; cases e
        exact ⟨d, e', pd_ok g _ _ _ ed, pd_ok g _ _ _ ee, (and_t hs).1, (and_t hs).2, q⟩
      · cases e
    · cases e
  | lt =>
    unfold cmpop at e
    simp only at e
    split at e
    · cases e; exact .inl ⟨_, _, rfl, rfl, q⟩
    · cases e; exact .inr ⟨_, _, rfl, rfl, q⟩
    · cases e
  | le =>
    unfold cmpop at e
    simp only at e
    split at e
    · cases e; exact .inl ⟨_, _, rfl, rfl, q⟩
    · cases e; exact .inr ⟨_, _, rfl, rfl, q⟩
    · cases e
  | gt =>
    unfold cmpop at e
    simp only at e
    split at e
    · cases e; exact .inl ⟨_, _, rfl, rfl, q⟩
    · cases e; exact .inr ⟨_, _, rfl, rfl, q⟩
    · cases e
  | ge =>
    unfold cmpop at e
    simp only at e
    split at e
    · cases e; exact .inl ⟨_, _, rfl, rfl, q⟩
    · cases e; exact .inr ⟨_, _, rfl, rfl, q⟩
    · cases e
  | in_ => exact inop_ok g e q
  | nin =>
    obtain ⟨r', e1, e2⟩ := Option.map_eq_some_iff.mp e
    subst e2
    exact ninop_ok g e1 q
  | is_ =>
    unfold cmpop at e
    simp only at e
    split at e
    · cases e
      refine ⟨rfl, ?_⟩
      cases a <;> exact q
    · cases e
  | isn =>
    unfold cmpop at e
    simp only at e
    split at e
    · cases e
      refine ⟨rfl, ?_⟩
      cases a <;> exact q
    · cases e
end
end J

set_option Elab.async false
set_option linter.all false
set_option maxRecDepth 100000
set_option maxHeartbeats 4000000
/-! dict(pairs), keys that are tuples -/
namespace J
open PySem PySem.Spec PyProof.Rows L2
/-- a pair's parts: the key, the tuple that it is, the value -/
abbrev P3 : Type := List Key × Addr × V
def putAll (acc : List (List Key × V)) (kvs : List P3) : List (List Key × V) := kvs.foldl (fun acc kv => putK acc kv.1 kv.2.2) acc
abbrev T3 (H : Hp) : List P3 → List (List Key × Addr × Value) → Prop := Paired fun p q => p.1 = q.1 ∧ p.2.1 = q.2.1 ∧ H p.2.1 = some (.tup (p.1.map kV)) ∧ RelV p.2.2 q.2.2
theorem kt_all {H : Hp} {more : List P3} {rs : List (List Key × Addr × Value)} (r : T3 H more rs) : ∀ {kvs : List (List Key × V)} {xs : List (List Key × Addr × Value)}, KT H kvs xs → KT H (putAll kvs more) (storedAllH xs rs) := by
  induction r with
  | nil => exact fun q => q
  | @cons p q ps qs h t ih =>
    intro kvs xs k
    obtain ⟨h1, h2, h3, h4⟩ := h
    have z := k.put p.1 (b := p.2.1) h3 h4
    rw [h1, h2] at z
    have := ih z
    rw [← h1] at this
    show KT H (putAll (putK kvs p.1 p.2.2) ps) (storedAllH (storedH xs q.1 q.2.1 q.2.2) qs)
    rw [← h1]
    exact this
theorem putAll_len : ∀ (more : List P3) (kvs : List (List Key × V)), (putAll kvs more).length ≤ kvs.length + more.length
  | [], kvs => Nat.le_refl _
  | p :: r, kvs => by
    have a := putAll_len r (putK kvs p.1 p.2.2)
    have b := length_putK kvs p.1 p.2.2
    show (putAll (putK kvs p.1 p.2.2) r).length ≤ _
    rw [List.length_cons]
    omega
def rDictT (K : PySem.W.Frag) : List V → Hp → VK → Prop := fun xs H Q => ∃ (a : Addr) (ps : List Addr) (kvs : List P3), xs = [.ref a] ∧ SqL K H a (ps.map V.ref) ∧
  Paired (fun p kv => SqT K H p [.ref kv.2.1, kv.2.2] ∧ H kv.2.1 = some (.tup (kv.1.map kV))) ps kvs ∧ ∀ p, H p = none → Q (.ref p) (upd H p (.dT (putAll [] kvs)))
section
variable {X : Cx}
theorem triples_of {pins : List (Addr × Obj)} {σ : L2.St} {H : Hp} {s : Shared} (I : Inv X pins σ H s) : ∀ {ps : List Addr} {kvs : List P3}, Paired (fun p kv => SqT X.K H p [.ref kv.2.1, kv.2.2] ∧ H kv.2.1 = some (.tup (kv.1.map kV))) ps kvs →
    ∃ rs : List (List Key × Addr × Value), T3 H kvs rs ∧ rs.length = ps.length ∧ ∀ (j : Nat) (q : List Key × Addr × Value), rs[j]? = some q → ∃ b, ps[j]? = some b ∧ IsTup s.heap b #[.ref q.2.1, q.2.2] ∧ H q.2.1 = some (.tup (q.1.map kV))
  | _, _, .nil => ⟨[], .nil, rfl, fun j q e => by simp at e⟩
  | _, _, .cons (a := p) (b := kv) h t => by
    obtain ⟨rs, r, hl, hp⟩ := triples_of I t
    obtain ⟨its, rv, ht, _⟩ := I.tuple h.1
    obtain ⟨u, y, ei, ru, ry⟩ := vals2 rv
    subst ei
    cases (show u = Value.ref kv.2.1 from ru)
    refine ⟨(kv.1, kv.2.1, y) :: rs, .cons ⟨rfl, rfl, h.2, ry⟩ r, by rw [List.length_cons, List.length_cons, hl], fun j q e => ?_⟩
    cases j with
    | zero =>
      cases (show (kv.1, kv.2.1, y) = q from Option.some.inj e)
      exact ⟨p, rfl, ht, h.2⟩
    | succ j => exact hp j q e
theorem call_dictT (hc : X.calm = true) (hu : X.A.units + 70 < cLine) : CallR X (.type "dict") (rDictT X.K) := by
  intro pins s σ H xs us Q I r q
  obtain ⟨a, ps, kvs, ex, hq, hp, q⟩ := q
  subst ex
  obtain ⟨u, eu, rx⟩ := vals1 r
  subst eu
  cases rx
  obtain ⟨its, rv, pl, hz⟩ := I.list hq
  have ei := refs_at rv
  subst ei
  rw [List.length_map] at hz
  obtain ⟨rs, rel, hl, hpr⟩ := triples_of I hp
  have plain : PlainSeq "list" s.heap a (ps.map Value.ref).toArray := by
    obtain ⟨o, n, ho, h1, h2, h3⟩ := pl
    exact ⟨o, n, ho, h1, h2, h3⟩
  let prs : List (Value × Value) := rs.map fun q => (.ref q.2.1, q.2.2)
  have pl2 : prs.length = ps.length := by rw [List.length_map, hl]
  have items : PairItems s.heap (ps.map Value.ref).toArray (fun j => ps.getD j 0) prs := by
    refine ⟨by rw [List.size_toArray, List.length_map, pl2], fun j k v e => ?_⟩
    obtain ⟨q0, e1, e2⟩ := Option.map_eq_some_iff.mp (show (rs[j]?).map _ = some (k, v) from (List.getElem?_map ..).symm.trans e)
    cases e2
    obtain ⟨b, e3, tb, _⟩ := hpr j q0 e1
    have eb : ps.getD j 0 = b := by rw [List.getD_eq_getElem?_getD, e3]; rfl
    refine ⟨by show _ = some (Value.ref (ps.getD j 0)); rw [eb]; simp [e3], ?_⟩
    show PairAt s.heap (ps.getD j 0) _ _
    rw [eb]
    obtain ⟨o, h1, h2, n, h3⟩ := tb
    exact .inl ⟨o, h1, h2, n, h3⟩
  have keyAt : ∀ x ∈ rs, (tupleKind (mixKind X.prog X.w)).is s.heap x.1 x.2.1 := fun x hx => by
    obtain ⟨j, hj⟩ := List.getElem?_of_mem hx
    obtain ⟨_, _, _, hk⟩ := hpr j x hj
    exact key_of I.hok hk
  refine call_dict_pairsH (knd := tupleKind (mixKind X.prog X.w)) (ps := rs) (PairArg.list a (ps.map Value.ref).toArray (fun j => ps.getD j 0) prs) (I.ok.hd hc) (show X.A.in1.in1.units < cLine from ?room) ⟨plain, items⟩ ?have_ ?stay (by rw [pl2]; exact hz) fun h' tk hd' k => ?fin
  case room =>
    have e : X.A.in1.in1.units = X.A.units + 2 := rfl
    omega
  case have_ =>
    refine ⟨by rw [pl2, hl], fun i key v e => ?_⟩
    obtain ⟨q0, e1, e2⟩ := Option.map_eq_some_iff.mp (show (rs[i]?).map _ = some (key, v) from (List.getElem?_map ..).symm.trans e)
    cases e2
    exact ⟨q0.1, q0.2.1, e1, rfl⟩
  case stay =>
    intro h' hk x hx
    obtain ⟨o, its, n, h1, h2⟩ := keyAt x hx
    exact ⟨o, its, n, hk _ _ (Nat.ne_of_lt (Heap.lt_size h1)) (fun z => nomatch z) h1, h2⟩
  case fin =>
    have hm : (s.heap.objs.size == sysModules) = false := beq_eq_false_iff_ne.mpr (Nat.ne_of_gt I.big)
    have hn := I.hok.fresh (Nat.le_refl s.heap.objs.size)
    have line : (putAll [] kvs).length ≤ sizeLine := by
      have z := putAll_len kvs []
      have zl : kvs.length = rs.length := Paired.length rel
      rw [List.length_nil] at z
      omega
    obtain ⟨o, es, ep, g1, g2, g3, g4, _, g5⟩ := hd'
    refine ⟨.ref s.heap.objs.size, upd H s.heap.objs.size (.dT (putAll [] kvs)), I.laid (t' := tk) (fun b u e => k b u (fun z => nomatch z) e) (Nat.le_refl _) ⟨line, hm, storedAllH [] rs, (kt_all rel .nil).keeps fun b ys e => ?_, o, es, ep, g1, g2, g3, g4, g5⟩, rfl, q _ hn⟩
    rw [upd_ne (ne_of_none e hn)]
    exact e
end
end J

set_option Elab.async false
set_option linter.all false
set_option maxRecDepth 100000
set_option maxHeartbeats 4000000
/-! built-ins by name, methods of built-in types, subscripts, slices -/
namespace J
open PySem L2

/-! ### a stable sort that computes -/
section
variable {A : Type} (le : A → A → Bool)
def ins (x : A) : List A → List A
  | [] => [x]
  | y :: ys => if le x y then x :: y :: ys else y :: ins x ys
def isort : List A → List A
  | [] => []
  | x :: xs => ins le x (isort xs)
variable {le}
theorem ins_mem {x z : A} : ∀ {l : List A}, z ∈ ins le x l ↔ z = x ∨ z ∈ l
  | [] => by simp [ins]
  | y :: ys => by
    unfold ins
    by_cases c : le x y = true
    · rw [if_pos c]; exact List.mem_cons
    · rw [if_neg c, List.mem_cons, ins_mem, List.mem_cons]
      exact ⟨fun h => h.elim (fun e => .inr (.inl e)) fun h => h.elim .inl fun m => .inr (.inr m), fun h => h.elim (fun e => .inr (.inl e)) fun h => h.elim .inl fun m => .inr (.inr m)⟩
theorem isort_mem {z : A} : ∀ {l : List A}, z ∈ isort le l ↔ z ∈ l
  | [] => Iff.rfl
  | x :: xs => by
    unfold isort
    rw [ins_mem, isort_mem, List.mem_cons]
theorem ins_pair (t : PySem.W.TotalLe le) {x : A} : ∀ {l : List A}, l.Pairwise (fun a b => le a b = true) → (ins le x l).Pairwise (fun a b => le a b = true)
  | [], _ => List.pairwise_singleton _ _
  | y :: ys, h => by
    unfold ins
    rw [List.pairwise_cons] at h
    by_cases c : le x y = true
    · rw [if_pos c, List.pairwise_cons]
      refine ⟨fun z hz => ?_, List.pairwise_cons.mpr h⟩
      rcases List.mem_cons.mp hz with e | m
      · rw [e]; exact c
      · exact t.trans _ _ _ c (h.1 z m)
    · rw [if_neg c, List.pairwise_cons]
      refine ⟨fun z hz => ?_, ins_pair t h.2⟩
      rcases ins_mem.mp hz with e | m
      · rw [e]; exact (t.total x y).elim (fun q => absurd q c) id
      · exact h.1 z m
theorem isort_pair (t : PySem.W.TotalLe le) : ∀ l : List A, (isort le l).Pairwise (fun a b => le a b = true)
  | [] => List.Pairwise.nil
  | x :: xs => ins_pair t (isort_pair t xs)
theorem ins_filter (t : PySem.W.TotalLe le) (c x : A) : ∀ l : List A, (ins le x l).filter (PySem.W.sameRank le c) = (x :: l).filter (PySem.W.sameRank le c)
  | [] => rfl
  | y :: ys => by
    unfold ins
    by_cases h : le x y = true
    · rw [if_pos h]
    · rw [if_neg h, List.filter_cons, ins_filter t c x ys]
      by_cases hx : PySem.W.sameRank le c x = true
      · have hy : ¬ PySem.W.sameRank le c y = true := fun q => by
          unfold PySem.W.sameRank at hx q
          rw [Bool.and_eq_true] at hx q
          exact h (t.trans _ _ _ hx.2 q.1)
        rw [if_neg hy, List.filter_cons, if_pos hx, List.filter_cons, if_pos hx, List.filter_cons, if_neg hy]
      · rw [List.filter_cons (x := x), if_neg hx, List.filter_cons (x := x), if_neg hx, List.filter_cons]
theorem isort_filter (t : PySem.W.TotalLe le) (c : A) : ∀ l : List A, (isort le l).filter (PySem.W.sameRank le c) = l.filter (PySem.W.sameRank le c)
  | [] => rfl
  | x :: xs => by
    unfold isort
    rw [ins_filter t, List.filter_cons, isort_filter t c xs, List.filter_cons]
theorem isort_eq (t : PySem.W.TotalLe le) (l : List A) : isort le l = l.mergeSort le := PySem.W.sort_unique t (isort_pair t l) fun c => isort_filter t c l
theorem ins_map {B : Type} (f : A → B) (le2 : B → B → Bool) (hle : ∀ a b, le a b = le2 (f a) (f b)) (x : A) : ∀ l : List A, (ins le x l).map f = ins le2 (f x) (l.map f)
  | [] => rfl
  | y :: ys => by
    unfold ins
    rw [List.map_cons]
    show _ = if le2 (f x) (f y) = true then _ else _
    rw [← hle]
    by_cases c : le x y = true
    · rw [if_pos c, if_pos c]; rfl
    · rw [if_neg c, if_neg c, List.map_cons, ins_map f le2 hle x ys]
theorem isort_map {B : Type} (f : A → B) (le2 : B → B → Bool) (hle : ∀ a b, le a b = le2 (f a) (f b)) : ∀ l : List A, (isort le l).map f = isort le2 (l.map f)
  | [] => rfl
  | x :: xs => by
    unfold isort
    rw [ins_map f le2 hle, isort_map f le2 hle xs]
    rfl
end
theorem dataLe_total {B : Type} (k : B → PyData) : PySem.W.TotalLe (PySem.W.dataLe false k) := PySem.W.sortLe_total _ _ _
def alikeAll' : List PyData → Bool := fun ds => ds.all fun d => ds.all fun e => PySem.W.alike d e
def sortableB (ds : List PyData) : Bool := (ds.all fun d => match d with | .tuple (_ :: _) => true | _ => false) || ds.all fun d => match d with | .none => false | .tuple _ => false | _ => true
theorem alikeAll_ok {ds : List PyData} (h : alikeAll' ds = true) : PySem.W.AllAlike ds := fun d hd e he => List.all_eq_true.mp (List.all_eq_true.mp h d hd) e he
theorem sortable_ok {ds : List PyData} (h : sortableB ds = true) : PySem.W.Sortable ds := by
  unfold sortableB at h
  rw [Bool.or_eq_true] at h
  rcases h with h | h
  · refine .inl fun d hd => ?_
    have q := List.all_eq_true.mp h d hd
    split at q
    · exact ⟨_, _, rfl⟩
    · cases q
  · refine .inr fun d hd => ?_
    have q := List.all_eq_true.mp h d hd
    split at q
    · cases q
    · cases q
    · rename_i n1 n2
      exact ⟨fun e => n1 e, fun xs e => n2 xs e⟩

/-! ### built-ins by name -/
def boolsA : List AV → Option (List Bool)
  | [] => some []
  | .bl b :: r => (boolsA r).map (b :: ·)
  | _ => none
def intsA : List AV → Option (List Int)
  | [] => some []
  | .int b :: r => (intsA r).map (b :: ·)
  | _ => none
section
variable {gm : Nat → Addr} {α : Nat → Addr}
theorem boolsA_ok : ∀ {xs : List AV} {bs : List Bool}, boolsA xs = some bs → cvs gm α xs = bs.map V.bl
  | [], _, e => by cases e; rfl
  | .bl b :: r, bs, e => by
    obtain ⟨t, e1, e2⟩ := Option.map_eq_some_iff.mp (show (boolsA r).map (b :: ·) = some bs from e)
    subst e2
    show _ :: cvs gm α r = _
    rw [boolsA_ok e1]; rfl
  | .non :: _, _, e => by cases e
  | .int _ :: _, _, e => by cases e
  | .str _ :: _, _, e => by cases e
  | .ref _ :: _, _, e => by cases e
  | .ty _ :: _, _, e => by cases e
  | .gl _ :: _, _, e => by cases e
theorem intsA_ok : ∀ {xs : List AV} {bs : List Int}, intsA xs = some bs → cvs gm α xs = bs.map V.int
  | [], _, e => by cases e; rfl
  | .int b :: r, bs, e => by
    obtain ⟨t, e1, e2⟩ := Option.map_eq_some_iff.mp (show (intsA r).map (b :: ·) = some bs from e)
    subst e2
    show _ :: cvs gm α r = _
    rw [intsA_ok e1]; rfl
  | .non :: _, _, e => by cases e
  | .bl _ :: _, _, e => by cases e
  | .str _ :: _, _, e => by cases e
  | .ref _ :: _, _, e => by cases e
  | .ty _ :: _, _, e => by cases e
  | .gl _ :: _, _, e => by cases e
end
def leastI : Int → List Int → Int
  | m, [] => m
  | m, x :: r => leastI (if x < m then x else m) r
def greatI : Int → List Int → Int
  | m, [] => m
  | m, x :: r => greatI (if m < x then x else m) r
theorem leastI_ok : ∀ (r : List Int) (m : Int), leastI m r ∈ m :: r ∧ ∀ y ∈ m :: r, leastI m r ≤ y
  | [], m => ⟨List.mem_cons_self, fun y hy => by rcases List.mem_cons.mp hy with e | e; exact Int.le_of_eq e.symm; cases e⟩
  | x :: r, m => by
    obtain ⟨h1, h2⟩ := leastI_ok r (if x < m then x else m)
    unfold leastI
    refine ⟨?_, fun y hy => ?_⟩
    · rcases List.mem_cons.mp h1 with e | e
      · rw [e]; split
        · exact List.mem_cons_of_mem _ List.mem_cons_self
        · exact List.mem_cons_self
      · exact List.mem_cons_of_mem _ (List.mem_cons_of_mem _ e)
    · have h0 := h2 _ List.mem_cons_self
      have hm : (if x < m then x else m) ≤ m ∧ (if x < m then x else m) ≤ x := by split <;> omega
      rcases List.mem_cons.mp hy with e | hy
      · subst e; exact Int.le_trans h0 hm.1
      · rcases List.mem_cons.mp hy with e | hy
        · subst e; exact Int.le_trans h0 hm.2
        · exact h2 y (List.mem_cons_of_mem _ hy)
theorem greatI_ok : ∀ (r : List Int) (m : Int), greatI m r ∈ m :: r ∧ ∀ y ∈ m :: r, y ≤ greatI m r
  | [], m => ⟨List.mem_cons_self, fun y hy => by rcases List.mem_cons.mp hy with e | e; exact Int.le_of_eq e; cases e⟩
  | x :: r, m => by
    obtain ⟨h1, h2⟩ := greatI_ok r (if m < x then x else m)
    unfold greatI
    refine ⟨?_, fun y hy => ?_⟩
    · rcases List.mem_cons.mp h1 with e | e
      · rw [e]; split
        · exact List.mem_cons_of_mem _ List.mem_cons_self
        · exact List.mem_cons_self
      · exact List.mem_cons_of_mem _ (List.mem_cons_of_mem _ e)
    · have h0 := h2 _ List.mem_cons_self
      have hm : m ≤ (if m < x then x else m) ∧ x ≤ (if m < x then x else m) := by split <;> omega
      rcases List.mem_cons.mp hy with e | hy
      · subst e; exact Int.le_trans hm.1 h0
      · rcases List.mem_cons.mp hy with e | hy
        · subst e; exact Int.le_trans hm.2 h0
        · exact h2 y (List.mem_cons_of_mem _ hy)
def leD (p q : AV × PyData) : Bool := PySem.W.dataLe false Prod.snd p q
/-- pairs of a key and a value, each a tuple -/
def pairsA (h : AH) : List AV → Option (List (Key × AV))
  | [] => some []
  | v :: r => match seqT h v with
    | some [k, w] => match keyA k with
      | some key => (pairsA h r).map ((key, w) :: ·)
      | none => none
    | _ => none
def mergeA {κ : Type} [DecidableEq κ] (kvs : List (κ × AV)) (more : List (κ × AV)) : List (κ × AV) := more.foldl (fun acc kv => putA acc kv.1 kv.2) kvs

/-- a dict with tuple keys, not locked -/
def seqTd (h : AH) : AV → Option (List (List Key × AV))
  | .ref i => match h.get i with
    | some (.dT xs) => some xs
    | _ => none
  | _ => none
/-- pairs of a tuple's key and a value -/
def pairsTA (h : AH) : List AV → Option (List (List Key × AV))
  | [] => some []
  | v :: r => match seqT h v with
    | some [k, w] => match keyT h k with
      | some key => (pairsTA h r).map ((key, w) :: ·)
      | none => none
    | _ => none
def bfn (b : BI) (h : AH) (args : List AV) : Out AV := match b, args with
  | .len, [v] => match seqL h v with
    | some xs => .ok (.int xs.length) h
    | none => match seqT h v with
      | some xs => .ok (.int xs.length) h
      | none => match seqD h v with
        | some kvs => .ok (.int kvs.length) h
        | none => match seqTd h v with
         | some kvs => .ok (.int kvs.length) h
         | none => match v with
          | .str x => if x.length ≤ lid then .ok (.int x.length) h else .bad
          | _ => .bad
  | .list, [v] => match seqL h v with
    | some xs => .ok (.ref h.n) (h.push (.lst xs))
    | none => match seqT h v with
      | some xs => .ok (.ref h.n) (h.push (.lst xs))
      | none => .bad
  | .tuple, [v] => match seqL h v with
    | some xs => .ok (.ref h.n) (h.push (.tup xs))
    | none => match seqT h v with
      | some _ => .ok v h
      | none => .bad
  | .all, [v] => match (seqL h v).bind boolsA with
    | some bs => .ok (.bl (bs.all id)) h
    | none => .bad
  | .any, [v] => match (seqL h v).bind boolsA with
    | some bs => .ok (.bl (bs.any id)) h
    | none => .bad
  | .sum, [v] => match (seqL h v).bind intsA with
    | some bs => .ok (.int bs.sum) h
    | none => .bad
  | .min, [.int i, .int j] => .ok (.int (if j < i then j else i)) h
  | .min, [v] => match (seqL h v).bind intsA with
    | some (m :: r) => .ok (.int (leastI m r)) h
    | _ => .bad
  | .max, [.int i, .int j] => .ok (.int (if j > i then j else i)) h
  | .max, [v] => match (seqL h v).bind intsA with
    | some (m :: r) => .ok (.int (greatI m r)) h
    | _ => .bad
  | .int, [.int i] => .ok (.int i) h
  | .int, [.bl k] => .ok (.int (if k then 1 else 0)) h
  | .bool, [.int i] => .ok (.bl (i != 0)) h
  | .bool, [.bl k] => .ok (.bl k) h
  | .str, [.int i] => if i.natAbs.log2 < 1920 then .ok (.str (toString i)) h else .bad
  | .repr, [v] => match pd h deep v with
    | some d => if d.showable && !d.hasDict && decide (d.depth ≤ 60) && decide (d.shown.length ≤ lid) then .ok (.str d.shown) h else .bad
    | none => .bad
  | .sorted, [v] => match seqL h v with
    | some xs => match allM (pd h deep) xs with
      | some ds => if alikeAll' ds && sortableB ds && ds.all (fun d => decide (d.depth ≤ 60)) then .ok (.ref h.n) (h.push (.lst ((isort leD (xs.zip ds)).map Prod.fst))) else .bad
      | none => .bad
    | none => .bad
  | .dict, [v] => match (seqL h v).bind (pairsA h) with
    | some kvs => .ok (.ref h.n) (h.push (.dK (mergeA [] kvs)))
    | none => match (seqL h v).bind (pairsTA h) with
      | some kvs => .ok (.ref h.n) (h.push (.dT (mergeA [] kvs)))
      | none => .bad
  | _, _ => .bad
def rBi (K : PySem.W.Frag) : BI → List V → Hp → VK → Prop
  | .len => fun xs H Q => (∃ p ys, xs = [.ref p] ∧ (SqL K H p ys ∨ SqT K H p ys) ∧ Q (.int ys.length) H) ∨ (∃ z, xs = [.str z] ∧ z.length ≤ sizeLine ∧ Q (.int z.length) H) ∨ (∃ a kvs, xs = [V.ref a] ∧ H a = some (.dK kvs) ∧ Q (.int kvs.length) H) ∨ rLenT xs H Q
  | .list => fun xs H Q => ∃ p ys, xs = [.ref p] ∧ (SqL K H p ys ∨ SqT K H p ys) ∧ ∀ l, H l = none → Q (.ref l) (upd H l (.lst ys))
  | .tuple => fun xs H Q => ∃ p ys, xs = [.ref p] ∧ ((SqL K H p ys ∧ ∀ l, H l = none → Q (.ref l) (upd H l (.tup ys))) ∨ (SqT K H p ys ∧ Q (.ref p) H))
  | .all => rAll K
  | .any => rAny K
  | .sum => rSum K
  | .min => fun xs H Q => (∃ i j, xs = [.int i, .int j] ∧ Q (.int (if j < i then j else i)) H) ∨ rMin K xs H Q
  | .max => fun xs H Q => (∃ i j, xs = [.int i, .int j] ∧ Q (.int (if j > i then j else i)) H) ∨ rMax K xs H Q
  | .int => fun xs H Q => (∃ i, xs = [.int i] ∧ Q (.int i) H) ∨ ∃ k, xs = [.bl k] ∧ Q (.int (if k then 1 else 0)) H
  | .bool => fun xs H Q => (∃ i, xs = [.int i] ∧ Q (.bl (i != 0)) H) ∨ ∃ k, xs = [.bl k] ∧ Q (.bl k) H
  | .str => fun xs H Q => ∃ i, xs = [.int i] ∧ i.natAbs.log2 < 1920 ∧ Q (.str (toString i)) H
  | .repr => rRepr K
  | .sorted => rSortD K
  | .dict => fun xs H Q => (∃ (a : Addr) (ps : List Addr) (kvs : List (Key × V)), xs = [.ref a] ∧ SqL K H a (ps.map V.ref) ∧ Paired (fun p kv => SqT K H p [kV kv.1, kv.2]) ps kvs ∧ ∀ p, H p = none → Q (.ref p) (upd H p (.dK (mergeK [] kvs)))) ∨ rDictT K xs H Q
  | .lenset => fun _ _ _ => False
theorem CallR.or {X : Cx} {f : Value} {r r' : List V → Hp → VK → Prop} (h : CallR X f r) (h' : CallR X f r') : CallR X f (fun xs H Q => r xs H Q ∨ r' xs H Q) := by
  intro pins s σ H xs us Q I rs q
  rcases q with q | q
  · exact h pins s σ H xs us Q I rs q
  · exact h' pins s σ H xs us Q I rs q
def biV : BI → Value
  | .len => .builtin "len" | .list => .type "list" | .tuple => .type "tuple" | .all => .builtin "all" | .any => .builtin "any" | .sum => .builtin "sum" | .min => .builtin "min" | .max => .builtin "max"
  | .int => .type "int" | .bool => .type "bool" | .str => .type "str" | .repr => .builtin "repr" | .sorted => .builtin "sorted" | .dict => .type "dict" | .lenset => .none
theorem cr_bi {X : Cx} (hc : X.calm = true) (hg : X.A.guards = some []) (hu : X.A.units + 70 < cLine) : ∀ b : BI, CallR X (biV b) (rBi X.K b)
  | .len => CallR.or call_len_seq (CallR.or call_len_str (CallR.or call_lenD call_len_dT))
  | .list => call_list_of
  | .tuple => call_tuple_of
  | .all => cr_all hc
  | .any => cr_any hc
  | .sum => cr_sum hc
  | .min => CallR.or (call_min2 hc) (cr_min hc)
  | .max => CallR.or (call_max2 hc) (cr_max hc)
  | .int => call_int1
  | .bool => call_bool1
  | .str => call_str_int
  | .repr => cr_repr hg hu
  | .sorted => cr_sortD hu
  | .dict => CallR.or (call_dictP hc) (call_dictT hc hu)
  | .lenset => fun _ _ _ _ _ _ _ _ _ z => z.elim

section
variable {K : PySem.W.Frag} {gm : Nat → Addr} {α : Nat → Addr} {h h' : AH} {H : Hp}
theorem isort_conc {xs : List AV} {ds : List PyData} : ((isort leD (xs.zip ds)).map Prod.fst).map (cv gm α) = (((cvs gm α xs).zip ds).mergeSort (PySem.W.dataLe false Prod.snd)).map Prod.fst := by
  rw [← isort_eq (dataLe_total Prod.snd), show (cvs gm α xs).zip ds = (xs.zip ds).map fun p => (cv gm α p.1, p.2) from by
    unfold cvs
    rw [List.zip_map_left]
    rfl, ← isort_map (le := leD) (fun p : AV × PyData => (cv gm α p.1, p.2)) (PySem.W.dataLe false Prod.snd) (fun _ _ => rfl), List.map_map, List.map_map]
  rfl
theorem pairsA_ok (g : Good K gm α h H) : ∀ {xs : List AV} {kvs : List (Key × AV)}, pairsA h xs = some kvs → (∀ p ∈ kvs, p.2.lt h.n) ∧ ∃ ps : List Addr, cvs gm α xs = ps.map V.ref ∧ Paired (fun p (kv : Key × V) => SqT K H p [kV kv.1, kv.2]) ps (kvs.map fun p => (p.1, cv gm α p.2))
  | [], kvs, e => by cases e; exact ⟨fun p hp => (nomatch hp), [], rfl, Paired.nil⟩
  | v :: r, kvs, e => by
    unfold pairsA at e
    split at e
    · rename_i k w et
      split at e
      · rename_i key ek
        obtain ⟨t, e1, e2⟩ := Option.map_eq_some_iff.mp e
        subst e2
        obtain ⟨l0, ps, h1, h2⟩ := pairsA_ok g e1
        obtain ⟨l1, a, ea, sa⟩ := seqT_ok g et
        refine ⟨fun p hp => ?_, a :: ps, ?_, Paired.cons ?_ h2⟩
        · rcases List.mem_cons.mp hp with q | q
          · rw [q]; exact l1 w (List.mem_cons_of_mem _ List.mem_cons_self)
          · exact l0 p q
        · show cv gm α v :: cvs gm α r = _
          rw [ea, h1]; rfl
        · have sa' : H a = some (.tup [cv gm α k, cv gm α w]) := sa
          rw [keyA_ok ek] at sa'
          exact .inl (.inl sa')
      · cases e
    · cases e
theorem any_key {κ : Type} [DecidableEq κ] (k : κ) (kvs : List (κ × AV)) : ((kvs.map fun p => (p.1, cv gm α p.2)).any fun kv => decide (kv.1 = k)) = kvs.any fun kv => decide (kv.1 = k) := by
  rw [List.any_map]
  rfl
theorem putA_ok {κ : Type} [DecidableEq κ] (k : κ) (v : AV) (kvs : List (κ × AV)) : putK (kvs.map fun p => (p.1, cv gm α p.2)) k (cv gm α v) = (putA kvs k v).map fun p => (p.1, cv gm α p.2) := by
  unfold putK putA
  rw [any_key]
  by_cases c : (kvs.any fun kv => decide (kv.1 = k)) = true
  · rw [if_pos c, if_pos c, List.map_map, List.map_map]
    refine List.map_congr_left fun p _ => ?_
    show (if p.1 = k then (p.1, cv gm α v) else (p.1, cv gm α p.2)) = ((if p.1 = k then (p.1, v) else p).1, cv gm α (if p.1 = k then (p.1, v) else p).2)
    by_cases e : p.1 = k
    · rw [if_pos e, if_pos e]
    · rw [if_neg e, if_neg e]
  · rw [if_neg c, if_neg c, List.map_append]
    rfl
theorem putA_mem {κ : Type} [DecidableEq κ] {k : κ} {v : AV} {kvs : List (κ × AV)} {p : κ × AV} (hp : p ∈ putA kvs k v) : p.2 = v ∨ p ∈ kvs := by
  unfold putA at hp
  split at hp
  · obtain ⟨q, hq, e⟩ := List.mem_map.mp hp
    by_cases c : q.1 = k
    · rw [if_pos c] at e; exact .inl (by rw [← e])
    · rw [if_neg c] at e; exact .inr (by rw [← e]; exact hq)
  · rcases List.mem_append.mp hp with m | m
    · exact .inr m
    · exact .inl (by rw [List.mem_singleton.mp m])
theorem mergeA_ok : ∀ (more kvs : List (Key × AV)), mergeK (kvs.map fun p => (p.1, cv gm α p.2)) (more.map fun p => (p.1, cv gm α p.2)) = (mergeA kvs more).map fun p => (p.1, cv gm α p.2)
  | [], kvs => rfl
  | p :: r, kvs => by
    show mergeK (putK _ p.1 (cv gm α p.2)) (r.map _) = (mergeA (putA kvs p.1 p.2) r).map _
    rw [putA_ok]
    exact mergeA_ok r (putA kvs p.1 p.2)
theorem mergeA_lt {κ : Type} [DecidableEq κ] {n : Nat} : ∀ (more kvs : List (κ × AV)), (∀ p ∈ kvs, p.2.lt n) → (∀ p ∈ more, p.2.lt n) → ∀ p ∈ mergeA kvs more, p.2.lt n
  | [], kvs, h, _ => h
  | q :: r, kvs, h, h2 => mergeA_lt r (putA kvs q.1 q.2) (fun p hp => (putA_mem hp).elim (fun e => by rw [e]; exact h2 q List.mem_cons_self) (h p)) fun p hp => h2 p (List.mem_cons_of_mem _ hp)
theorem seqTd_ok (g : Good K gm α h H) {v : AV} {xs : List (List Key × AV)} (e : seqTd h v = some xs) : ∃ a, cv gm α v = .ref a ∧ H a = some (.dT (xs.map fun p => (p.1, cv gm α p.2))) := by
  unfold seqTd at e
  split at e
  · split at e
    · rename_i eg; cases e; exact ⟨_, rfl, (g.at_ _ _ eg).2.2⟩
    · cases e
  · cases e
theorem pairsTA_ok (g : Good K gm α h H) : ∀ {xs : List AV} {kvs : List (List Key × AV)}, pairsTA h xs = some kvs → (∀ p ∈ kvs, p.2.lt h.n) ∧ ∃ (ps : List Addr) (k3 : List P3), cvs gm α xs = ps.map V.ref ∧
    Paired (fun p kv => SqT K H p [.ref kv.2.1, kv.2.2] ∧ H kv.2.1 = some (.tup (kv.1.map kV))) ps k3 ∧ ∀ acc : List (List Key × AV), putAll (acc.map fun p => (p.1, cv gm α p.2)) k3 = (mergeA acc kvs).map fun p => (p.1, cv gm α p.2)
  | [], kvs, e => by cases e; exact ⟨fun p hp => (nomatch hp), [], [], rfl, Paired.nil, fun acc => rfl⟩
  | v :: r, kvs, e => by
    unfold pairsTA at e
    split at e
    · rename_i k w et
      split at e
      · rename_i key ek
        obtain ⟨t, e1, e2⟩ := Option.map_eq_some_iff.mp e
        subst e2
        obtain ⟨l0, ps, k3, h1, h2, h3⟩ := pairsTA_ok g e1
        obtain ⟨l1, a, ea, sa⟩ := seqT_ok g et
        obtain ⟨b, eb, hb⟩ := keyT_ok g ek
        refine ⟨fun p hp => ?_, a :: ps, (key, b, cv gm α w) :: k3, ?_, Paired.cons ⟨?_, hb⟩ h2, fun acc => ?_⟩
        · rcases List.mem_cons.mp hp with q | q
          · rw [q]; exact l1 w (List.mem_cons_of_mem _ List.mem_cons_self)
          · exact l0 p q
        · show cv gm α v :: cvs gm α r = _
          rw [ea, h1]; rfl
        · have sa' : H a = some (.tup [cv gm α k, cv gm α w]) := sa
          rw [eb] at sa'
          exact .inl (.inl sa')
        · show putAll (putK (acc.map fun p => (p.1, cv gm α p.2)) key (cv gm α w)) k3 = (mergeA (putA acc key w) t).map _
          rw [putA_ok]
          exact h3 _
      · cases e
    · cases e
theorem bfn_ok (g : Good K gm α h H) {b : BI} {args : List AV} {v : AV} {Q : VK} (e : bfn b h args = .ok v h') (q : Then K gm α h H v h' Q) (al : ∀ x ∈ args, x.lt h.n) : rBi K b (cvs gm α args) H Q := by
  unfold bfn at e
  split at e
  · rename_i v'
    split at e
    · rename_i xs es
      cases e
      obtain ⟨_, a, ea, sa⟩ := seqL_ok (K := K) g es
      exact .inl ⟨a, _, by show [_] = _; rw [ea], .inl sa, by rw [cvs_length]; exact q.same g trivial⟩
    · split at e
      · rename_i xs es
        cases e
        obtain ⟨_, a, ea, sa⟩ := seqT_ok g es
        exact .inl ⟨a, _, by show [_] = _; rw [ea], .inr (.inl (.inl sa)), by rw [cvs_length]; exact q.same g trivial⟩
      · split at e
        · rename_i kvs es
          cases e
          obtain ⟨_, a, ea, sa⟩ := seqD_ok g es
          exact .inr (.inr (.inl ⟨a, _, by show [_] = _; rw [ea], sa, by rw [List.length_map]; exact q.same g trivial⟩))
        · split at e
          · rename_i kvs es
            cases e
            obtain ⟨a, ea, sa⟩ := seqTd_ok g es
            exact .inr (.inr (.inr ⟨a, _, by show [_] = _; rw [ea], sa, by rw [List.length_map]; exact q.same g trivial⟩))
          · split at e
            · split at e
              · rename_i hl; cases e; exact .inr (.inl ⟨_, rfl, le_line hl, q.same g trivial⟩)
              · cases e
            · cases e
  · rename_i v'
    split at e
    · rename_i xs es
      cases e
      obtain ⟨l, a, ea, sa⟩ := seqL_ok (K := K) g es
      exact ⟨a, _, by show [_] = _; rw [ea], .inl sa, fun p hp => q.new g hp l upd_same⟩
    · split at e
      · rename_i xs es
        cases e
        obtain ⟨l, a, ea, sa⟩ := seqT_ok g es
        exact ⟨a, _, by show [_] = _; rw [ea], .inr (.inl (.inl sa)), fun p hp => q.new g hp l upd_same⟩
      · cases e
  · rename_i v'
    split at e
    · rename_i xs es
      cases e
      obtain ⟨l, a, ea, sa⟩ := seqL_ok (K := K) g es
      exact ⟨a, _, by show [_] = _; rw [ea], .inl ⟨sa, fun p hp => q.new g hp l upd_same⟩⟩
    · split at e
      · rename_i xs es
        cases e
        obtain ⟨l, a, ea, sa⟩ := seqT_ok g es
        refine ⟨a, _, by show [_] = _; rw [ea], .inr ⟨.inl (.inl sa), ?_⟩⟩
        rw [← ea]
        exact q.same g (al _ List.mem_cons_self)
      · cases e
  · split at e
    · rename_i v' bs es
      cases e
      obtain ⟨xs, e1, e2⟩ := Option.bind_eq_some_iff.mp es
      obtain ⟨_, a, ea, sa⟩ := seqL_ok (K := K) g e1
      rw [boolsA_ok e2] at sa
      exact ⟨a, bs, by show [_] = _; rw [ea], sa, q.same g trivial⟩
    · cases e
  · split at e
    · rename_i v' bs es
      cases e
      obtain ⟨xs, e1, e2⟩ := Option.bind_eq_some_iff.mp es
      obtain ⟨_, a, ea, sa⟩ := seqL_ok (K := K) g e1
      rw [boolsA_ok e2] at sa
      exact ⟨a, bs, by show [_] = _; rw [ea], sa, q.same g trivial⟩
    · cases e
  · split at e
    · rename_i v' bs es
      cases e
      obtain ⟨xs, e1, e2⟩ := Option.bind_eq_some_iff.mp es
      obtain ⟨_, a, ea, sa⟩ := seqL_ok (K := K) g e1
      rw [intsA_ok e2] at sa
      exact ⟨a, bs, by show [_] = _; rw [ea], sa, q.same g trivial⟩
    · cases e
  · cases e; exact .inl ⟨_, _, rfl, q.same g trivial⟩
  · split at e
    · rename_i v' _ m r es
      cases e
      obtain ⟨xs, e1, e2⟩ := Option.bind_eq_some_iff.mp es
      obtain ⟨_, a, ea, sa⟩ := seqL_ok (K := K) g e1
      rw [intsA_ok e2] at sa
      refine .inr ⟨a, _, by show [_] = _; rw [ea], sa, Nat.succ_pos _, fun z hz hle => ?_⟩
      obtain ⟨k1, k2⟩ := leastI_ok r m
      have : z = leastI m r := Int.le_antisymm (hle _ k1) (k2 _ hz)
      rw [this]
      exact q.same g trivial
    · cases e
  · cases e; exact .inl ⟨_, _, rfl, q.same g trivial⟩
  · split at e
    · rename_i v' _ m r es
      cases e
      obtain ⟨xs, e1, e2⟩ := Option.bind_eq_some_iff.mp es
      obtain ⟨_, a, ea, sa⟩ := seqL_ok (K := K) g e1
      rw [intsA_ok e2] at sa
      refine .inr ⟨a, _, by show [_] = _; rw [ea], sa, Nat.succ_pos _, fun z hz hle => ?_⟩
      obtain ⟨k1, k2⟩ := greatI_ok r m
      have : z = greatI m r := Int.le_antisymm (k2 _ hz) (hle _ k1)
      rw [this]
      exact q.same g trivial
    · cases e
  · cases e; exact .inl ⟨_, rfl, q.same g trivial⟩
  · cases e; exact .inr ⟨_, rfl, q.same g trivial⟩
  · cases e; exact .inl ⟨_, rfl, q.same g trivial⟩
  · cases e; exact .inr ⟨_, rfl, q.same g trivial⟩
  · split at e
    · rename_i hl; cases e; exact ⟨_, rfl, hl, q.same g trivial⟩
    · cases e
  · split at e
    · rename_i v' d ed
      split at e
      · rename_i hc
        cases e
        obtain ⟨hc, h4⟩ := and_t hc
        obtain ⟨hc, h3⟩ := and_t hc
        obtain ⟨h1, h2⟩ := and_t hc
        exact ⟨_, d, rfl, pd_ok g _ _ _ ed, h1, by simpa using h2, of_decide_eq_true h3, le_line (of_decide_eq_true h4), q.same g trivial⟩
      · cases e
    · cases e
  · split at e
    · rename_i v' xs es
      split at e
      · rename_i ds eds
        split at e
        · rename_i hc
          cases e
          obtain ⟨hc, h3⟩ := and_t hc
          obtain ⟨h1, h2⟩ := and_t hc
          obtain ⟨l, a, ea, sa⟩ := seqL_ok (K := K) g es
          refine ⟨a, _, ds, by show [_] = _; rw [ea], sa, allM_dp (pd_ok g _) eds, alikeAll_ok h1, sortable_ok h2, fun d hd => of_decide_eq_true (List.all_eq_true.mp h3 d hd), fun p hp => ?_⟩
          rw [← isort_conc]
          refine q.new g hp (fun z hz => ?_) upd_same
          obtain ⟨w, hw, e⟩ := List.mem_map.mp hz
          rw [← e]
          exact l _ (List.of_mem_zip (isort_mem.mp hw)).1
        · cases e
      · cases e
    · cases e
  · split at e
    · rename_i v' kvs es
      cases e
      obtain ⟨xs, e1, e2⟩ := Option.bind_eq_some_iff.mp es
      obtain ⟨_, a, ea, sa⟩ := seqL_ok (K := K) g e1
      obtain ⟨l, ps, h1, h2⟩ := pairsA_ok (K := K) g e2
      rw [h1] at sa
      refine .inl ⟨a, ps, _, by show [_] = _; rw [ea], sa, h2, fun p hp => ?_⟩
      have e0 := mergeA_ok (gm := gm) (α := α) kvs []
      rw [show ([] : List (Key × AV)).map (fun p => (p.1, cv gm α p.2)) = [] from rfl] at e0
      rw [e0]
      exact q.new g hp (mergeA_lt kvs [] (fun p hp => (nomatch hp)) l) upd_same
    · split at e
      · rename_i kvs es
        cases e
        obtain ⟨xs, e1, e2⟩ := Option.bind_eq_some_iff.mp es
        obtain ⟨_, a, ea, sa⟩ := seqL_ok (K := K) g e1
        obtain ⟨l, ps, k3, h1, h2, h3⟩ := pairsTA_ok (K := K) g e2
        rw [h1] at sa
        refine .inr ⟨a, ps, k3, by show [_] = _; rw [ea], sa, h2, fun p hp => ?_⟩
        have e0 := h3 []
        rw [show ([] : List (List Key × AV)).map (fun p => (p.1, cv gm α p.2)) = [] from rfl] at e0
        rw [e0]
        exact q.new g hp (mergeA_lt kvs [] (fun p hp => (nomatch hp)) l) upd_same
      · cases e
  · cases e
end
end J

set_option Elab.async false
set_option linter.all false
set_option maxRecDepth 100000
set_option maxHeartbeats 4000000
/-! subscripts, slices, stores to items, methods of built-in types -/
namespace J
open PySem PySem.Spec PyProof.Rows L2
section
variable {K : PySem.W.Frag} {gm : Nat → Addr} {α : Nat → Addr} {h h' : AH} {H : Hp}
theorem Then.put {Q : VK} {v : AV} {i : Nat} {o o' : AO} {ho : HO} (g : Good K gm α h H) (q : Then K gm α h H v (h.set i o') Q) (e : h.get i = some o) (hl : o'.lt h.n) (hc : Co K gm α (upd H (α i) ho) (α i) o') (hv : v.lt h.n) (ow : o.own = true := by rfl) (ow' : o'.own = true := by rfl) (nf : o.fro = false := by rfl) : Q (cv gm α v) (upd H (α i) ho) :=
  q _ _ (g.write e hl hc ow ow' nf) hv
theorem atI_map {A B : Type} (f : A → B) (xs : List A) (i : Int) : atI (xs.map f) i = (atI xs i).map f := by
  unfold atI
  rw [List.length_map]
  cases ixN xs.length i with
  | none => rfl
  | some j =>
    show (xs.map f)[j]? = _
    rw [List.getElem?_map]
    rfl
theorem atI_mem {A : Type} {xs : List A} {i : Int} {v : A} (e : atI xs i = some v) : v ∈ xs := by
  unfold atI at e
  obtain ⟨j, _, e2⟩ := Option.bind_eq_some_iff.mp e
  exact List.mem_of_getElem? e2
/-! a[b] -/
def ixop (h : AH) (a b : AV) : Option AV := match seqL h a with
  | some xs => match b with
    | .int i => atI xs i
    | _ => none
  | none => match seqT h a with
    | some xs => match b with
      | .int i => atI xs i
      | _ => none
    | none => match dget h a b with
      | some r => r
      | none => match a, b with
        | .str z, .int i => if z.length ≤ lid then (atI z.cps.toList i).map fun c => .str ⟨#[c]⟩ else none
        | _, _ => none
def rIxA (K : PySem.W.Frag) : R2 := fun x y H Q => rIx K x y H Q ∨ rIxD x y H Q
theorem ix_all {X : Cx} (hu : X.A.units + 70 < cLine) : IxR X (rIxA X.K) := ix_seq.or (ix_dict hu)
theorem ixop_ok (g : Good K gm α h H) {a b v : AV} {Q : VK} (e : ixop h a b = some v) (q : v.lt h.n → Q (cv gm α v) H) : rIxA K (cv gm α a) (cv gm α b) H Q := by
  unfold ixop at e
  split at e
  · rename_i xs es
    obtain ⟨l, p, ep, sp⟩ := seqL_ok (K := K) g es
    split at e
    · rename_i i
      exact .inl (.inl ⟨p, _, i, _, ep, rfl, sp, by unfold cvs; rw [atI_map, e]; rfl, q (l _ (atI_mem e))⟩)
    · cases e
  · split at e
    · rename_i xs es
      obtain ⟨l, p, ep, sp⟩ := seqT_ok g es
      split at e
      · rename_i i
        exact .inl (.inr (.inl ⟨p, _, i, _, ep, rfl, .inl (.inl sp), by unfold cvs; rw [atI_map, e]; rfl, q (l _ (atI_mem e))⟩))
      · cases e
    · split at e
      · rename_i r es
        obtain ⟨p, ep, sp, l⟩ := dget_ok g es
        rw [e] at sp
        exact .inr ⟨p, _, ep, sp, q (l v e)⟩
      · split at e
        · split at e
          · rename_i hl
            obtain ⟨c, e1, e2⟩ := Option.map_eq_some_iff.mp e
            subst e2
            exact .inl (.inr (.inr ⟨_, _, c, rfl, rfl, le_line hl, e1, q trivial⟩))
          · cases e
        · cases e
/-! slices -/
def cutA {A : Type} (xs : List A) (lo hi : Option Int) : List A := (xs.drop (HT.sIx xs.length 0 lo)).take (HT.sIx xs.length xs.length hi - HT.sIx xs.length 0 lo)
theorem cutA_ok (xs : List AV) (lo hi : Option Int) : cvs gm α (cutA xs lo hi) = cutV (cvs gm α xs) lo hi := by
  unfold cutA cutV cvs
  rw [List.map_take, List.map_drop, List.length_map]
theorem cutA_mem {A : Type} {xs : List A} {lo hi : Option Int} {x : A} (hx : x ∈ cutA xs lo hi) : x ∈ xs := List.mem_of_mem_drop (List.mem_of_mem_take hx)
def slop (h : AH) (a : AV) (lo hi : Option Int) : Out AV := match seqL h a with
  | some xs => .ok (.ref h.n) (h.push (.lst (cutA xs lo hi)))
  | none => match seqT h a with
    | some xs => if HT.sIx xs.length 0 lo = 0 ∧ HT.sIx xs.length xs.length hi = xs.length then .bad else .ok (.ref h.n) (h.push (.tup (cutA xs lo hi)))
    | none => match a with
      | .str z => if z.length ≤ lid then .ok (.str (cutS z lo hi)) h else .bad
      | _ => .bad
def rSlA (K : PySem.W.Frag) : V → Option Int → Option Int → Hp → VK → Prop := fun x lo hi H Q => rSlL K x lo hi H Q ∨ rSlT K x lo hi H Q ∨ rSlS x lo hi H Q
theorem sl_all {X : Cx} : SlR X (rSlA X.K) := sl_list.or (sl_tup.or sl_str)
theorem slop_ok (g : Good K gm α h H) {a v : AV} {lo hi : Option Int} {Q : VK} (e : slop h a lo hi = .ok v h') (q : Then K gm α h H v h' Q) : rSlA K (cv gm α a) lo hi H Q := by
  unfold slop at e
  split at e
  · rename_i xs es
    cases e
    obtain ⟨l, p, ep, sp⟩ := seqL_ok (K := K) g es
    refine .inl ⟨p, _, ep, sp, fun r hr => ?_⟩
    rw [← cutA_ok]
    exact q.new g hr (fun x hx => l x (cutA_mem hx)) upd_same
  · split at e
    · rename_i xs es
      split at e
      · cases e
      · rename_i hn
        cases e
        obtain ⟨l, p, ep, sp⟩ := seqT_ok g es
        refine .inr (.inl ⟨p, _, ep, .inl (.inl sp), by rw [cvs_length]; exact hn, fun r hr => ?_⟩)
        rw [← cutA_ok]
        exact q.new g hr (fun x hx => l x (cutA_mem hx)) upd_same
    · split at e
      · split at e
        · rename_i hl; cases e; exact .inr (.inr ⟨_, rfl, le_line hl, q.same g trivial⟩)
        · cases e
      · cases e
/-! xs[::-1] -/
/-! stores to items -/
/-- the empty dict of either kind of keys -/
theorem _root_.L2.Inv.toT {X : Cx} {pins : List (Addr × Obj)} {σ : L2.St} {H : Hp} {s : Shared} {a : Addr} (I : Inv X pins σ H s) (e : H a = some (.dK [])) : Inv X pins σ (upd H a (.dT [])) s := by
  obtain ⟨z, hd, vs, kv, o, es, ep, ho, hx, hdt, r⟩ := (show ObjOk X.prog X.w H s.heap a (.dK []) from I.hok a _ e)
  have mu : Mut (H a) := by rw [e]; exact True.intro
  have keep : ∀ (b : Addr) (u : Obj), b ≠ a → s.heap.get? b = some u → s.heap.get? b = some u := fun _ _ _ q => q
  have nil : es.toList = [] := by
    cases kv
    exact List.eq_nil_of_length_eq_zero r.2.1.length
  have := I.un (t' := s.toks) (h' := s.heap) (Un.write (o := .dT []) mu (.inl rfl) keep ⟨o, ho⟩) (I.hok.write mu (.inl rfl) keep ⟨o, ho⟩ ⟨z, hd, [], .nil, o, es, ep, ho, hx, hdt, nil, List.nodup_nil⟩)
  exact this
def rSetA : TSet := fun o i v H Q => rSetL o i v H Q ∨ (∃ a H', o = .ref a ∧ DPut H a i v H' ∧ Q H') ∨ ∃ a H', o = .ref a ∧ H a = some (.dK []) ∧ DPut (upd H a (.dT [])) a i v H' ∧ Q H'
theorem set_all {X : Cx} (hu : X.A.units + 70 < cLine) : PSet X rSetA := by
  intro pins s σ H o i v ov iv u Q I ro ri rv h'
  rcases h' with h' | ⟨a, H', rfl, d, q⟩ | ⟨a, H', rfl, e0, d, q⟩
  · exact set_list pins s σ H o i v ov iv u Q I ro ri rv h'
  · cases ro
    exact d_setItem (by omega) I d ri rv fun s' I' => ⟨H', I', q⟩
  · cases ro
    exact d_setItem (by omega) (I.toT e0) d ri rv fun s' I' => ⟨H', I', q⟩
def setop (h : AH) (o i v : AV) : Option AH := match o with
  | .ref r => match h.get r with
    | some (.lst xs) => match i with
      | .int k => match ixN xs.length k with
        | some j => some (h.set r (.lst (xs.set j v)))
        | none => none
      | _ => none
    | some (.dK kvs) => match keyA i with
      | some k => if kvs.length < lid then some (h.set r (.dK (putA kvs k v))) else none
      | none => match kvs, keyT h i with
        | [], some k => some (h.set r (.dT (putA [] k v)))
        | _, _ => none
    | some (.dT kvs) => match keyT h i with
      | some k => if kvs.length < lid then some (h.set r (.dT (putA kvs k v))) else none
      | none => none
    | _ => none
  | _ => none
theorem setop_ok (g : Good K gm α h H) {o i v : AV} {Q : Hp → Prop} (hv : v.lt h.n) (e : setop h o i v = some h') (q : ∀ H', Step K gm α h H α h' H' → Q H') : rSetA (cv gm α o) (cv gm α i) (cv gm α v) H Q := by
  unfold setop at e
  split at e
  · rename_i r
    split at e
    · rename_i xs er
      obtain ⟨_, l, c⟩ := g.at_ _ _ er
      split at e
      · rename_i k
        split at e
        · rename_i j ej
          cases e
          refine .inl ⟨_, _, k, j, rfl, rfl, c, by rw [cvs_length]; exact ej, q _ (g.write er (fun x hx => ?_) (by show upd _ _ _ _ = _; rw [upd_same]; unfold cvs; rw [List.map_set]))⟩
          rcases List.mem_or_eq_of_mem_set hx with m | m
          · exact l x m
          · rw [m]; exact hv
        · cases e
      · cases e
    · rename_i kvs er
      obtain ⟨_, l, c⟩ := g.at_ _ _ er
      split at e
      · rename_i k ek
        split at e
        · rename_i hl
          cases e
          refine .inr (.inl ⟨_, _, rfl, .inl ⟨_, k, c, keyA_ok ek, by rw [List.length_map]; exact lid_lt hl, rfl⟩, ?_⟩)
          rw [putA_ok]
          exact q _ (g.write er (fun p hp => (putA_mem hp).elim (fun e => by rw [e]; exact hv) (l p)) upd_same)
        · cases e
      · split at e
        · rename_i k ek
          cases e
          obtain ⟨b, eb, hb⟩ := keyT_ok g ek
          have ne : b ≠ α r := ne_of hb c (by intro z; cases z)
          refine .inr (.inr ⟨_, _, rfl, c, .inr ⟨[], k, b, upd_same, eb, by rw [upd_ne ne]; exact hb, by rw [sizeLine_eq]; decide, rfl⟩, ?_⟩)
          rw [upd_upd]
          refine q _ (g.write er (fun p hp => (putA_mem hp).elim (fun e => by rw [e]; exact hv) (fun m => nomatch m)) ?_)
          show upd _ _ _ _ = _
          rw [upd_same, ← putA_ok]
          rfl
        · cases e
    · rename_i kvs er
      obtain ⟨_, l, c⟩ := g.at_ _ _ er
      split at e
      · rename_i k ek
        split at e
        · rename_i hl
          cases e
          obtain ⟨b, eb, hb⟩ := keyT_ok g ek
          refine .inr (.inl ⟨_, _, rfl, .inr ⟨_, k, b, c, eb, hb, by rw [List.length_map]; exact lid_lt hl, rfl⟩, ?_⟩)
          rw [putA_ok]
          exact q _ (g.write er (fun p hp => (putA_mem hp).elim (fun e => by rw [e]; exact hv) (l p)) upd_same)
        · cases e
      · cases e
    · cases e
  · cases e
/-- a store, the empty dict being of either kind -/
def PutJ (H : Hp) (a : Addr) (y v : V) (H' : Hp) : Prop := DPut H a y v H' ∨ (H a = some (.dK []) ∧ DPut (upd H a (.dT [])) a y v H')
def setD (h : AH) (r : Nat) (i v : AV) : Option AH := match h.get r with
  | some (.dK kvs) => match keyA i with
    | some k => if kvs.length < lid then some (h.set r (.dK (putA kvs k v))) else none
    | none => match kvs, keyT h i with
      | [], some k => some (h.set r (.dT (putA [] k v)))
      | _, _ => none
  | some (.dT kvs) => match keyT h i with
    | some k => if kvs.length < lid then some (h.set r (.dT (putA kvs k v))) else none
    | none => none
  | _ => none
theorem setD_ok (g : Good K gm α h H) {r : Nat} {i v : AV} (hv : v.lt h.n) (e : setD h r i v = some h') : ∃ H', PutJ H (α r) (cv gm α i) (cv gm α v) H' ∧ Step K gm α h H α h' H' := by
  unfold setD at e
  split at e
  · rename_i kvs er
    obtain ⟨_, l, c⟩ := g.at_ _ _ er
    split at e
    · rename_i k ek
      split at e
      · rename_i hl
        cases e
        refine ⟨_, .inl (.inl ⟨_, k, c, keyA_ok ek, by rw [List.length_map]; exact lid_lt hl, rfl⟩), ?_⟩
        rw [putA_ok]
        exact g.write er (fun p hp => (putA_mem hp).elim (fun e => by rw [e]; exact hv) (l p)) upd_same
      · cases e
    · split at e
      · rename_i k ek
        cases e
        obtain ⟨b, eb, hb⟩ := keyT_ok g ek
        have ne : b ≠ α r := ne_of hb c (by intro z; cases z)
        refine ⟨_, .inr ⟨c, .inr ⟨[], k, b, upd_same, eb, by rw [upd_ne ne]; exact hb, by rw [sizeLine_eq]; decide, rfl⟩⟩, ?_⟩
        rw [upd_upd]
        refine g.write er (fun p hp => (putA_mem hp).elim (fun e => by rw [e]; exact hv) (fun m => nomatch m)) ?_
        show upd _ _ _ _ = _
        rw [upd_same, ← putA_ok]
        rfl
      · cases e
  · rename_i kvs er
    obtain ⟨_, l, c⟩ := g.at_ _ _ er
    split at e
    · rename_i k ek
      split at e
      · rename_i hl
        cases e
        obtain ⟨b, eb, hb⟩ := keyT_ok g ek
        refine ⟨_, .inl (.inr ⟨_, k, b, c, eb, hb, by rw [List.length_map]; exact lid_lt hl, rfl⟩), ?_⟩
        rw [putA_ok]
        exact g.write er (fun p hp => (putA_mem hp).elim (fun e => by rw [e]; exact hv) (l p)) upd_same
      · cases e
    · cases e
  · cases e
theorem map_erase {A B : Type} (f : A → B) : ∀ (xs : List A) (j : Nat), (xs.eraseIdx j).map f = (xs.map f).eraseIdx j
  | [], _ => rfl
  | _ :: _, 0 => rfl
  | x :: xs, j + 1 => by
    show f x :: (xs.eraseIdx j).map f = f x :: (xs.map f).eraseIdx j
    rw [map_erase f xs j]
/-! methods of lists and texts -/
def bmT : BM → String := fun _ => "list"
def rBm (K : PySem.W.Frag) : BM → V → List V → Hp → VK → Prop
  | .append => rAppend
  | .extend => rExtend
  | .pop0 => rPop
  | .pop1 => rPopAt
  | .clear => rClear
  | .reverse => rReverse
  | _ => fun _ _ _ _ => False
def bmf (m : BM) (h : AH) (o : AV) (args : List AV) : Out AV := match o with
  | .ref i => match h.get i with
    | some (.lst xs) => match m, args with
      | .append, [v] => if xs.length < lid then .ok .non (h.set i (.lst (xs ++ [v]))) else .bad
      | .extend, [.ref j] => match h.get j with
        | some (.lst ys) => if xs.length + ys.length ≤ lid then .ok .non (h.set i (.lst (xs ++ ys))) else .bad
        | _ => .bad
      | .pop0, [] => match xs[xs.length - 1]? with
        | some y => .ok y (h.set i (.lst xs.dropLast))
        | none => .bad
      | .pop1, [.int k] => match seqIndex? k xs.length with
        | some j => match xs[j]? with
          | some y => if -9223372036854775808 ≤ k ∧ k < 9223372036854775808 then .ok y (h.set i (.lst (xs.eraseIdx j))) else .bad
          | none => .bad
        | none => .bad
      | .clear, [] => .ok .non (h.set i (.lst []))
      | .reverse, [] => .ok .non (h.set i (.lst xs.reverse))
      | _, _ => .bad
    | _ => .bad
  | _ => .bad
theorem bmf_ty (g : Good K gm α h H) {m : BM} {o v : AV} {args : List AV} {h1 : AH} {H1 : Hp} {α1 : Nat → Addr} {n : Nat} (s : Step K gm α h H α1 h1 H1) (l : o.lt h.n) (e : bmf m h1 o args = .ok v h') : True := trivial
theorem bmf_ok (g : Good K gm α h H) {m : BM} {o v : AV} {args : List AV} {Q : VK} (al : ∀ x ∈ args, x.lt h.n) (e : bmf m h o args = .ok v h') (q : Then K gm α h H v h' Q) : rBm K m (cv gm α o) (cvs gm α args) H Q := by
  unfold bmf at e
  split at e
  · rename_i i
    split at e
    · rename_i xs ei
      obtain ⟨_, l, c⟩ := g.at_ _ _ ei
      split at e
      · rename_i v'
        split at e
        · rename_i hl
          cases e
          refine ⟨_, _, _, rfl, rfl, c, by rw [cvs_length]; exact lid_lt hl, q.put g ei (fun x hx => ?_) (by show upd _ _ _ _ = _; rw [upd_same, cvs_append]; rfl) trivial⟩
          rcases List.mem_append.mp hx with m | m
          · exact l x m
          · rw [List.mem_singleton.mp m]; exact al _ List.mem_cons_self
        · cases e
      · split at e
        · rename_i j ys ej
          split at e
          · rename_i hl
            cases e
            obtain ⟨_, l2, c2⟩ := g.at_ _ _ ej
            refine ⟨_, _, _, _, rfl, rfl, c, c2, by rw [cvs_length, cvs_length]; exact le_line hl, q.put g ei (fun x hx => ?_) (by show upd _ _ _ _ = _; rw [upd_same, cvs_append]) trivial⟩
            rcases List.mem_append.mp hx with m | m
            · exact l x m
            · exact l2 x m
          · cases e
        · cases e
      · split at e
        · rename_i y ey
          cases e
          refine ⟨_, _, _, rfl, rfl, c, ?_, q.put g ei (fun x hx => l x ((List.dropLast_sublist xs).subset hx)) (by show upd _ _ _ _ = _; rw [upd_same]; unfold cvs; rw [List.map_dropLast]) (l _ (List.mem_of_getElem? ey))⟩
          rw [cvs_length]
          unfold cvs
          rw [List.getElem?_map, ey]
          rfl
        · cases e
      · split at e
        · rename_i k _ j ej
          split at e
          · rename_i y ey
            split at e
            · rename_i hk
              cases e
              refine ⟨_, _, k, j, _, rfl, rfl, c, by omega, by omega, by rw [cvs_length]; exact ej, by unfold cvs; rw [List.getElem?_map, ey]; rfl, q.put g ei (fun x hx => l x (List.mem_of_mem_eraseIdx hx)) ?_ (l _ (List.mem_of_getElem? ey))⟩
              show upd _ _ _ _ = _
              rw [upd_same]
              unfold cvs
              rw [map_erase]
            · cases e
          · cases e
        · cases e
      · cases e
        exact ⟨_, _, rfl, rfl, c, q.put g ei (fun x hx => (nomatch hx)) upd_same trivial⟩
      · cases e
        exact ⟨_, _, rfl, rfl, c, q.put g ei (fun x hx => l x (List.mem_reverse.mp hx)) (by show upd _ _ _ _ = _; rw [upd_same]; unfold cvs; rw [List.map_reverse]) trivial⟩
      · cases e
    · cases e
  · cases e
end
end J

set_option Elab.async false
set_option linter.all false
set_option maxRecDepth 100000
set_option maxHeartbeats 4000000
/-! exceptions as values: isinstance, made, their text, their fields -/
namespace J
open PySem PySem.Spec PyProof.Rows L2
/-- an exception's dict, if it has one, is told -/
def DicT (H : Hp) (d : Option Addr) : Prop := ∀ dd, d = some dd → ∃ fs, H dd = some (.xd fs)
def rIsX (K : PySem.W.Frag) : List V → Hp → VK → Prop := fun xs H Q => ∃ (a D : Addr) (ar d : Option Addr) (c : V) (u : Value) (b : Bool), xs = [.ref a, c] ∧ (∃ u, H a = some u ∧ ExK (.ref D) ar d a u) ∧ DicT H d ∧ ExcC K D ∧ ClsV c u ∧ PySem.W.kitOne K (.ref D) u = some b ∧ Q (.bl b) H
def rIsJ (K : PySem.W.Frag) : List V → Hp → VK → Prop := fun xs H Q => rIsi K xs H Q ∨ rIsX K xs H Q
/-- str(e), of an exception made with one text -/
structure StrC (K : PySem.W.Frag) (C : Addr) : Prop where
  st : PySem.W.findIn K (.ref C) "__str__" = some (some (.builtin "BaseException.__str__"))
  be : PySem.W.subIn K (.ref C) (.type "BaseException") = some true
def rStrX (K : PySem.W.Frag) : List V → Hp → VK → Prop := fun xs H Q => ∃ (a t C : Addr) (d : Option Addr) (m : Str), xs = [.ref a] ∧ (∃ u, H a = some u ∧ ExK (.ref C) (some t) d a u) ∧ H t = some (.tup [.str m]) ∧ StrC K C ∧ Q (.str m) H
/-- e.f of an exception -/
structure XfA (K : PySem.W.Frag) (C : Addr) (f : Str) : Prop where
  x : XfC K C
  no : PySem.W.findIn K (.ref C) f = some none
def tXfV (K : PySem.W.Frag) (f : Str) (te : TE) : TE := fun σ H Q => te σ H fun x H1 => ∃ (a C dd : Addr) (ar : Option Addr) (fs : List (Str × V)) (v : V), x = .ref a ∧ (∃ u, H1 a = some u ∧ ExK (.ref C) ar (some dd) a u) ∧ H1 dd = some (.xd fs) ∧ XfA K C f ∧ fs.lookup f = some v ∧ Q v H1
/-- an exception as a new object -/
def exV (cls : Value) (ar d : Option Addr) (a : Addr) : HO := .ext fun h => ∃ oe vs, h.get? a = some oe ∧ oe.cls = cls ∧ oe.dict = d ∧ oe.data = .fields vs ∧ ∀ t, ar = some t → vs[0]? = some (.ref t)
theorem exV_is {cls : Value} {ar d : Option Addr} {a : Addr} : ExK cls ar d a (exV cls ar d a) := ⟨_, rfl, fun h x => x⟩
theorem exV_ok {P : Program} {w : World} {H : Hp} {h : Heap} {a : Addr} {cls : Value} {ar d : Option Addr} {oe : Obj} {vs : Array Value} (e : h.get? a = some oe) (c : oe.cls = cls) (dd : oe.dict = d) (f : oe.data = .fields vs) (r : ∀ t, ar = some t → vs[0]? = some (.ref t)) : ObjOk P w H h a (exV cls ar d a) :=
  ⟨⟨oe, vs, e, c, dd, f, r⟩, ⟨oe, e⟩, fun h1 h2 ⟨o, v, q, r⟩ k => ⟨o, v, k o q, r⟩⟩
/-- X(e): an own class without own __init__ -/
def tExcV (C : Addr) (ta : TE) : TE := fun σ H Q => ta σ H fun v H1 => ∀ t a, H1 t = none → H1 a = none → a ≠ t → Q (.ref a) (upd (upd H1 t (.tup [v])) a (exV (.ref C) (some t) none a))
/-- X(e): one with the __init__ of SupI -/
def tSupV (C : Addr) (f : Str) (ta : TE) : TE := fun σ H Q => ta σ H fun v H1 => ∃ n : Int, v = .int n ∧ n.natAbs.log2 < 1920 ∧ (Str.ofString (toString n)).length ≤ 1000 ∧ ∀ d a, H1 d = none → H1 a = none → a ≠ d → Q (.ref a) (upd (upd H1 d (.xd [(f, v)])) a (exV (.ref C) none (some d) a))
section
variable {X : Cx} {pins : List (Addr × Obj)} {σ : L2.St} {H : Hp} {s : Shared}
/-- two new objects at once -/
theorem _root_.L2.Inv.laid2 {h' : Heap} {a b : Addr} {o1 o2 : HO} {t' : Nat} (I : Inv X pins σ H s) (k : ∀ c u, s.heap.get? c = some u → h'.get? c = some u) (ha : s.heap.get? a = none) (hb : s.heap.get? b = none) (na : H a = none) (nb : H b = none) (ne : b ≠ a)
    (new1 : ObjOk X.prog X.w (upd (upd H a o1) b o2) h' a o1) (new2 : ObjOk X.prog X.w (upd (upd H a o1) b o2) h' b o2) : Inv X pins σ (upd (upd H a o1) b o2) { s with heap := h', toks := t' } := by
  have old : ∀ {c : Addr} {u : HO}, H c = some u → upd (upd H a o1) b o2 c = some u := fun {c u} e => by rw [upd_ne (ne_of_none e nb), upd_ne (ne_of_none e na)]; exact e
  have off : ∀ {c : Addr} {u : Obj}, s.heap.get? c = some u → c ≠ a ∧ c ≠ b := fun {c u} e => ⟨fun z => (by rw [z, ha] at e; cases e), fun z => (by rw [z, hb] at e; cases e)⟩
  refine I.un (t' := t') (h' := h') ⟨fun c u q _ _ _ => k c u q, fun c u q _ _ _ => ⟨u.slots, k c u q⟩, fun c u q n _ => by rw [upd_ne (off q).2, upd_ne (off q).1]; exact n, fun c u q _ => ⟨u, k c u q⟩, fun c xs q => old q, fun c u v q => old q, fun c ps q => ⟨#[], by rw [old q]; simp⟩⟩ fun c u e => ?_
  by_cases hcb : c = b
  · subst hcb; rw [upd_same] at e; cases e; exact new2
  · rw [upd_ne hcb] at e
    by_cases hca : c = a
    · subst hca; rw [upd_same] at e; cases e; exact new1
    · rw [upd_ne hca] at e
      exact (I.hok c u e).stay (fun d v _ q => k d v q) (fun d q => old q) fun d xs q => old q
theorem exK_inst {P : Program} {w : World} {h : Heap} {a D : Addr} {ar d : Option Addr} {u : HO} (k : ExK (.ref D) ar d a u) (x : ObjOk P w H h a u) (dk : ∀ dd, d = some dd → ∃ o, h.get? dd = some o) : ∃ oe od, PySem.W.InstAt h a oe D od ∧ ∀ dd, d = some dd → h.get? dd = od := by
  obtain ⟨φ, eu, k⟩ := k
  subst eu
  obtain ⟨oe, vs, h1, h2, h3, h4, _⟩ := k h x.1
  obtain ⟨oc, od, oda, osl⟩ := oe
  dsimp only at h2 h3 h4
  subst h2 h3 h4
  cases od with
  | none => exact ⟨_, none, ⟨h1, rfl, rfl, trivial⟩, fun _ z => nomatch z⟩
  | some dd =>
    obtain ⟨o, ho⟩ := dk dd rfl
    exact ⟨_, some o, ⟨h1, rfl, rfl, ho⟩, fun d2 z => by cases z; exact ho⟩
theorem dic_there {P : Program} {w : World} {h : Heap} {d : Option Addr} (x : HOk P w H h) (t : DicT H d) : ∀ dd, d = some dd → ∃ o, h.get? dd = some o := fun dd e => by
  obtain ⟨fs, q⟩ := t dd e
  obtain ⟨mA, ⟨od, es, ep, ho, _⟩, _⟩ : ∃ mA, h.Ns1 dd mA ∧ ∀ f, RelO (fs.lookup f) (mA f) := x dd _ q
  exact ⟨od, ho⟩
theorem call_isX : CallR X (.builtin "isinstance") (rIsX X.K) := by
  intro pins s σ H xs us Q I r h
  obtain ⟨a, D, ar, d, c, u, b, rfl, ⟨ue, ha, hk⟩, dt, C, k, e, q⟩ := h
  obtain ⟨u1, u2, rfl, r1, r2⟩ := vals2 r
  cases (show u1 = Value.ref a from r1)
  have e2 := k.eq r2
  subst e2
  obtain ⟨oe, od, J, _⟩ := exK_inst hk (I.hok a _ ha) (dic_there I.hok dt)
  have isC : (PySem.W.clsIn X.K D).isSome = true := by
    obtain ⟨cd, z, _⟩ := PySem.W.any_some C.hd
    rw [z]
    rfl
  exact PySem.W.kia_one (PySem.W.kitx_exc isC C.hg C.hk C.hs C.ha C.hn C.ht C.hm) I.kIn J e (fun z => nomatch z) fun tk => ⟨.bl b, H, I.tok tk, rfl, q⟩
theorem call_isJ : CallR X (.builtin "isinstance") (rIsJ X.K) := by
  intro pins s σ H xs us Q I r h
  rcases h with h | h
  · exact call_isi pins s σ H xs us Q I r h
  · exact call_isX pins s σ H xs us Q I r h
theorem call_strX (hu : X.A.units + 2 < cLine) : CallR X (.type "str") (rStrX X.K) := by
  intro pins s σ H xs us Q I r h
  obtain ⟨a, t, C, d, m, rfl, ⟨u, ha, φ, eu, hk⟩, ht, S, q⟩ := h
  rw [Vals.ref1 r]
  subst eu
  obtain ⟨oe, vs, h1, h2, h3, h4, h5⟩ := hk s.heap (I.hok a _ ha).1
  obtain ⟨_, its, rv, hT⟩ : [V.str m].length ≤ sizeLine ∧ ∃ its : List Value, Vals [V.str m] its ∧ IsTup s.heap t its.toArray := I.hok t _ ht
  cases rv with
  | @cons _ u0 _ ur ra rr =>
    cases rr
    obtain ⟨tk, rfl⟩ := ra
    have tt : s.heap.TupAt t [.str m tk] := by
      obtain ⟨o, ho, hc, k, hd⟩ := hT
      exact ⟨o, k, ho, hc, hd⟩
    exact PySem.P.str_of_C_one hu ⟨I.kIn, oe, vs, h1, h2, h4, h5 t rfl⟩ tt S.st S.be ⟨.str m, H, I, ⟨tk, rfl⟩, q⟩
variable {e : Expr} {te ta : TE} {f : Str} {pos p : Pos}
theorem pe_xfV {n : Str} (en : n = f) (he : PE X e te) (hb : attributeBase e n X.env (eval e X.env) = eval e X.env := by rfl) : PE X (.Attribute e n pos) (tXfV X.K f te) := by
  subst en
  refine ⟨fun pins s σ H Q I h => ?_⟩
  refine attr_of hb (thn (he.run pins s σ H _ I h) fun u s1 hh => ?_)
  obtain ⟨x, H1, I1, rx, a, C, dd, ar, fs, v, ex, ⟨uo, ha, hk⟩, hd, T, l, q⟩ := hh
  subst ex
  obtain rfl : u = Value.ref a := rx
  obtain ⟨oe, od, J, hdd⟩ := exK_inst hk (I1.hok a _ ha) (dic_there I1.hok fun d2 z => by cases z; exact ⟨fs, hd⟩)
  obtain ⟨mA, hns, hr⟩ : ∃ mA, s1.heap.Ns1 dd mA ∧ ∀ f, RelO (fs.lookup f) (mA f) := I1.hok dd _ hd
  obtain ⟨od2, ho, hl⟩ := lookIn_ns hns
  have eo : od = some od2 := by rw [← hdd dd rfl]; exact ho
  subst eo
  obtain ⟨w, hw, rw'⟩ := RelO.some_of (v := v) (o := mA n) (by rw [← l]; exact hr n)
  exact HandSPX.exc_get I1.kIn J T.x.ga T.x.gg T.x.exC (PySem.W.findObj_own T.x.hdC T.no rfl (by rw [hl, hw])) (handed_of rw') ⟨v, H1, I1.tok _, rw', q⟩
theorem pe_excV {C : Addr} {bmB : List Value} {B newId initId : String} {x : Str} (F : ExcBaseFacts B newId initId bmB) (q : PySem.W.excIn X.K C bmB newId = true) (gC : X.mg x = some (.ref C)) (kC : PySem.W.keepIn X.K (.ref C) = true) (hg : Gl X x)
    (he : PE X e ta) (hs : starEach [e] X.env = (false, eval e X.env) :: starEach [] X.env := by rfl) (hdb : (x == ("__debug__" : Str)) = false := by decide) : PE X (.Call (.Name x p) [e] [] pos) (tExcV C ta) := by
  refine ⟨fun pins s σ H Q I h => ?_⟩
  refine wpAny_Call_Name_kw (ld_glob I hg gC ?_ hdb)
  refine PySem.W.callWith_K (h₀ := X.base) I.ok.mod.kin kC ?_ hs (by rfl)
  rw [hs]
  show wpAny _ _ (spliced ((false, eval e X.env) :: backTo pos (starEach [] X.env))) _ _ s
  refine Calls.spliced_cons (thn (he.run pins s σ H _ I h) fun u s1 ⟨v, H1, I1, r1, q1⟩ => ?_)
  refine Calls.spliced_nil ⟨I1.kIn, ?_⟩
  show wpAny _ _ (call (.ref C) [u]) _ _ _
  obtain ⟨bm, N, nm, qn, bs, hdct, sn, sub, ab, col, dd, k0, k1, k2, k3, k5, mN, hC, hN, hni, T⟩ := exc_obj I1.kIn q
  refine wpAny_call_exc_subT F T hC hN hni (fun h' a hm => ?_) (by show 1 ≤ sizeLine; rw [sizeLine_eq]; omega)
  obtain ⟨t, ht, nt, htt⟩ := hm.there
  have na : H1 a = none := I1.hok.gone hm.new
  have nt' : H1 t = none := I1.hok.gone nt
  have ne : a ≠ t := fun z => by rw [z, htt] at ht; cases ht
  refine ⟨.ref a, _, I1.laid2 (a := t) (b := a) (o1 := .tup [v]) (o2 := exV (.ref C) (some t) none a) hm.keeps nt hm.new nt' na ne ⟨by show 1 ≤ sizeLine; rw [sizeLine_eq]; omega, [u], .cons r1 .nil, ?_⟩ (exV_ok ht rfl rfl rfl fun t' z => by cases z; rfl), rfl, q1 t a nt' na ne⟩
  exact ⟨_, htt, rfl, _, rfl⟩
/-- what a making of the second kind leaves -/
theorem sup_made {C fI : Addr} {q : Str} {Ar : Around} {Q : VK} {n : Int} {tk : Tok} (S : SupI X.prog X.K C fI q f) (hm : X.mg "super" = none) (dep : Ar.depth < recursionLimit) (I : Inv X pins σ H s) (hn : n.natAbs.log2 < 1920) (hz : (Str.ofString (toString n)).length ≤ 1000)
    (q1 : ∀ d a, H d = none → H a = none → a ≠ d → Q (.ref a) (upd (upd H d (.xd [(f, .int n)])) a (exV (.ref C) none (some d) a))) {us : List Value} {E : Value → Shared → Prop} {ag : Args} (hag : ag = ⟨[.ref (s.heap.objs.size + 1), .int n tk], []⟩ ∨ ag = ⟨[.ref (s.heap.objs.size + 1)], [(q, .int n tk)]⟩) :
    codeAny (model X.prog X.w) Ar (.call (.ref fI) ag) (PySem.W.InitBack (s.heap.objs.size + 1) (fun r s' => match r with | .ok (.ret v) => EP X pins σ Q v s' | .ok _ => False | .error e => E e s')) { s with heap := (s.heap.push (PySem.W.kdv_tup us)).push (PySem.HandSPX.excO C s.heap.objs.size) } := by
  obtain ⟨hp, g, d, t, os⟩ := s
  have k0 : ∀ b o, hp.get? b = some o → ((hp.push (PySem.W.kdv_tup us)).push (PySem.HandSPX.excO C hp.objs.size)).get? b = some o := fun b o e => Heap.get?_push_of_some _ (Heap.get?_push_of_some _ e)
  have he : ((hp.push (PySem.W.kdv_tup us)).push (PySem.HandSPX.excO C hp.objs.size)).get? (hp.objs.size + 1) = some (PySem.HandSPX.excO C hp.objs.size) := by heap_get
  obtain ⟨mb, b1, b2⟩ := I.mod.blt
  have new : hp.get? (hp.objs.size + 1) = none := by
    cases z : hp.get? (hp.objs.size + 1) with
    | none => rfl
    | some o => exact absurd (Heap.lt_size z) (Nat.not_lt.mpr (Nat.le_succ _))
  refine sup_init S (I.kIn.keeps k0) ((I.mod.glob.keeps I.bk).keeps k0) hm ((b1.keeps I.bk).keeps k0) ((b2 _ (by decide)).trans PyProof.Rows.Boot.«super») (I.nolimit.keeps k0) dep he (fun o z => ?_) hag hn hz (fun h' t' dx t1 k5 dn dne hx hns => ⟨rfl, ?_⟩)
  · have y := I.kIn _ _ z
    rw [show (⟨hp, g, d, t, os⟩ : Shared).heap.get? (hp.objs.size + 1) = none from new] at y
    cases y
  · have kk : ∀ b o, hp.get? b = some o → h'.get? b = some o := fun b o z => k5 b o (fun e => by rw [e, new] at z; cases z) (k0 b o z)
    have nd : hp.get? dx = none := by
      cases z : hp.get? dx with
      | none => rfl
      | some o => rw [k0 _ _ z] at dn; cases dn
    have na : H (hp.objs.size + 1) = none := I.hok.gone new
    have nd' : H dx = none := I.hok.gone nd
    refine ⟨.ref (hp.objs.size + 1), _, I.laid2 (a := dx) (b := hp.objs.size + 1) (o1 := .xd [(f, .int n)]) (o2 := exV (.ref C) none (some dx) (hp.objs.size + 1)) kk nd new nd' na dne.symm ⟨_, hns, fun y => ?_⟩ (exV_ok hx rfl rfl rfl fun t' z => nomatch z), rfl, q1 dx _ nd' na dne.symm⟩
    have := relO_put (fs := []) (f := f) (y := .int n) (u := .int n tk) (mA := fun _ => none) ⟨tk, rfl⟩ (fun g => True.intro) y
    exact this
theorem pe_supV {C fI : Addr} {x q : Str} (S : SupI X.prog X.K C fI q f) (hm : X.mg "super" = none) (gC : X.mg x = some (.ref C)) (hr : Room 2 X.A) (hg : Gl X x)
    (he : PE X e ta) (hs : starEach [e] X.env = (false, eval e X.env) :: starEach [] X.env := by rfl) (hdb : (x == ("__debug__" : Str)) = false := by decide) : PE X (.Call (.Name x p) [e] [] pos) (tSupV C f ta) := by
  refine ⟨fun pins s σ H Q I h => ?_⟩
  refine wpAny_Call_Name_kw (ld_glob I hg gC ?_ hdb)
  refine PySem.W.callWith_K (h₀ := X.base) I.ok.mod.kin S.cls.kC ?_ hs (by rfl)
  rw [hs]
  show wpAny _ _ (spliced ((false, eval e X.env) :: backTo pos (starEach [] X.env))) _ _ s
  refine Calls.spliced_cons (thn (he.run pins s σ H _ I h) fun u s1 ⟨v, H1, I1, r1, n, ev, hn, hz, q1⟩ => ?_)
  subst ev
  obtain ⟨tk, rfl⟩ := r1
  refine Calls.spliced_nil ⟨I1.kIn, ?_⟩
  show wpAny _ _ (call (.ref C) [.int n tk]) _ _ _
  obtain ⟨nm, qn, N, bs, bm, sn, sub, ab, col, dd, k0, k1, k2, k3, k5, hC, hbm⟩ := S.cls.cls
  have K1 := I1.kIn
  have mk := sup_made (Ar := X.A.under (.builtin "type.__call__" ⟨[.ref C, .int n tk], []⟩)) (us := [.int n tk]) (tk := tk) (E := X.xe) S hm (hr.make C [.int n tk] []).depth I1 hn hz q1 (.inl rfl)
  obtain ⟨hp, g, d, t, os⟩ := s1
  refine wpAny_call (codeAny_mono (PySem.HandSPX.call_own F.excBase_ValueError (fun Y => PySem.HandSPX.refsVE_contains Y bm hbm) (K1 _ _ hC) (PySem.W.looks_findIn K1 S.ini) (fun self => PySem.W.bind_fn K1 self S.ity) (by show 1 ≤ sizeLine; rw [sizeLine_eq]; omega) mk) fun r s' z => ?_)
  rcases r with er | (v | _ | _ | _) <;> first | exact z | exact z.elim
/-- X(q = e) -/
theorem pe_supK {C fI : Addr} {x q : Str} {kp : Pos} (S : SupI X.prog X.K C fI q f) (hm : X.mg "super" = none) (gC : X.mg x = some (.ref C)) (hr : Room 2 X.A) (hg : Gl X x)
    (he : PE X e ta) (hdb : (x == ("__debug__" : Str)) = false := by decide) (hall : (backToKw pos (keywordEach [⟨some q, e, kp⟩] X.env)).all (·.1.isSome) = true := by rfl) (hks : (backToKw pos (keywordEach [⟨some q, e, kp⟩] X.env)).filterMap (·.1) = [q] := by rfl)
    (hpl : ((backTo pos (starEach [] X.env)).any (·.1) || (backToKw pos (keywordEach [⟨some q, e, kp⟩] X.env)).any (·.1.isNone)) = false := by rfl) : PE X (.Call (.Name x p) [] [⟨some q, e, kp⟩] pos) (tSupV C f ta) := by
  refine ⟨fun pins s σ H Q I h => ?_⟩
  refine wpAny_Call_Name_kw (ld_glob I hg gC ?_ hdb)
  refine PySem.W.callWith_KW0 (h₀ := X.base) I.ok.mod.kin S.cls.kC hall (thn ((pk_cons (nm := some q) (kpos := kp) he pk_nil).run pos pins s σ H (fun vs H1 => match vs with
    | [v] => ∃ n : Int, v = .int n ∧ n.natAbs.log2 < 1920 ∧ (Str.ofString (toString n)).length ≤ 1000 ∧ ∀ d a, H1 d = none → H1 a = none → a ≠ d → Q (.ref a) (upd (upd H1 d (.xd [(f, v)])) a (exV (.ref C) none (some d) a))
    | _ => False) I h) fun ws s1 ⟨vs, H1, I1, r1, z1⟩ => ?_) hpl
  match vs, r1, z1 with
  | [v], .cons r1 .nil, ⟨n, ev, hn, hz, q1⟩ =>
    subst ev
    obtain ⟨tk, rfl⟩ := r1
    rw [hks]
    refine ⟨I1.kIn, ?_⟩
    show wpAny _ _ (call (.ref C) [] [(q, .int n tk)]) _ _ _
    obtain ⟨nm, qn, N, bs, bm, sn, sub, ab, col, dd, k0, k1, k2, k3, k5, hC, hbm⟩ := S.cls.cls
    have K1 := I1.kIn
    have mk := sup_made (Ar := X.A.under (.builtin "type.__call__" ⟨[.ref C], [(q, .int n tk)]⟩)) (us := []) (tk := tk) (E := X.xe) S hm (hr.make C [] [(q, .int n tk)]).depth I1 hn hz q1 (.inr rfl)
    obtain ⟨hp, g, d, t, os⟩ := s1
    refine wpAny_call (codeAny_mono (kwCall F.excBase_ValueError (fun Y => PySem.HandSPX.refsVE_contains Y bm hbm) (K1 _ _ hC) (PySem.W.looks_findIn K1 S.ini) (fun self => PySem.W.bind_fn K1 self S.ity) mk) fun r s' z => ?_)
    rcases r with er | (v | _ | _ | _) <;> first | exact z | exact z.elim
end
end J

set_option Elab.async false
set_option linter.all false
set_option maxRecDepth 100000
set_option maxHeartbeats 4000000
/-! what is walked of dicts: locked when it is read, read again behind the statement -/
namespace J
open PySem PySem.Spec PyProof.Rows L2
section
variable {X : Cx} {pins : List (Addr × Obj)} {σ : L2.St} {H : Hp} {s : Shared}
/-- the value, locked -/
def tLk (te : TE) : TE := fun σ H Q => te σ H fun x H1 => ∃ d, x = .ref d ∧ ((∃ u, H1 d = some u ∧ Mut (some u) ∧ ∀ od, Q x (upd H1 d (.frz od u))) ∨ ∃ od u, H1 d = some (.frz od u) ∧ Q x H1)
theorem pe_lk {e : Expr} {te : TE} (he : PE X e te) : PE X e (tLk te) := by
  refine ⟨fun pins s σ H Q I h => thn (he.run pins s σ H _ I h) fun v s1 ⟨x, H1, I1, r, d, ex, q⟩ => ?_⟩
  rcases q with ⟨u, hd, mu, q⟩ | ⟨od, u, _, q⟩
  · obtain ⟨od, I2⟩ := I1.lock hd mu
    exact ⟨x, _, I2, r, q od⟩
  · exact ⟨x, H1, I1, r, q⟩
/-- a thing that was not locked ahead is read again -/
def Freed (H H' H'' : Hp) : Prop := H'' = H' ∨ ∃ d od u, H' d = some (.frz od u) ∧ (∀ o' u', H d ≠ some (.frz o' u')) ∧ H'' = upd H' d u
theorem Inv.freed {σ' : L2.St} {H' H'' : Hp} {s' : Shared} (I : Inv X pins σ H s) (I' : Inv X pins σ' H' s') (f : Freed H H' H'') : Inv X pins σ' H'' s' := by
  rcases f with e | ⟨d, od, u, hd, hn, e⟩
  · rw [e]; exact I'
  · rw [e]
    exact I'.unlock hd fun o' u' e => hn o' u' (I.base.frzs d o' u' e)
def tUnl (t : TS) : TS := fun D σ H => t ⟨fun σ' H' => ∃ H'', Freed H H' H'' ∧ D.nx σ' H'', fun v H' => ∃ H'', Freed H H' H'' ∧ D.rt v H'', fun σ' H' => ∃ H'', Freed H H' H'' ∧ D.bk σ' H'', fun σ' H' => ∃ H'', Freed H H' H'' ∧ D.ct σ' H''⟩ σ H
def tUnlE (t : TE) : TE := fun σ H Q => t σ H fun v H' => ∃ H'', Freed H H' H'' ∧ Q v H''
theorem ps_unl {st : Stmt} {t : TS} (h : PS X st t) : PS X st (tUnl t) := by
  refine ⟨fun pins s σ H D I hw => thn (h.run pins s σ H _ I hw) fun f s1 q => ?_⟩
  cases f with
  | next => obtain ⟨σ', H', I2, H2, f, q⟩ := q; exact ⟨σ', _, Inv.freed I I2 f, q⟩
  | brk => obtain ⟨σ', H', I2, H2, f, q⟩ := q; exact ⟨σ', _, Inv.freed I I2 f, q⟩
  | cont => obtain ⟨σ', H', I2, H2, f, q⟩ := q; exact ⟨σ', _, Inv.freed I I2 f, q⟩
  | ret v => obtain ⟨x, σ', H', I2, r, H2, f, q⟩ := q; exact ⟨x, σ', _, Inv.freed I I2 f, r, q⟩
theorem pe_unl {e : Expr} {t : TE} (h : PE X e t) : PE X e (tUnlE t) :=
  ⟨fun pins s σ H Q I hw => thn (h.run pins s σ H _ I hw) fun v s1 ⟨x, H1, I1, r, H2, f, q⟩ => ⟨x, H2, Inv.freed I I1 f, r, q⟩⟩
theorem frzTV {d : Addr} {o : Obj} {kvs : List (List Key × V)} (I : Inv X pins σ H s) (h : H d = some (.frz o (.dT kvs))) :
    (d == sysModules) = false ∧ s.heap.get? d = some o ∧ o.ExactDict ∧ ∃ (es : Array DictEntry) (ep : Nat), o.data = .dict es ep ∧ es.size = kvs.length ∧
      ∀ (i : Nat) (k : List Key) (v : V), kvs[i]? = some (k, v) → ∃ (en : DictEntry) (q : Addr), es[i]? = some en ∧ en.key = .ref q ∧ H q = some (.tup (k.map kV)) ∧ RelV v en.val := by
  obtain ⟨hd, z, hs, xs, pr, o2, es, ep, ho, hx, hdt, he, _⟩ := I.hok d _ h
  have e2 : o2 = o := Option.some.inj (ho.symm.trans hd)
  subst e2
  have l1 : es.size = xs.length := size_of_entries he
  have l2 : kvs.length = xs.length := Paired.length pr
  refine ⟨hs, hd, hx, es, ep, hdt, by omega, fun i k v e => ?_⟩
  obtain ⟨b, hb, e1, e2, e3⟩ := paired_get pr e
  have q := entry_at he i
  rw [hb] at q
  exact ⟨_, b.2.1, q, rfl, e2, e3⟩
end
/-- the pairs of a dict with tuple keys, each a new tuple of the key's own and the value -/
def Itit (d : Addr) (o : Obj) (kvs : List (List Key × V)) : It :=
  ⟨fun i H => H d = some (.frz o (.dT kvs)) ∧ i < kvs.length,
   fun i H x H' => ∃ T k v q, kvs[i]? = some (k, v) ∧ x = .ref T ∧ H T = none ∧ H q = some (.tup (k.map kV)) ∧ H' = upd H T (.tup [.ref q, v]),
   fun i H => H d = some (.frz o (.dT kvs)) ∧ kvs.length ≤ i⟩
section
variable {P : Program} {w : World} {K : PySem.W.Frag} {d : Addr} {o : Obj} {es : Array DictEntry} {ep : Nat}
theorem turn_itemsT {kvs : List (List Key × V)} {elts : List Expr} {kk : Nat} {tpos : Pos} (it : Addr) (hod : o.data = .dict es ep) (hsz : es.size = kvs.length) :
    Turn P w K (.Tuple elts kk tpos) (Itit d o kvs) [it] it (fun i h => ∃ ok ov, IsItemIter h it d i es.size ep ok ov) where
  mem := List.mem_singleton.mpr rfl
  obj := fun i h ⟨ok, ov, e⟩ b hb => by
    rw [List.mem_singleton.mp hb]
    exact ⟨_, e, fun v z => nomatch z⟩
  keep := fun i h h' ⟨ok, ov, e⟩ k => ⟨ok, ov, k it (List.mem_singleton.mpr rfl) _ e⟩
  item := by
    intro X hP hw hK hc i pins s σ H E I hf ⟨ok, ov, he⟩ ⟨hd, hi⟩
    subst hP hw hK
    obtain ⟨_, hgd, hx, es2, ep2, hdt, hs2, ent⟩ := frzTV I hd
    rw [hod] at hdt
    cases hdt
    have hlt : it < s.heap.objs.size := Heap.lt_size he
    have hie : i < es.size := by omega
    obtain ⟨en, q, hen, hkey, hq, rv⟩ := ent i kvs[i].1 kvs[i].2 (List.getElem?_eq_getElem hi)
    have een : es[i] = en := by
      rw [Array.getElem?_eq_getElem hie] at hen
      exact Option.some.inj hen
    refine DT.nextI he ⟨o, hgd, hx, hod⟩ hie fun h' ho hT hz hk => ?_
    rw [een] at ho hT
    refine ⟨_, rfl, wpAny_letOwnedTupleGo_items (s := { s with heap := h' }) ho fun h2 he2 sb => ?_⟩
    have hT2 : h2.get? s.heap.objs.size = some { cls := .type "tuple", data := .seq #[en.key, en.val] } := (sb.2 _ (Nat.ne_of_gt hlt)).trans hT
    have new : ObjOk X.prog X.w (upd H s.heap.objs.size (.tup [.ref q, kvs[i].2])) h2 s.heap.objs.size (.tup [.ref q, kvs[i].2]) :=
      ⟨by show 2 ≤ sizeLine; decide, [en.key, en.val], .cons (show RelV (.ref q) en.key from hkey) (.cons rv .nil), ⟨_, hT2, rfl, _, rfl⟩⟩
    have I1 := I.turnedNew (t' := s.toks) (ch := [it]) (fun b ob hb e => (sb.2 b (by simpa using hb)).trans (hk b ob (by simpa using hb) e)) hf (Nat.le_refl _) new
    refine ⟨.ref s.heap.objs.size, _, I1, rfl, ⟨_, kvs[i].1, kvs[i].2, q, List.getElem?_eq_getElem hi, rfl, I.hok.fresh (Nat.le_refl _), hq, rfl⟩, ⟨_, _, he2⟩, fun b hb => ?_⟩
    rw [List.mem_singleton.mp hb, upd_ne (Nat.ne_of_lt hlt)]
    exact (hf it (List.mem_singleton.mpr rfl)).1
  done := by
    intro X hP hw hK hc i pins s σ H E I hf ⟨ok, ov, he⟩ ⟨hd, hi⟩
    subst hP hw hK
    obtain ⟨f0, f1, f2, f3, f4, f5⟩ := hf it (List.mem_singleton.mpr rfl)
    obtain ⟨_, hgd, hx, es2, ep2, hdt, hs2, ent⟩ := frzTV I hd
    exact DT.endI (I.ok.hd hc) he ⟨o, hgd, hx, hod⟩ (by omega) fun h' eb => ⟨rfl, I.turned (t' := s.toks) (fun b ob hb e => eb b ob hb e) f0 f1 f3 f4 f5⟩
  self := fun A i s Q E ⟨_, _, e⟩ h => PySem.W.kcp_self e h
end
/-- items() of a locked dict, of either kind of keys -/
def iItemsJ (td : TE) : TI := fun σ H R => td σ H fun x H1 => ∃ d o, x = .ref d ∧ ((∃ kvs, H1 d = some (.frz o (.dK kvs)) ∧ R (Iti d o kvs) H1) ∨ ∃ kvs, H1 d = some (.frz o (.dT kvs)) ∧ R (Itit d o kvs) H1)
section
variable {X : Cx} {e : Expr} {td : TE} {apos cpos : Pos}
theorem pi_itemsJ {elts : List Expr} {kk : Nat} {tpos : Pos} (he : PE X e td) (hbase : attributeBase e "items" X.env (eval e X.env) = eval e X.env := by rfl) (hline : (apos.endLine == cpos.line) = true := by rfl) :
    PI X (.Tuple elts kk tpos) (.Call (.Attribute e "items" apos) [] [] cpos) (iItemsJ td) := by
  refine ⟨fun pins s σ H R I h => ?_⟩
  refine wpAny_Call_method (T := "dict") (id := "dict.items") hbase rfl hline F.plainAttrs_dict F.slot_dict_items F.type_dict_items (thn (he.run pins s σ H _ I h) fun u s1 ⟨x, H1, I1, rx, d, o, ex, q⟩ => ?_)
  subst ex
  obtain rfl : u = Value.ref d := rx
  have I2 : Inv X pins σ H1 { s1 with heap := s1.heap.push { cls := .type "dict_items", data := .fields #[.ref d] } } := I1.kept (t' := s1.toks) fun b ob q => Heap.get?_push_of_some _ q
  rcases q with ⟨kvs, hd, q⟩ | ⟨kvs, hd, q⟩
  · obtain ⟨hs, hgd, hx, es, ep, vs, hdt, hsz, kv, hm⟩ := I1.frzK hd
    have hl : kvs.length = vs.length := Paired.length kv
    refine ⟨hm.dictOf.typeIs, hm.dictOf.mapOf.noDict, ?_⟩
    show wpAny _ _ (callWith cpos (.builtin "dict.items") [.ref d] [] []) _ X.xe s1
    refine method_meetsIn F.slot_dict_items F.entry_dict_items rfl (PySem.evalArgs_none ⟨rfl, hm.dictOf.typeIs, F.args_dict_items_1 _, _, meets_dict_items (mixKind X.prog X.w) d hs, ⟨vs, hm.dictOf⟩, ?_⟩)
    refine wpAny_pyIter_items (d := d) (knd := mixKind X.prog X.w) ⟨_, Heap.get?_push_size _ rfl, rfl, rfl⟩ (hm.push _) (pi_one (tk := s1.toks) I2 _ (turn_items _ hdt) ⟨.none, .none, ?_⟩ q)
    rw [hl]
    exact Heap.get?_push_size _ rfl
  · obtain ⟨hs, hgd, hx, es, ep, hdt, hsz, ent⟩ := frzTV I1 hd
    have raw : DT.Raw s1.heap d es ep := ⟨o, hgd, hx, hdt⟩
    refine ⟨raw.typeIs, fun o' ho' => (by cases ho'; exact ⟨o, hgd, hx.2.1⟩), ?_⟩
    · show wpAny _ _ (callWith cpos (.builtin "dict.items") [.ref d] [] []) _ X.xe s1
      refine method_meetsIn F.slot_dict_items F.entry_dict_items rfl (PySem.evalArgs_none ⟨rfl, raw.typeIs, F.args_dict_items_1 _, _, DT.meetsItems (es := es) (ep := ep) hs, raw, ?_⟩)
      refine DT.iterI (d := d) ⟨_, Heap.get?_push_size _ rfl, rfl, rfl⟩ (raw.push _) (pi_one (tk := s1.toks) I2 _ (turn_itemsT _ hdt hsz) ⟨.none, .none, ?_⟩ q)
      exact Heap.get?_push_size _ rfl
end
end J

set_option Elab.async false
set_option linter.all false
set_option maxRecDepth 100000
set_option maxHeartbeats 4000000
/-! displays of dicts, keys of either kind -/
namespace J
open PySem PySem.Spec PyProof.Rows L2
def rPuts (p : Addr) : List (V × V) → Hp → (Hp → Prop) → Prop
  | [], H, Q => Q H
  | kv :: r, H, Q => ∃ H1, PutJ H p kv.1 kv.2 H1 ∧ rPuts p r H1 Q
def tDispJ (trs : List (TE × TE)) : TE := fun σ H Q => ∀ p, H p = none → tPairs trs σ (upd H p (.dK [])) fun ps H2 => rPuts p ps H2 fun H3 => Q (.ref p) H3
section
variable {X : Cx} {pins : List (Addr × Obj)} {σ : L2.St} {H : Hp} {s : Shared}
theorem d_set1 {H' : Hp} {a : Addr} {y v : V} {u r : Value} {A : Around} {E : Value → Shared → Prop} {Q : Unit → Shared → Prop} (hu : A.units + 1 < cLine) (I : Inv X pins σ H s) (g : DPut H a y v H') (ry : RelV y u) (rv : RelV v r) (h : ∀ s', Inv X pins σ H' s' → Q () s') :
    wpAny (model X.prog X.w) A (dictSet a u r) Q E s := by
  rcases g with ⟨kvs, k, e, ey, l, eH⟩ | ⟨kvs, k, b, e, ey, eb, l, eH⟩
  · rw [eH]  at h
    rw [ey] at ry
    obtain ⟨lz, hd, vs, rel, dd⟩ := dk_of I.hok e
    have z1 : vs.length ≤ sizeLine := by rw [← rel.length]; exact lz
    have z2 : (putK kvs k v).length ≤ sizeLine := Nat.le_trans (length_putK kvs k v) (by omega)
    refine wpAny_dictSet_pairs (hsz := z1) (kV_is ry) dd fun h' dd2 hs => h _ ?_
    refine d_write I (by rw [e]; trivial) hs ?_ (dk_new z2 hd (rel.put k rv) dd2)
    obtain ⟨q, _, _, hq, _⟩ := dd2
    exact ⟨q, hq⟩
  · rw [eH] at h
    rw [ey] at ry
    cases (show u = Value.ref b from ry)
    obtain ⟨lz, hd, xs, rel, dd⟩ := dt_of I.hok e
    have z1 : xs.length ≤ sizeLine := by rw [← Paired.length rel]; exact lz
    have z2 : (putK kvs k v).length ≤ sizeLine := Nat.le_trans (length_putK kvs k v) (by omega)
    refine wpAny_dictSet_heap (hsz := z1) (show A.units < cLine by omega) (key_of I.hok eb) dd fun h' dd2 hs => h _ ?_
    obtain ⟨q, es, ep, hq, q2, q3, q4, _, q5⟩ := dd2
    refine d_write I (by rw [e]; trivial) hs ⟨q, hq⟩ ⟨z2, hd, _, (rel.put k eb rv).keeps fun c ys ec => ?_, q, es, ep, hq, q2, q3, q4, q5⟩
    rw [upd_ne (ne_of ec e (by intro z; cases z))]
    exact ec
theorem d_setJ {H' : Hp} {a : Addr} {y v : V} {u r : Value} {A : Around} {E : Value → Shared → Prop} {Q : Unit → Shared → Prop} (hu : A.units + 1 < cLine) (I : Inv X pins σ H s) (g : PutJ H a y v H') (ry : RelV y u) (rv : RelV v r) (h : ∀ s', Inv X pins σ H' s' → Q () s') :
    wpAny (model X.prog X.w) A (dictSet a u r) Q E s := by
  rcases g with g | ⟨e, g⟩
  · exact d_set1 hu I g ry rv h
  · exact d_set1 hu (I.toT e) g ry rv h
theorem puts_ok {a : Addr} {A : Around} {E : Value → Shared → Prop} {Q : Hp → Prop} (hu : A.units + 1 < cLine) : ∀ {ps : List (V × V)} {ws : List (Value × Value)} {H : Hp} {s : Shared}, VV ps ws → Inv X pins σ H s → rPuts a ps H Q →
    wpAny (model X.prog X.w) A (storeAll a ws) (fun _ s' => ∃ H', Inv X pins σ H' s' ∧ Q H') E s
  | [], _, H, s, r, I, q => by
    cases r
    unfold storeAll
    rw [List.forIn_nil]
    exact wpAny_pure ⟨H, I, q⟩
  | kv :: ps, _, H, s, r, I, q => by
    cases r with
    | @cons a1 b1 as bs h1 t1 =>
      obtain ⟨H1, p1, q1⟩ := q
      unfold storeAll
      rw [List.forIn_cons]
      refine wpAny_bind (wpAny_bind (d_setJ hu I p1 h1.1 h1.2 fun s1 I1 => wpAny_pure ?_))
      exact puts_ok hu t1 I1 q1
theorem pe_dispJ {pos : Pos} {keys : List (Option Expr)} {values : List Expr} {trs : List (TE × TE)} (hu : X.A.units + 70 < cLine) (h : PPs X pos keys values trs) (hall : keys.all (·.isSome) = true) (hl : keys.length = values.length) (h0 : keys ≠ [])
    (h15 : keys.length ≤ 15) : PE X (.Dict keys values pos) (tDispJ trs) := by
  refine ⟨fun pins s σ H Q I q => ?_⟩
  have hn := I.hok.fresh (Nat.le_refl s.heap.objs.size)
  have I1 := I.laid (a := s.heap.objs.size) (o := .dK []) (t' := s.toks) (fun b o e => Heap.get?_push_of_some { cls := .type "dict", data := .dict #[] } e) (Nat.le_refl _) (dk_empty s.heap I.big)
  refine wpAny_Dict_any hall hl h0 h15 (thn (h.run pins _ σ _ _ I1 (q _ hn)) fun ws s2 ⟨ps, H2, I2, rel, q2⟩ => ?_)
  exact thn (puts_ok (by omega) rel I2 q2) fun _ s3 ⟨H3, I3, q3⟩ => ⟨.ref s.heap.objs.size, H3, I3, rfl, q3⟩
end
def pairUp {β : Type} : List β → List (β × β)
  | a :: b :: r => (a, b) :: pairUp r
  | _ => []
def putsA (d : Nat) : List AV → AH → Option AH
  | [], h => some h
  | k :: v :: r, h => match setD h d k v with
    | some h1 => putsA d r h1
    | none => none
  | [_], _ => none
section
variable {K : PySem.W.Frag} {gm : Nat → Addr} {α : Nat → Addr}
theorem setD_n {h h' : AH} {r : Nat} {i v : AV} (e : setD h r i v = some h') : h'.n = h.n := by
  unfold setD at e
  split at e
  · split at e
    · split at e
      · cases e; rfl
      · cases e
    · split at e
      · cases e; rfl
      · cases e
  · split at e
    · split at e
      · cases e; rfl
      · cases e
    · cases e
  · cases e
theorem putsA_ok {d : Nat} {Q : Hp → Prop} : ∀ {vs : List AV} {h h' : AH} {H : Hp}, Good K gm α h H → (∀ v ∈ vs, v.lt h.n) → putsA d vs h = some h' → (∀ H', Step K gm α h H α h' H' → Q H') → rPuts (α d) (pairUp (cvs gm α vs)) H Q
  | [], h, h', H, g, l, e, q => by cases e; exact q H (Step.refl g)
  | [_], _, _, _, _, _, e, _ => by cases e
  | k :: v :: r, h, h', H, g, l, e, q => by
    unfold putsA at e
    split at e
    · rename_i h1 e1
      obtain ⟨H1, p1, s1⟩ := setD_ok g (l v (List.mem_cons_of_mem _ List.mem_cons_self)) e1
      have en := setD_n e1
      exact ⟨H1, p1, putsA_ok s1.good (fun x hx => by rw [en]; exact l x (List.mem_cons_of_mem _ (List.mem_cons_of_mem _ hx))) e fun H' s => q H' (s1.trans s)⟩
    · cases e
end
end J

set_option Elab.async false
set_option linter.all false
set_option maxRecDepth 100000
set_option maxHeartbeats 4000000
/-! exceptions made as values; an exception that a clause names stays known behind the clause -/
namespace J
open PySem PySem.Spec PyProof.Rows L2
section
variable {X : Cx} {pins : List (Addr × Obj)} {σ : L2.St} {H : Hp} {s : Shared}
def exK (cls : Value) (a : Addr) : HO := .ext fun h => ∃ oe vs, h.get? a = some oe ∧ oe.cls = cls ∧ oe.dict = none ∧ oe.data = .fields vs
theorem exK_is {cls : Value} {a : Addr} : ExK cls none none a (exK cls a) := ⟨_, rfl, fun h ⟨oe, vs, h1, h2, h3, h4⟩ => ⟨oe, vs, h1, h2, h3, h4, fun _ z => nomatch z⟩⟩
theorem exK_ok {P : Program} {w : World} {H : Hp} {h : Heap} {a : Addr} {cls : Value} {oe : Obj} {vs : Array Value} (e : h.get? a = some oe) (c : oe.cls = cls) (d : oe.dict = none) (f : oe.data = .fields vs) : ObjOk P w H h a (exK cls a) :=
  ⟨⟨oe, vs, e, c, d, f⟩, ⟨oe, e⟩, fun h1 h2 ⟨o, v, q, r⟩ k => ⟨o, v, k o q, r⟩⟩
/-- an object that was not tracked is tracked -/
theorem _root_.L2.Inv.track {a : Addr} {o : HO} {oe : Obj} {vs : Array Value} (I : Inv X pins σ H s) (hn : H a = none) (he : s.heap.get? a = some oe) (hd : oe.data = .fields vs) (nL : a ≠ X.env.locals) (new0 : X.s_0.heap.get? a = none) (np : ∀ p ∈ X.pn ++ pins, p.1 ≠ a)
    (ok : ObjOk X.prog X.w (upd H a o) s.heap a o) : Inv X pins σ (upd H a o) s := by
  have ne : ∀ b u, H b = some u → b ≠ a := fun b u e z => by rw [z, hn] at e; cases e
  refine ⟨I.ok, I.os, I.bare, ⟨I.base.keep, I.base.slot, fun b u e n hx => ?_, I.base.there, fun b xs e => ?_, fun b ob u e => ?_, fun b ps e => ?_⟩, I.loc, I.cell, ?_, fun x c e => ?_, fun p hp => ?_, fun b u e => ?_, I.len⟩
  · rw [upd_ne fun z => by rw [z, new0] at e; cases e]
    exact I.base.free b u e n hx
  · have q := I.base.tups b xs e
    rw [upd_ne (ne b _ q)]; exact q
  · have q := I.base.frzs b ob u e
    rw [upd_ne (ne b _ q)]; exact q
  · obtain ⟨m, q⟩ := I.base.tbls b ps e
    exact ⟨m, by rw [upd_ne (ne b _ q)]; exact q⟩
  · rw [upd_ne nL.symm]; exact I.free
  · rw [upd_ne fun z => by
      obtain ⟨v, oc, ho, hc⟩ := I.cell x c e
      rw [z, he] at ho
      cases ho
      rw [hd] at hc
      cases hc]
    exact I.freeC x c e
  · obtain ⟨h1, h2, h3⟩ := I.pin p hp
    exact ⟨h1, by rw [upd_ne (np p hp)]; exact h2, h3⟩
  · by_cases hb : b = a
    · rw [hb, upd_same] at e
      cases e
      rw [hb]
      exact ok
    · rw [upd_ne hb] at e
      exact (I.hok b u e).stay (fun c v _ q => q) (fun c q => by rw [upd_ne (ne c _ q)]; exact q) fun c xs q => by rw [upd_ne (ne c _ q)]; exact q
end
/-- behind the clause its exception is known -/
def keptH (cls : Value) (d : Option Addr) (a : Addr) (H : Hp) : Hp := match d with
  | none => upd H a (exK cls a)
  | some _ => H
def endsK (D : Ends) (i : Nat) (cls : Value) (d : Option Addr) (a : Addr) : Ends :=
  { nx := fun σ' H' => H' a = none → D.nx (σ'.set i none) (keptH cls d a H'), rt := fun v H' => H' a = none → D.rt v (keptH cls d a H'), bk := fun σ' H' => H' a = none → D.bk (σ'.set i none) (keptH cls d a H'), ct := fun σ' H' => H' a = none → D.ct (σ'.set i none) (keptH cls d a H') }
def wKeep (K : PySem.W.Frag) (c : Value) (i : Nat) (ts : TS) (Wout : WX) (D : Ends) : WX := fun cls d σ H =>
  ∃ b, PySem.W.exmOne K cls c = some b ∧ (b = true → ∀ a, H a = none → ts (endsK D i cls d a) (σ.set i (some (.ref a))) H) ∧ (b = false → Wout cls d σ H)
section
variable {X : Cx} {x n : Str} {c : Value} {i : Nat} {body suite : List Stmt} {b1 : Stmt} {np pos pos' : Pos} {tb : WX → TS} {ts : TS} {Wout : WX}
/-- try: body / except x as n: suite; the exception may be kept -/
theorem ps_tryK (hs : X.stack = X.env :: X.outer) (hf : X.env.frame = some X.env.locals) (hN : X.N.Nodup) (hi : X.N[i]? = some n) (hln : X.env.kindOf n = some .local) (hc : Names X x c) (hex : X.ex = []) (tk : Takes X Wout)
    (hb : ∀ (W : WX) (pn : List (Addr × Obj)) (xe : Value → Shared → Prop), Takes (X.tr pn xe) W → PassesOwn (model X.prog X.w) X.A X.env xe → PSs (X.tr pn xe) body (tb W))
    (hsu : ∀ (a : Addr) (oe : Obj) (pn : List (Addr × Obj)), PSs (X.suite a ((a, oe) :: pn)) (b1 :: suite) ts) :
    PS X (.Try body [.ExceptHandler (some (.Name x np)) (some n) (b1 :: suite) pos'] [] [] pos) (fun D σ H => tb (wKeep X.K c i ts Wout D) D σ H) := by
  refine ⟨fun pins s σ H D I h => wpAny_Try_except ?_⟩
  have okX := I.ok
  have frA : X.A.frames = some (X.env :: X.outer) := okX.frames.trans (congrArg some hs)
  have locn : Loc X.env.scope n := Or.inl hln
  refine wpAny_mono ((hb (wKeep X.K c i ts Wout D) (X.pn ++ pins) (fun e s1 => wpAny (model X.prog X.w) X.A (noteFrame e X.env) (fun _ s2 => wpAny (model X.prog X.w) X.A (setFlight e none) (fun _ s3 =>
    wpAny (model X.prog X.w) X.A (handleBy e X.env [.ExceptHandler (some (.Name x np)) (some n) (b1 :: suite) pos']) (SP X pins D) X.xe s3) X.xe s2) X.xe s1) (fun u s' xx => ?hit) PassesOwn.looking).run [] s σ H D (I.toTry _) h) (fun fl s1 hsp => ?fin) (fun e s1 he => he)
  case hit =>
    obtain ⟨a, B, sI, pins0, σ1, H1, cls, d, eu, J0, nb, up, sky, na, eos, ag, b, eb, yes, no⟩ := xx
    subst eu
    have J : Inv X pins σ1 H1 sI := J0.ofTry okX
    have sky1 : Sky B (X.env :: X.outer) a (Zc cls d) X.env.locals s'.heap := hs ▸ sky
    show wpAny _ X.A (noteFrame (.ref a) X.env) _ _ _
    refine Sky.land Zc.steady frA hf sky1 fun h3 fl3 up3 => ?_
    have J3 := J.landed (s' := { s' with heap := h3 }) nb fl3.1 (up.trans up3) eos ag
    obtain ⟨oe3, vs3, ge3, z3, f3⟩ := fl3.there
    have offF : ∀ {hh : Heap} {oo : Obj} {vv : Array Value}, hh.FunFrames B (X.env :: X.outer) → hh.get? a = some oo → oo.data = .fields vv → a ∉ frs (X.env :: X.outer) := fun ff eg ed hm => by
      obtain ⟨_, o2, e2, q2⟩ := ff.mem hm
      rw [eg] at e2
      cases e2
      exact q2 _ ed
    have nfr := offF fl3.2.2.1 ge3 f3
    have nL : a ≠ X.env.locals := fun z => nfr (by rw [z]; exact List.mem_filterMap.mpr ⟨X.env, List.mem_cons_self, hf⟩)
    have nF : a ∉ X.fs := fun hm => by
      obtain ⟨ev, hev, qv⟩ := List.mem_filterMap.mp hm
      exact nfr (List.mem_filterMap.mpr ⟨ev, List.mem_cons_of_mem _ hev, qv⟩)
    have BN : B.get? a = none := by
      rcases sky1 with q | q | q
      · exact q.2.1
      · exact q.2.1
      · exact q.2.1
    have sIN : ∀ {b : Addr} {o : Obj}, sI.heap.get? b = some o → b ∉ frs X.stack → b ≠ a := fun {b o} e hb z => by
      have := nb b o e hb
      rw [z, BN] at this
      cases this
    have notStack : a ∉ frs X.stack := by rw [hs]; exact nfr
    have new0 : X.s_0.heap.get? a = none := by
      cases q : X.s_0.heap.get? a with
      | none => rfl
      | some o =>
        obtain ⟨o2, q2⟩ := J.base.there a o q (by rw [hex]; exact List.not_mem_nil)
        exact (sIN q2 notStack rfl).elim
    have npin : ∀ p ∈ X.pn ++ pins, p.1 ≠ a := fun p hp => by
      obtain ⟨g1, g2, g3, g4, _⟩ := J.pin p hp
      refine sIN g1 fun hm => ?_
      rcases List.mem_cons.mp (J.stkSub _ hm) with z | z
      · exact g3 z
      · exact g4 z
    have S3 := J3.suite ge3 f3 na nL nF
    refine wpAny_handleBy_cons (codeAny_handlers_test ?_) (fun q => nomatch q)
    have ty : PySem.W.Looks (model X.prog X.w) h3 (typeOf (.ref a)) cls := fun A Q E s k q => wpAny_typeOf_ref (k _ _ ge3) (z3.1.symm ▸ q)
    have asks := PySem.W.exm_one (M := model X.prog X.w) J3.kIn ty eb
    have names : ∀ {Q E : Value → Shared → Prop}, Q c { s' with heap := h3 } → wpAny (model X.prog X.w) (X.A.mark (some (.ref a))) (eval (.Name x np) X.env) Q E { s' with heap := h3 } := fun {Q E} q => by
      obtain ⟨hg, hd, hm | ⟨hm, hv, hn⟩⟩ := hc
      · exact ld_glob (X := X.suite a ((a, oe3) :: (X.pn ++ pins))) S3 hg hm q hd
      · exact ld_blt (X := X.suite a ((a, oe3) :: (X.pn ++ pins))) S3 hg hm hv q hn hd
    refine names (asks.here ?_)
    match b, yes, no with
    | true, yes, _ =>
      refine codeAny_handlers_suite_as (HandSPX.lands_againZ fl3 fun h4 fl4 up4 => ?_)
      have J4 := J.landed (s' := { s' with heap := h4 }) nb fl4.1 ((up.trans up3).trans up4) eos ag
      obtain ⟨oe4, vs4, ge4, z4, f4⟩ := fl4.there
      refine store_ok (X := X.suite a ((a, oe4) :: (X.pn ++ pins))) (v := .ref a) (J4.suite ge4 f4 na nL nF) hN hi locn rfl (fun s5 S5 => ?_) (Or.inr hln)
      refine wpAny_mono ((hsu a oe4 (X.pn ++ pins)).run [] s5 _ H1 _ S5 (yes rfl a na)) (fun fl s6 hsp => ?_) (fun _ _ z => False.elim z)
      have fin : ∀ {σ6 : L2.St} {H6 : Hp} {Qf : Shared → Prop}, Inv (X.suite a ((a, oe4) :: (X.pn ++ pins))) [] σ6 H6 s6 → (H6 a = none → ∀ s7, Inv X pins (σ6.set i none) (keptH cls d a H6) s7 → Qf s7) →
          wpAny (model X.prog X.w) X.A (do bindName X.env n .none; unbindBehindTheSuite X.env n pos') (fun _ s7 => Qf s7) X.xe s6 := fun {σ6 H6 Qf} S6 hq => by
        obtain ⟨p1, p2, _⟩ := S6.pin (a, oe4) (List.mem_append_left _ List.mem_cons_self)
        have U := S6.unsuite okX
        refine gone_ok (X := X) (H := keptH cls d a H6) ?_ hN hi hln (fun s7 J7 => hq p2 s7 J7)
        cases d with
        | none => exact U.track p2 p1 f4 nL new0 npin (exK_ok p1 z4.1 z4.2 f4)
        | some _ => exact U
      cases fl with
      | next => obtain ⟨σ6, H6, S6, q6⟩ := hsp; exact fin S6 fun e6 s7 J7 => ⟨_, _, J7, q6 e6⟩
      | brk => obtain ⟨σ6, H6, S6, q6⟩ := hsp; exact fin S6 fun e6 s7 J7 => ⟨_, _, J7, q6 e6⟩
      | cont => obtain ⟨σ6, H6, S6, q6⟩ := hsp; exact fin S6 fun e6 s7 J7 => ⟨_, _, J7, q6 e6⟩
      | ret u => obtain ⟨v6, σ6, H6, S6, r6, q6⟩ := hsp; exact fin S6 fun e6 s7 J7 => ⟨_, _, _, J7, r6, q6 e6⟩
    | false, _, no =>
      show wpAny _ X.A (handleBy (.ref a) X.env []) _ _ _
      refine wpAny_handleBy_nil ?_
      obtain ⟨k1, k2, k3, oe, vs, T, oT, ts', ge, hz, hd, h1, hr⟩ := id fl3
      unfold PySem.passOn
      refine wpAny_bind (wpAny_field ge hd h1 ?_)
      rw [if_neg (show ¬ ((Value.ref T == Value.none) = true) by simp)]
      have up_ : wpAny (model X.prog X.w) X.A (setFlight (.ref a) X.env.frame) (fun _ s4 => wpAny (model X.prog X.w) X.A (throw (.ref a) : Sem Flow) (SP X pins D) X.xe s4) X.xe { s' with heap := h3 } := by
        rw [hf]
        refine HandSPX.setFlight_upZ fl3 fun h4 hh4 up4 => wpAny_throw (tk _ _ ?_)
        exact ⟨a, B, sI, pins, σ1, H1, cls, d, rfl, J, nb, (up.trans up3).trans up4, .inr (.inr (hs ▸ hh4)), na, eos, ag, no rfl⟩
      first
        | exact wpAny_bind (wpAny_pure (wpAny_bind up_))
        | exact wpAny_bind up_
  case fin =>
    cases fl with
    | next => obtain ⟨σ1, H1, J1, q⟩ := hsp; exact wpAny_execs_nil ⟨σ1, H1, J1.ofTry okX, q⟩
    | brk => obtain ⟨σ1, H1, J1, q⟩ := hsp; exact ⟨σ1, H1, J1.ofTry okX, q⟩
    | cont => obtain ⟨σ1, H1, J1, q⟩ := hsp; exact ⟨σ1, H1, J1.ofTry okX, q⟩
    | ret u => obtain ⟨v1, σ1, H1, J1, r1, q⟩ := hsp; exact ⟨v1, σ1, H1, J1.ofTry okX, r1, q⟩
end
end J

set_option Elab.async false
set_option linter.all false
set_option maxRecDepth 100000
set_option maxHeartbeats 4000000
/-! dict comprehensions, keys of either kind -/
namespace J
open PySem PySem.Spec PyProof.Rows L2
section
variable {X : Cx}
def tDcJ (wi : TI) (g : TG) (tt : TT) (tk tv : TE) (vs : List Nat) : TE := fun σ H Q => wi σ H fun J H1 => ∀ D, H1 D = none → ∃ W : Nat → Nat → Hp → Prop, (∃ m, W 0 m (upd H1 D (.dK []))) ∧ ∀ i m H, W i m H →
  (J.stop i H ∧ Q (.ref D) H) ∨ (J.go i H ∧ ∃ Nx : Hp → Prop, (∀ H', Nx H' → ∃ m', m' < m ∧ W (i + 1) m' H') ∧ ∀ x H', J.yld i H x H' →
    g x (wipe σ vs) H' fun σ2 H2 => wipe σ2 vs = wipe σ vs ∧ tt σ2 H2 fun b H3 => if b = true then tk σ2 H3 fun y H4 => tv σ2 H4 fun z H5 => ∃ H6, PutJ H5 D y z H6 ∧ Nx H6 else Nx H3)
abbrev BlkX (X : Cx) (scope : Scope) (s : Shared) (H : Hp) (C : Addr) (cl : List (Str × Addr)) (fp : List Addr) : Cx := X.blk s H scope (compEnvC scope cl C X.env) fp
theorem dcJ_core {pins : List (Addr × Obj)} {s : Shared} {σ : L2.St} {H : Hp} {Q : VK} {pos' : Pos} {use : Option (Value → Sem Unit)} {Qf : Value → Shared → Prop} {kx vx tg iter : Expr} {ifs : List Expr} {scope : Scope} {own : List (Str × Nat)} {pos : Pos} {wi : TI} {g : TG} {tt : TT} {tk tv : TE} (hu : X.A.units + 70 < cLine) (hc : X.calm = true) (hN : X.N.Nodup) (I : Inv X pins σ H s) (hi : PI X tg iter wi) (ok : BlkOk X.N X.env.scope scope own)
    (hg : ∀ (s : Shared) (H : Hp) (C : Addr) (cl : List (Str × Addr)) (fp : List Addr), PG (BlkX X scope s H C cl fp) tg g)
    (ht : ∀ (s : Shared) (H : Hp) (C : Addr) (cl : List (Str × Addr)) (fp : List Addr), PTs (BlkX X scope s H C cl fp) ifs tt)
    (hk : ∀ (s : Shared) (H : Hp) (C : Addr) (cl : List (Str × Addr)) (fp : List Addr), PE (BlkX X scope s H C cl fp) kx tk)
    (he : ∀ (s : Shared) (H : Hp) (C : Addr) (cl : List (Str × Addr)) (fp : List Addr), PE (BlkX X scope s H C cl fp) vx tv) (hs : ∀ x, foldedSetIterable iter X.env x = pure x) (h : tDcJ wi g tt tk tv (own.map (·.2)) σ H Q)
    (hRR : ∀ D C s' m H', Inv X pins σ H' s' → Q (.ref D) H' → s'.heap.Ns C m → FpOk X pins H' C → compPost (model X.prog X.w) X.A X.xe use Qf (.ref D) C (.ok .next) s') :
    wpAny (model X.prog X.w) X.A (comprehension (.DictComp kx vx [⟨tg, iter, ifs, 0⟩] scope pos) scope X.env pos' newDict false (eval iter X.env) use) Qf X.xe s := by
  have frees : ∀ y ∈ scope.names, y.2 = .free → ∃ c, X.env.cells.lookup y.1 = some c := fun y hy e => (ok.free y hy e).elim (fun q => I.ok.has _ (.inl q)) fun q => I.ok.has _ (.inr q)
  refine wpAny_comprehension_free rfl hs (closure_ok frees) ok.kind (fun y hy e => by rw [ok.uniq y hy, e]) (thn (hi.run pins s σ H _ I h) fun xv s1 hx => thn hx fun itv s2 h2 => ?_)
  obtain ⟨it, fp, tn, J, H2, eit, I2, T, st2, f2, q⟩ := h2
  subst eit
  refine wpAny_newObj_type (newEnv_comp ?_)
  have nD : H2 s2.heap.objs.size = none := I2.hok.fresh (Nat.le_refl _)
  obtain ⟨W, ⟨m0, w0⟩, turn⟩ := q _ nD
  -- the new dict is laid
  have I3 : Inv X pins σ (upd H2 s2.heap.objs.size (.dK [])) { s2 with heap := s2.heap.push { cls := .type "dict", data := .dict #[] } } :=
    I2.laid (t' := s2.toks) (fun b o e => Heap.get?_push_of_some _ e) (Nat.le_refl _) (dk_empty s2.heap I2.big)
  generalize eD : s2.heap.objs.size = D at nD w0 turn I3 ⊢
  generalize e3 : ({ s2 with heap := s2.heap.push { cls := .type "dict", data := .dict #[] } } : Shared) = s3 at I3
  have hp3 : s3.heap = s2.heap.push { cls := .type "dict", data := .dict #[] } := by rw [← e3]
  have low : ∀ b ∈ fp, b < s2.heap.objs.size := fun b hb => let ⟨_, e, _⟩ := T.obj _ _ st2 b hb; Heap.lt_size e
  have f3 : ∀ b ∈ fp, FpOk X pins (upd H2 D (.dK [])) b ∧ b < s3.heap.objs.size := fun b hb => by
    refine ⟨⟨?_, (f2 b hb).2⟩, ?_⟩
    · rw [upd_ne (by rw [← eD]; exact Nat.ne_of_lt (low b hb))]
      exact (f2 b hb).1
    · rw [hp3, Heap.size_push]
      exact Nat.lt_succ_of_lt (low b hb)
  have st3 : tn 0 s3.heap := T.keep _ _ _ st2 fun b _ o e => by rw [hp3]; exact Heap.get?_push_of_some _ e
  have I4 := block_start I3 ok hN f3
  have fpn : ∀ b ∈ fp, (upd H2 D (.dK [])) b = none := fun b hb => (f3 b hb).1.1
  generalize eH : upd H2 D (.dK []) = H3 at I3 I4 w0 fpn f3
  let cells := cellsFrom (s3.heap.objs.size + 1) scope.names (cloFrom X.env.cells scope.names [])
  have gen : PG (X.blk s3 H3 scope (compEnvC scope cells s3.heap.objs.size X.env) fp) tg g := hg s3 H3 s3.heap.objs.size cells fp
  have ten : PTs (X.blk s3 H3 scope (compEnvC scope cells s3.heap.objs.size X.env) fp) ifs tt := ht s3 H3 s3.heap.objs.size cells fp
  have ken : PE (X.blk s3 H3 scope (compEnvC scope cells s3.heap.objs.size X.env) fp) kx tk := hk s3 H3 s3.heap.objs.size cells fp
  have ven : PE (X.blk s3 H3 scope (compEnvC scope cells s3.heap.objs.size X.env) fp) vx tv := he s3 H3 s3.heap.objs.size cells fp
  show codeAny _ _ (.compStart (.DictComp kx vx [⟨tg, iter, ifs, 0⟩] scope pos) 0 (.ref it) (.ref D) (compEnvC scope cells s3.heap.objs.size X.env)) (compPost (model X.prog X.w) X.A X.xe use Qf (.ref D) s3.heap.objs.size) { s3 with heap := pushCells (s3.heap.push { cls := .type "dict", data := .dict #[] }) scope.names }
  generalize eC : compEnvC scope cells s3.heap.objs.size X.env = ce at I4 gen ten ken ven ⊢
  have locC : ce.locals = s3.heap.objs.size := by subst eC; rfl
  generalize e4 : ({ s3 with heap := pushCells (s3.heap.push { cls := .type "dict", data := .dict #[] }) scope.names } : Shared) = s4 at I4 ⊢
  have st4 : tn 0 s4.heap := T.keep _ _ _ st3 fun b _ o e => by rw [← e4]; exact pushCells_keeps _ _ _ _ (Heap.get?_push_of_some _ e)
  let B : Cx := X.blk s3 H3 scope ce fp
  have fpo : ∀ {σ' : L2.St} {H' : Hp} {s' : Shared}, Inv B [] σ' H' s' → (∀ b ∈ fp, H' b = none) → ∀ b ∈ fp, FpOk B [] H' b := fun {σ' H' s'} Ib hn b hb =>
    ⟨hn b hb, (Ib.ok.exf b hb).1, Ib.ok.exfs b hb, .inl hb, fun x c e => (Ib.ok.exf b hb).2 x c e, fun p hp => absurd (show p ∈ ([] : List (Addr × Obj)) ++ [] from hp) (by simp)⟩
  have loop : codeAny (model X.prog X.w) X.A (.compLoop (.DictComp kx vx [⟨tg, iter, ifs, 0⟩] scope pos) 0 (.ref it) (.ref D) ce) (compPost (model X.prog X.w) X.A X.xe use Qf (.ref D) s3.heap.objs.size) s4 := by
    refine compLoop_anyD (fun n s' => ∃ i H', Inv B [] (wipe σ (own.map (·.2))) H' s' ∧ tn i s'.heap ∧ (∀ b ∈ fp, H' b = none) ∧ W i n H') ?_ m0 ⟨0, H3, I4, st4, fpn, w0⟩
    rintro n s5 ⟨i, H5, I5, st5, n5, w5⟩
    rcases turn i n H5 w5 with ⟨stop, fin⟩ | ⟨go, Nx, nxt, step⟩
    · refine thnF (T.done B rfl rfl rfl hc i [] s5 _ H5 (fun _ _ => False) I5 (fpo I5 n5) st5 stop) fun r s6 ⟨er, I6⟩ => ?_
      subst er
      have I7 : Inv X pins σ H5 s6 := I3.call' (ch := fp) I6.os I6.base I6.hok I6.bare fun b hb => ⟨(f3 b hb).1.2.2.2.1, (f3 b hb).1.2.1, (f3 b hb).1.2.2.2.2.1, (f3 b hb).1.2.2.2.2.2⟩
      have nC : H5 s3.heap.objs.size = none := by rw [← locC]; exact I6.free
      obtain ⟨m, ns, _⟩ := I6.loc
      have ns : s6.heap.Ns s3.heap.objs.size m := by rw [← locC]; exact ns
      exact hRR D s3.heap.objs.size s6 m H5 I7 fin ns (I3.fpOk (Nat.le_refl _) nC)
    · refine thnF (T.item B rfl rfl rfl hc i [] s5 _ H5 (fun _ _ => False) I5 (fpo I5 n5) st5 go) fun r s6 ⟨u, er, h6⟩ => ?_
      subst er
      refine thnF h6 fun _ s7 ⟨x, H7, I7, r7, y7, st7, n7⟩ => ?_
      refine thnF (gen.run _ s7 _ H7 x u _ (I7.pinned (fpo I7 n7) (T.obj _ _ st7)) r7 (step x H7 y7)) fun _ s8 ⟨σ8, H8, I8, w8, q8⟩ => ?_
      refine thnF (ten.run _ s8 σ8 H8 _ I8 q8) fun b s9 ⟨H9, I9, q9⟩ => ?_
      have back : ∀ {s' : Shared} {H' : Hp}, Inv B ([] ++ pinsAt fp s7.heap) σ8 H' s' → Nx H' → ∃ m, m < n ∧ ∃ i H', Inv B [] (wipe σ (own.map (·.2))) H' s' ∧ tn i s'.heap ∧ (∀ b ∈ fp, H' b = none) ∧ W i m H' := fun {s' H'} Ib nx => by
        obtain ⟨m', lm, wm⟩ := nxt H' nx
        have stay : ∀ b ∈ fp, ∀ o, s7.heap.get? b = some o → s'.heap.get? b = some o ∧ H' b = none := fun b hb o e => by
          obtain ⟨z1, z2, _⟩ := Ib.pin (b, o) (List.mem_append_right _ (List.mem_append_right _ (mem_pinsAt hb e)))
          exact ⟨z1, z2⟩
        have len : (wipe σ (own.map (·.2))).length = σ8.length := by rw [← w8, wipe_length]
        refine ⟨m', lm, i + 1, H', (Ib.unpinned (pins := [])).weak len (fun j v e => (wipe_some (vs := own.map (·.2)) (by rw [w8]; exact e)).1), T.keep _ _ _ st7 fun b hb o e => (stay b hb o e).1, fun b hb => ?_, wm⟩
        obtain ⟨o, e, _⟩ := T.obj _ _ st7 b hb
        exact (stay b hb o e).2
      cases b with
      | false => exact back I9 q9
      | true =>
        refine thnF (ken.run _ s9 σ8 H9 _ I9 q9) fun z s10 ⟨yk, H10, I10, r10, q10⟩ => ?_
        refine thnF (ven.run _ s10 σ8 H10 _ I10 q10) fun z2 s11 ⟨yv, H11, I11, r11, H12, p12, nx⟩ => ?_
        exact d_setJ (X := B) (show X.A.units + 1 < cLine by omega) I11 p12 r10 r11 fun s12 I12 => back I12 nx
  exact codeAny_compStart_dict loop (T.self X.A 0 _ _ _ st4 loop)
theorem pe_dcJ {kx vx tg iter : Expr} {ifs : List Expr} {scope : Scope} {own : List (Str × Nat)} {pos : Pos} {wi : TI} {g : TG} {tt : TT} {tk tv : TE} (hu : X.A.units + 70 < cLine) (hc : X.calm = true) (hN : X.N.Nodup) (hi : PI X tg iter wi) (ok : BlkOk X.N X.env.scope scope own)
    (hg : ∀ (s : Shared) (H : Hp) (C : Addr) (cl : List (Str × Addr)) (fp : List Addr), PG (BlkX X scope s H C cl fp) tg g)
    (ht : ∀ (s : Shared) (H : Hp) (C : Addr) (cl : List (Str × Addr)) (fp : List Addr), PTs (BlkX X scope s H C cl fp) ifs tt)
    (hk : ∀ (s : Shared) (H : Hp) (C : Addr) (cl : List (Str × Addr)) (fp : List Addr), PE (BlkX X scope s H C cl fp) kx tk)
    (he : ∀ (s : Shared) (H : Hp) (C : Addr) (cl : List (Str × Addr)) (fp : List Addr), PE (BlkX X scope s H C cl fp) vx tv) (hs : ∀ x, foldedSetIterable iter X.env x = pure x := by intro _; rfl) : PE X (.DictComp kx vx [⟨tg, iter, ifs, 0⟩] scope pos) (tDcJ wi g tt tk tv (own.map (·.2))) := by
  refine ⟨fun pins s σ H Q I h => ?_⟩
  rw [arm_eval_DictComp]
  refine dcJ_core hu hc hN I hi ok hg ht hk he hs h fun D C s2 m H2 I2 q ns f => ⟨m, ns, fun h2 sb => ?_⟩
  obtain ⟨g0, g1, g2, g3, g4, g5⟩ := f
  exact ⟨.ref D, H2, I2.turned (t' := s2.toks) (fun b o hb e => (sb.2 b hb).trans e) g0 g1 g3 g4 g5, rfl, q⟩
/-- y = {..} -/
theorem ps_setDcJ {i : Nat} {y : Str} {py spos : Pos} {kx vx tg iter : Expr} {ifs : List Expr} {scope : Scope} {own : List (Str × Nat)} {pos : Pos} {wi : TI} {g : TG} {tt : TT} {tk tv : TE} (hu : X.A.units + 70 < cLine) (hc : X.calm = true) (hN : X.N.Nodup) (hy : X.N[i]? = some y) (hyl : X.env.scope.names.lookup y = some .local)
    (hsw : swapsWith (.DictComp kx vx [⟨tg, iter, ifs, 0⟩] scope pos) (some (.Name y py)) spos.line X.env = pure true) (hi : PI X tg iter wi) (ok : BlkOk X.N X.env.scope scope own)
    (hg : ∀ (s : Shared) (H : Hp) (C : Addr) (cl : List (Str × Addr)) (fp : List Addr), PG (BlkX X scope s H C cl fp) tg g)
    (ht : ∀ (s : Shared) (H : Hp) (C : Addr) (cl : List (Str × Addr)) (fp : List Addr), PTs (BlkX X scope s H C cl fp) ifs tt)
    (hk : ∀ (s : Shared) (H : Hp) (C : Addr) (cl : List (Str × Addr)) (fp : List Addr), PE (BlkX X scope s H C cl fp) kx tk)
    (he : ∀ (s : Shared) (H : Hp) (C : Addr) (cl : List (Str × Addr)) (fp : List Addr), PE (BlkX X scope s H C cl fp) vx tv) (hs : ∀ x, foldedSetIterable iter X.env x = pure x := by intro _; rfl) : PS X (.Assign [.Name y py] (.DictComp kx vx [⟨tg, iter, ifs, 0⟩] scope pos) spos) (tAsg (tDcJ wi g tt tk tv (own.map (·.2))) (gName i)) := by
  refine ⟨fun pins s σ H D I h => ?_⟩
  rw [exec_Assign_Name_used _ _ _ _ hsw]
  refine wpAny_bind (wpAny_standAt (wpAny_bind ?_))
  show wpAny _ X.A (do let _ ← comprehension (.DictComp kx vx [⟨tg, iter, ifs, 0⟩] scope pos) scope X.env (firstIterPos [⟨tg, iter, ifs, 0⟩] pos) newDict false (eval iter X.env) (some (assign (.Name y py) X.env))) _ _ s
  have h' : tDcJ wi g tt tk tv (own.map (·.2)) σ H (fun x H1 => gName i x σ H1 D.nx) := h
  refine wpAny_bind (thn (dcJ_core (Qf := fun _ s' => SP X pins D .next s') hu hc hN I hi ok hg ht hk he hs h' fun L C s2 m H2 I2 q ns f => ?_) fun _ s2 hq => wpAny_pure (wpAny_pure hq))
  show wpAny _ _ (assign (.Name y py) X.env (.ref L)) _ _ _
  refine wpAny_assign_Name (store_ok2 (v := V.ref L) I2 hN hy (Or.inl hyl) rfl (fun s3 I3 ⟨a, sb, ha⟩ => ?_) (Or.inr hyl))
  obtain ⟨g0, g1, g2, g3, g4, g5⟩ := f
  have apart : C ≠ a := ha.elim (fun z => by rw [z]; exact g1) fun z e => g4 y a z e.symm
  exact ⟨m, ns.sameBut sb apart, fun h4 sb4 => ⟨_, H2, I3.turned (t' := s3.toks) (fun b o hb e => (sb4.2 b hb).trans e) g0 g1 g3 g4 g5, q⟩⟩
theorem sw_trueD {gs : List Comprehension} {kx vx : Expr} {scope : Scope} {pos py : Pos} {y : Str} {l : Nat} {env : Env} (hk : env.scope.kind = .function) (hy : env.scope.names.lookup y = some .local) (hl : (py.line == pos.line) = true)
    (ha : (scope.names.any fun (n, k) => n == y && (k == .local || k == .cell)) = false) : swapsWith (.DictComp kx vx gs scope pos) (some (.Name y py)) l env = pure true := by
  have k1 : env.kindOf y = some .local := hy
  have k2 : env.blockKind = .function := by unfold Env.blockKind; rw [hk]; rfl
  unfold swapsWith
  simp only [k2, k1, ha, Expr.pos, hl]
  rfl
end
end J

set_option Elab.async false
set_option linter.all false
set_option maxRecDepth 100000
set_option maxHeartbeats 4000000
/-! the run of the compact syntax -/
namespace J
open PySem L2

structure Def where
  np : Nat
  nn : Nat
  body : List S
/-- the program: its defs; of each class its __init__ (a def's number) and the fields that its instances may have -/
structure Prog where
  defs : List Def
  init : Nat → Option Nat
  flds : Nat → List Str
  kit : AV → AV → Option Bool
  /-- its own error classes -/
  isx : Nat → Bool
  /-- is the first caught by a clause of the second -/
  exm : Nat → Nat → Option Bool
  /-- error classes whose objects' fields may be read, whose objects' text is that they are made with -/
  xf : Nat → Str → Bool := fun _ _ => false
  sx : Nat → Bool := fun _ => false
def plainT (P : Prog) : AV → Bool
  | .gl C => !P.isx C
  | _ => true
def seq (a b : Str) : Bool := a.cps.toList == b.cps.toList
theorem seq_eq {a b : Str} (h : seq a b = true) : a = b := by
  obtain ⟨⟨x⟩⟩ := a
  obtain ⟨⟨y⟩⟩ := b
  have e : x = y := by simpa [seq] using h
  rw [e]
theorem seq_ne {a b : Str} (h : seq a b = false) : a ≠ b := fun e => by
  subst e
  simp [seq] at h
def getF (f : Str) : List (Str × AV) → Option AV
  | [] => none
  | p :: r => if seq f p.1 then some p.2 else getF f r
def putFA (f : Str) (v : AV) : List (Str × AV) → List (Str × AV)
  | [] => [(f, v)]
  | p :: r => if seq p.1 f then (p.1, v) :: r else p :: putFA f v r
/-- an exception that is kept: its class -/
def excA (h : AH) : AV → Option Nat
  | .ref i => match h.get i with
    | some (.exc C _ d) => (match d with
      | none => some C
      | some j => match h.get j with
        | some (.xd _) => some C
        | _ => none)
    | _ => none
  | _ => none
def hasF (f : Str) (l : List Str) : Bool := l.any fun g => seq g f
def tyA (h : AH) : AV → Option AV
  | .non => some (.ty "NoneType") | .bl _ => some (.ty "bool") | .int _ => some (.ty "int") | .str _ => some (.ty "str")
  | .ref i => match h.get i with
    | some (.lst _) => some (.ty "list")
    | some (.rol _) => some (.ty "list")
    | some (.kol _) => some (.ty "list")
    | some (.tup _) => some (.ty "tuple")
    | some (.dK _) => some (.ty "dict")
    | some (.dT _) => some (.ty "dict")
    | some (.fK _) => some (.ty "dict")
    | some (.ins C _) => some (.gl C)
    | _ => none
  | _ => none
/-- slots -/
def getS (σ : SA) (i : Nat) : Option AV := match σ[i]? with
  | some (some v) => some v
  | _ => none
def setS (σ : SA) (i : Nat) (v : AV) : SA := σ.set i (some v)
def wipeA (σ : SA) : List Nat → SA
  | [] => σ
  | v :: vs => (wipeA σ vs).set v none
def setAll (σ : SA) : List Nat → List AV → Option SA
  | [], [] => some σ
  | i :: is, v :: vs => setAll (setS σ i v) is vs
  | _, _ => none
/-- a target takes a value -/
def put (h : AH) (g : G) (σ : SA) (v : AV) : Option SA := match g with
  | .nm i => some (setS σ i v)
  | .tp is => match seqT h v with
    | some vs => if vs.length = is.length then setAll σ is vs else none
    | none => none
/-- what is walked: a list, a tuple, a range, a text; a locked dict's keys, its pairs (keys of the one kind, of the other) -/
inductive Wk where | lst (i : Nat) | tup (i : Nat) | rng (lo : Int) (n : Nat) | str (x : Str) | dk (i : Nat) | dt (i : Nat) | ik (i : Nat) | it (i : Nat) | en (i : Nat) | vk (i : Nat)
def Itk.dict : Itk → Bool
  | .keys | .items | .values | .poly => true
  | _ => false
def lockA (h : AH) (r : Nat) (a b : Nat → Wk) : Option (Wk × AH × Option Nat) := match h.get r with
  | some (.dK kvs) => some (a r, h.set r (.fK kvs), some r)
  | some (.dT kvs) => some (b r, h.set r (.fT kvs), some r)
  | some (.fK _) => some (a r, h, none)
  | some (.fT _) => some (b r, h, none)
  | _ => none
def wk (i : Itk) (h : AH) (vs : List AV) : Option (Wk × AH × Option Nat) := match i, vs with
  | .list, [.ref r] => match seqL h (.ref r) with
    | some _ => some (.lst r, h, none)
    | none => none
  | .tup, [.ref r] => match seqT h (.ref r) with
    | some _ => some (.tup r, h, none)
    | none => none
  | .range1, [.int j] => if -4611686018427387904 ≤ j ∧ j < 4611686018427387904 then some (.rng 0 j.toNat, h, none) else none
  | .range2, [.int i, .int j] => if -4611686018427387904 ≤ i ∧ i < 4611686018427387904 ∧ -4611686018427387904 ≤ j ∧ j < 4611686018427387904 then some (.rng i (j - i).toNat, h, none) else none
  | .str, [.str x] => some (.str x, h, none)
  | .keys, [.ref r] => lockA h r .dk .dt
  | .items, [.ref r] => lockA h r .ik .it
  | .values, [.ref r] => match h.get r with
    | some (.dK kvs) => some (.vk r, h.set r (.fK kvs), some r)
    | some (.fK _) => some (.vk r, h, none)
    | _ => none
  | .enum, [.ref r] => match seqL h (.ref r) with
    | some _ => some (.en r, h, none)
    | none => none
  | .poly, [v] => match v with
    | .str x => some (.str x, h, none)
    | .ref r => match seqL h (.ref r) with
      | some _ => some (.lst r, h, none)
      | none => match seqT h (.ref r) with
        | some _ => some (.tup r, h, none)
        | none => lockA h r .dk .dt
    | _ => none
  | _, _ => none
def gIn (own : List Nat) : G → Bool
  | .nm i => own.contains i
  | .tp is => is.all fun i => own.contains i
def wkO (own : List Nat) (g : G) (i : Itk) (h : AH) (vs : List AV) : Option (Wk × AH × Option Nat) := if gIn own g = true then wk i h vs else none
/-- the lock is taken away -/
def unl (u : Option Nat) (h : AH) : Option AH := match u with
  | none => some h
  | some r => match h.get r with
    | some (.fK kvs) => some (h.set r (.dK kvs))
    | some (.fT kvs) => some (h.set r (.dT kvs))
    | _ => none
def unlS (u : Option Nat) : SO → SO
  | .nx σ h => match unl u h with | some h' => .nx σ h' | none => .bad
  | .rt v h => match unl u h with | some h' => .rt v h' | none => .bad
  | .exc c σ h => .exc c σ h
  | _ => .bad
def unlO (u : Option Nat) : Out AV → Out AV
  | .ok v h => match unl u h with | some h' => .ok v h' | none => .bad
  | _ => .bad
/-- behind a clause its exception is known by its class -/
def nameE (k n : Nat) (h : AH) : Option AH := match h.get n with
  | some .unk => some (h.set n (.exc k none none))
  | _ => none
def tryE (i k n : Nat) : SO → SO
  | .nx σ h => match nameE k n h with | some h' => .nx (wipeA σ [i]) h' | none => .bad
  | .rt v h => match nameE k n h with | some h' => .rt v h' | none => .bad
  | _ => .bad
def keyV : Key → AV
  | .inl i => .int i
  | .inr x => .str x
/-- its item at a turn: nothing: unknown; none: it has ended -/
def itm (h : AH) (k : Nat) : Wk → Option (Option (AV × AH))
  | .lst r => (seqL h (.ref r)).map fun xs => xs[k]?.map fun x => (x, h)
  | .tup r => (seqT h (.ref r)).map fun xs => xs[k]?.map fun x => (x, h)
  | .rng lo n => some (if k < n then some (.int (lo + k), h) else none)
  | .en r => (seqL h (.ref r)).map fun xs => xs[k]?.map fun x => (.ref h.n, h.push (.tup [.int (k : Nat), x]))
  | .str x => some (x.cps.toList[k]?.map fun c => (.str ⟨#[c]⟩, h))
  | .dk r => match h.get r with
    | some (.fK kvs) => some (kvs[k]?.map fun p => (keyV p.1, h))
    | _ => none
  | .vk r => match h.get r with
    | some (.fK kvs) => some (kvs[k]?.map fun p => (p.2, h))
    | _ => none
  | .dt r => match h.get r with
    | some (.fT kvs) => some (kvs[k]?.map fun p => (.ref h.n, h.push (.tup (p.1.map keyV))))
    | _ => none
  | .ik r => match h.get r with
    | some (.fK kvs) => some (kvs[k]?.map fun p => (.ref h.n, h.push (.tup [keyV p.1, p.2])))
    | _ => none
  | .it r => match h.get r with
    | some (.fT kvs) => some (kvs[k]?.map fun p => (.ref (h.n + 1), (h.push (.tup (p.1.map keyV))).push (.tup [.ref h.n, p.2])))
    | _ => none
mutual
def evE (P : Prog) (n : Nat) (σ : SA) (e : E) (h : AH) : Out AV := match n with
  | 0 => .bad
  | n + 1 => match e with
    | .k v => match v with | .ref _ => .bad | v => .ok v h
    | .v i => match getS σ i with | some v => .ok v h | none => .bad
    | .bin o a b => (evE P n σ a h).bind fun x h1 => (evE P n σ b h1).bind fun y h2 => binop o h2 x y
    | .neg a => (evE P n σ a h).bind fun x h1 => match x with | .int i => .ok (.int (-i)) h1 | _ => .bad
    | .cmp o a b => (evE P n σ a h).bind fun x h1 => (evE P n σ b h1).bind fun y h2 => match cmpop o h2 x y with | some r => .ok (.bl r) h2 | none => .bad
    | .chain o o' a b c => (evE P n σ a h).bind fun x h1 => (evE P n σ b h1).bind fun y h2 => match cmpop o h2 x y with
      | some true => (evE P n σ c h2).bind fun z h3 => match cmpop o' h3 y z with | some r => .ok (.bl r) h3 | none => .bad
      | some false => .ok (.bl false) h2
      | none => .bad
    | .andV a b => (evE P n σ a h).bind fun x h1 => match x with | .bl true => evE P n σ b h1 | .bl false => .ok (.bl false) h1 | _ => .bad
    | .orV a b => (evE P n σ a h).bind fun x h1 => match x with | .bl true => .ok (.bl true) h1 | .bl false => evE P n σ b h1 | _ => .bad
    | .notV a => (evE P n σ a h).bind fun x h1 => match x with | .bl c => .ok (.bl (!c)) h1 | _ => .bad
    | .iff t a b => (evT P n σ t h).bind fun c h1 => if c = true then evE P n σ a h1 else evE P n σ b h1
    | .call f args => (evA P n σ args h).bind fun vs h1 => callD P n f vs h1
    | .make C args => match P.init C with
      | some f => (evA P n σ args h).bind fun vs h1 => (callD P n f (.ref h1.n :: vs) (h1.push (.ins C []))).bind fun v h2 => match v with | .non => .ok (.ref h1.n) h2 | _ => .bad
      | none => .bad
    | .meth C m f o args => (evE P n σ o h).bind fun x h1 => match x with
      | .ref i => match h1.get i with
        | some (.ins D fs) => if D = C ∧ (getF m fs).isNone then (evA P n σ args h1).bind fun vs h2 => callD P n f (.ref i :: vs) h2 else .bad
        | _ => .bad
      | _ => .bad
    | .prop C f o => (evE P n σ o h).bind fun x h1 => match x with
      | .ref i => match h1.get i with
        | some (.ins D fs) => if D = C then match callD P n f [.ref i] h1 with | .ok v h2 => .ok v h2 | _ => .bad else .bad
        | _ => .bad
      | _ => .bad
    | .fld f o => (evE P n σ o h).bind fun x h1 => match x with
      | .ref i => match h1.get i with
        | some (.ins C fs) => if hasF f (P.flds C) then match getF f fs with | some v => .ok v h1 | none => .bad else .bad
        | _ => .bad
      | _ => .bad
    | .bi b args => (evA P n σ args h).bind fun vs h1 => bfn b h1 vs
    | .bm m o args => (evE P n σ o h).bind fun x h1 => match x with
      | .ref i => match seqL h1 (.ref i) with
        | some _ => (evA P n σ args h1).bind fun vs h2 => bmf m h2 x vs
        | none => .bad
      | _ => .bad
    | .isi a c => (evE P n σ a h).bind fun x h1 => match excA h1 x with
      | some C => if P.isx C then match P.kit (.gl C) c with | some b => .ok (.bl b) h1 | none => .bad else .bad
      | none => match tyA h1 x with
        | some t => if plainT P t = true then match P.kit t c with | some b => .ok (.bl b) h1 | none => .bad else .bad
        | none => .bad
    | .ix a b => (evE P n σ a h).bind fun x h1 => (evE P n σ b h1).bind fun y h2 => match ixop h2 x y with | some v => .ok v h2 | none => .bad
    | .sl a lo hi => (evE P n σ a h).bind fun x h1 => (evO P n σ lo h1).bind fun l h2 => (evO P n σ hi h2).bind fun u h3 => slop h3 x l u
    | .rev a => (evE P n σ a h).bind fun x h1 => match seqL h1 x with | some xs => .ok (.ref h1.n) (h1.push (.lst xs.reverse)) | none => .bad
    | .lst es => (evA P n σ es h).bind fun vs h1 => if vs.length ≤ lid then .ok (.ref h1.n) (h1.push (.lst vs)) else .bad
    | .tup es => (evA P n σ es h).bind fun vs h1 => if vs.length ≤ lid then .ok (.ref h1.n) (h1.push (.tup vs)) else .bad
    | .dnew => .ok (.ref h.n) (h.push (.dK []))
    | .disp es => match evA P n σ es (h.push (.dK [])) with
      | .ok vs h1 => match putsA h.n vs h1 with | some h2 => .ok (.ref h.n) h2 | none => .bad
      | _ => .bad
    | .lc e own g i src cs => match evA P n σ src h with
      | .ok vs h1 => match wkO own g i h1 vs with
        | some (w, h2, u) => unlO u (lcL P n (wipeA σ own) e own g cs w h2.n 0 (h2.push (.lst [])))
        | none => .bad
      | _ => .bad
    | .mkx C e => (evE P n σ e h).bind fun x h1 => .ok (.ref (h1.n + 1)) ((h1.push (.tup [x])).push (.exc C (some h1.n) none))
    | .mks C f e => (evE P n σ e h).bind fun x h1 => match x with
      | .int i => if i.natAbs.log2 < 1920 ∧ (Str.ofString (toString i)).length ≤ 1000 then .ok (.ref (h1.n + 1)) ((h1.push (.xd [(f, .int i)])).push (.exc C none (some h1.n))) else .bad
      | _ => .bad
    | .xfld f o => (evE P n σ o h).bind fun x h1 => match x with
      | .ref i => match h1.get i with
        | some (.exc C _ (some d)) => if P.xf C f = true then match h1.get d with
          | some (.xd fs) => match getF f fs with | some v => .ok v h1 | none => .bad
          | _ => .bad else .bad
        | _ => .bad
      | _ => .bad
    | .strx o => (evE P n σ o h).bind fun x h1 => match x with
      | .ref i => match h1.get i with
        | some (.exc C (some t) _) => if P.sx C = true then match h1.get t with
          | some (.tup [.str m]) => .ok (.str m) h1
          | _ => .bad else .bad
        | _ => .bad
      | _ => .bad
    | .dc ke ve own g i src cs => match evA P n σ src h with
      | .ok vs h1 => match wkO own g i h1 vs with
        | some (w, h2, u) => unlO u (dcL P n (wipeA σ own) ke ve own g cs w h2.n 0 (h2.push (.dK [])))
        | none => .bad
      | _ => .bad
def evO (P : Prog) (n : Nat) (σ : SA) (es : List E) (h : AH) : Out (Option Int) := match n with
  | 0 => .bad
  | n + 1 => match es with
    | [] => .ok none h
    | e :: _ => (evE P n σ e h).bind fun x h1 => match x with | .int i => .ok (some i) h1 | _ => .bad
def evA (P : Prog) (n : Nat) (σ : SA) (es : List E) (h : AH) : Out (List AV) := match n with
  | 0 => .bad
  | n + 1 => match es with
    | [] => .ok [] h
    | e :: r => (evE P n σ e h).bind fun v h1 => (evA P n σ r h1).bind fun vs h2 => .ok (v :: vs) h2
def evT (P : Prog) (n : Nat) (σ : SA) (t : T) (h : AH) : Out Bool := match n with
  | 0 => .bad
  | n + 1 => match t with
    | .yes => .ok true h
    | .val a => (evE P n σ a h).bind fun x h1 => match x with | .bl c => .ok c h1 | _ => .bad
    | .tru a => (evE P n σ a h).bind fun x h1 => match x with
      | .non => .ok false h1
      | .bl b => .ok b h1
      | .int i => .ok (i != 0) h1
      | _ => match seqL h1 x with
        | some xs => .ok (!xs.isEmpty) h1
        | none => .bad
    | .and_ a b => (evT P n σ a h).bind fun c h1 => if c = true then evT P n σ b h1 else .ok false h1
    | .or_ a b => (evT P n σ a h).bind fun c h1 => if c = true then .ok true h1 else evT P n σ b h1
    | .not_ a => (evT P n σ a h).bind fun c h1 => .ok (!c) h1
/-- a list comprehension's loop: its list stands at d -/
def lcL (P : Prog) (n : Nat) (σ : SA) (e : E) (own : List Nat) (g : G) (cs : T) (w : Wk) (d k : Nat) (h : AH) : Out AV := match n with
  | 0 => .bad
  | n + 1 => match itm h k w with
    | none => .bad
    | some none => .ok (.ref d) h
    | some (some (x, h)) => match put h g σ x with
      | none => .bad
      | some σ' => match evT P n σ' cs h with
        | .ok false h1 => lcL P n σ e own g cs w d (k + 1) h1
        | .ok true h1 => match evE P n σ' e h1 with
          | .ok v h2 => match h2.get d with
            | some (.lst acc) => if acc.length < lid then lcL P n σ e own g cs w d (k + 1) (h2.set d (.lst (acc ++ [v]))) else .bad
            | _ => .bad
          | _ => .bad
        | _ => .bad
def dcL (P : Prog) (n : Nat) (σ : SA) (ke ve : E) (own : List Nat) (g : G) (cs : T) (w : Wk) (d k : Nat) (h : AH) : Out AV := match n with
  | 0 => .bad
  | n + 1 => match itm h k w with
    | none => .bad
    | some none => .ok (.ref d) h
    | some (some (x, h)) => match put h g σ x with
      | none => .bad
      | some σ' => match evT P n σ' cs h with
        | .ok false h1 => dcL P n σ ke ve own g cs w d (k + 1) h1
        | .ok true h1 => match evE P n σ' ke h1 with
          | .ok kv h2 => match evE P n σ' ve h2 with
            | .ok v h3 => match setD h3 d kv v with
              | some h4 => dcL P n σ ke ve own g cs w d (k + 1) h4
              | none => .bad
            | _ => .bad
          | _ => .bad
        | _ => .bad
def evS (P : Prog) (n : Nat) (σ : SA) (s : S) (h : AH) : SO := match n with
  | 0 => .bad
  | n + 1 => match s with
    | .asg i e => match evE P n σ e h with | .ok v h1 => .nx (setS σ i v) h1 | .exc c h1 => .exc c σ h1 | .bad => .bad
    | .asgT is e => match evE P n σ e h with
      | .ok v h1 => match put h1 (.tp is) σ v with | some σ' => .nx σ' h1 | none => .bad
      | .exc c h1 => .exc c σ h1
      | .bad => .bad
    | .par i j e1 e2 => match evA P n σ [e1, e2] h with
      | .ok [v, w] h1 => .nx (setS (setS σ i v) j w) h1
      | .exc c h1 => .exc c σ h1
      | _ => .bad
    | .sub o i e => match evE P n σ e h with
      | .ok v h1 => match evE P n σ o h1 with
        | .ok x h2 => match evE P n σ i h2 with
          | .ok y h3 => match setop h3 x y v with | some h4 => .nx σ h4 | none => .bad
          | .exc c h1 => .exc c σ h1
          | .bad => .bad
        | .exc c h1 => .exc c σ h1
        | .bad => .bad
      | .exc c h1 => .exc c σ h1
      | .bad => .bad
    | .fld C f o e => match evE P n σ e h with
      | .ok v h1 => match evE P n σ o h1 with
        | .ok (.ref i) h2 => match h2.get i with
          | some (.ins D fs) => if D = C ∧ hasF f (P.flds C) = true ∧ fs.length < 1000 then .nx σ (h2.set i (.ins C (putFA f v fs))) else .bad
          | _ => .bad
        | .exc c h1 => .exc c σ h1
        | _ => .bad
      | .exc c h1 => .exc c σ h1
      | .bad => .bad
    | .expr e => match evE P n σ e h with | .ok _ h1 => .nx σ h1 | .exc c h1 => .exc c σ h1 | .bad => .bad
    | .ret e => match evE P n σ e h with | .ok v h1 => .rt v h1 | .exc c h1 => .exc c σ h1 | .bad => .bad
    | .retN => .rt .non h
    | .ife t a b => match evT P n σ t h with
      | .ok true h1 => evSs P n σ a h1
      | .ok false h1 => evSs P n σ b h1
      | .exc c h1 => .exc c σ h1
      | .bad => .bad
    | .for_ g i src body => match evA P n σ src h with
      | .ok vs h1 => match wk i h1 vs with
        | some (w, h2, u) => unlS u (forL P n σ g w body 0 h2)
        | none => .bad
      | _ => .bad
    | .whil t body => whL P n σ t body h
    | .try_ c i body suite => match evSs P n σ body h with
      | .exc k σ' h1 => match P.exm k c with
        | some true => tryE i k h1.n (evSs P n (setS σ' i (.ref h1.n)) suite (h1.push .unk))
        | some false => .exc k σ' h1
        | none => .bad
      | o => o
    | .raise c => .exc c σ h
    | .pass => .nx σ h
    | .brk => .bk σ h
    | .cont => .ct σ h
    | .never => .bad
def evSs (P : Prog) (n : Nat) (σ : SA) (ss : List S) (h : AH) : SO := match n with
  | 0 => .bad
  | n + 1 => match ss with
    | [] => .nx σ h
    | s :: r => match evS P n σ s h with
      | .nx σ' h1 => evSs P n σ' r h1
      | o => o
def forL (P : Prog) (n : Nat) (σ : SA) (g : G) (w : Wk) (body : List S) (k : Nat) (h : AH) : SO := match n with
  | 0 => .bad
  | n + 1 => match itm h k w with
    | none => .bad
    | some none => .nx σ h
    | some (some (x, h)) => match put h g σ x with
      | none => .bad
      | some σ' => match evSs P n σ' body h with
        | .nx σ2 h2 => forL P n σ2 g w body (k + 1) h2
        | .ct σ2 h2 => forL P n σ2 g w body (k + 1) h2
        | .bk σ2 h2 => .nx σ2 h2
        | o => o
def whL (P : Prog) (n : Nat) (σ : SA) (t : T) (body : List S) (h : AH) : SO := match n with
  | 0 => .bad
  | n + 1 => match evT P n σ t h with
    | .ok false h1 => .nx σ h1
    | .ok true h1 => match evSs P n σ body h1 with
      | .nx σ2 h2 => whL P n σ2 t body h2
      | .ct σ2 h2 => whL P n σ2 t body h2
      | .bk σ2 h2 => .nx σ2 h2
      | o => o
    | .exc c h1 => .exc c σ h1
    | .bad => .bad
def callD (P : Prog) (n : Nat) (f : Nat) (vs : List AV) (h : AH) : Out AV := match n with
  | 0 => .bad
  | n + 1 => match P.defs[f]? with
    | none => .bad
    | some d => if vs.length = d.np ∧ d.np ≤ d.nn then match evSs P n (vs.map some ++ List.replicate (d.nn - vs.length) none) d.body h with
        | .nx _ h1 => .ok .non h1
        | .rt v h1 => .ok v h1
        | .exc c _ h1 => .exc c h1
        | _ => .bad
      else .bad
end
end J

set_option Elab.async false
set_option linter.all false
set_option maxRecDepth 100000
set_option maxHeartbeats 4000000
/-! the readings of the compact syntax; what a run asks of what follows -/
namespace J
open PySem L2

section
variable (P : Prog) (K : PySem.W.Frag) (gm : Nat → Addr)
abbrev Then' (α : Nat → Addr) (h : AH) (H : Hp) (Q : VK) (Ex : XK) : Out AV → Prop
  | .ok v h' => Then K gm α h H v h' Q
  | .exc c h' => ∀ α' H', Step K gm α h H α' h' H' → Ex (.ref (gm c)) none H'
  | .bad => False
/-- the promise of a def: what its run gives -/
def spI (f : Nat) : Sp := fun vs H Q Ex => ∃ n α h avs, Good K gm α h H ∧ (∀ v ∈ avs, v.lt h.n) ∧ vs = cvs gm α avs ∧ Then' K gm α h H Q Ex (callD P n f avs h)
def c0 (v : AV) : V := cv gm (fun _ => 0) v
abbrev EW0 : St → XK := fun _ _ _ _ => False
/-- a walk over a dict frees it behind -/
def dictE (i : Itk) (t : TE) : TE := if i.dict = true then tUnlE t else t
def dictS (i : Itk) (t : TS) : TS := if i.dict = true then tUnl t else t
def gNames : List Nat → TGs
  | [] => gNil
  | i :: r => gCons (gName i) (gNames r)
def rdG : G → TG
  | .nm i => gName i
  | .tp is => gTup K is.length (gNames is)
def tMakeS (C : Addr) (sp : Sp) (EW : St → XK) (t : TA) : TE := fun σ H Q => t σ H fun vs H1 => ∀ x dx, H1 x = none → H1 dx = none → dx ≠ x → sp (.ref x :: vs) (upd (upd H1 dx (.own x)) x (.ins C dx [])) (fun v H2 => v = .non ∧ Q (.ref x) H2) (EW σ)
def tMethS (C : Addr) (m : Str) (sp : Sp) (EW : St → XK) (ta : TE) (t : TA) : TE := fun σ H Q => ta σ H fun x H1 => ∃ a dx fs, x = .ref a ∧ H1 a = some (.ins C dx fs) ∧ fs.lookup m = none ∧ t σ H1 fun vs H2 => sp (x :: vs) H2 Q (EW σ)
def tPropS (C : Addr) (sp : Sp) (ta : TE) : TE := fun σ H Q => ta σ H fun x H1 => ∃ a dx fs, x = .ref a ∧ H1 a = some (.ins C dx fs) ∧ sp [.ref a] H1 Q fun _ _ _ => False
def tTruV (ta : TE) : TT := fun σ H Q => ta σ H fun x H' => ∃ k, TruV K x H' k ∧ Q k H'
mutual
def rdE (EW : St → XK) : E → TE
  | .k v => tC (c0 gm v)
  | .v i => tVar i
  | .bin o a b => tOp (rBin K o) (rdE EW a) (rdE EW b)
  | .neg a => tUn (rU fun i => .int (-i)) (rdE EW a)
  | .cmp o a b => tOp (rCmp K o) (rdE EW a) (rdE EW b)
  | .chain o o' a b c => tChain (rCmp K o) (rCmp K o') (rdE EW a) (rdE EW b) (rdE EW c)
  | .andV a b => tAndV (rdE EW a) (rdE EW b)
  | .orV a b => tOrV (rdE EW a) (rdE EW b)
  | .notV a => tNotV (rdE EW a)
  | .iff t a b => tIf (rdT EW t) (rdE EW a) (rdE EW b)
  | .call f args => tCallS (spI P K gm f) EW (rdA EW args)
  | .make C args => match P.init C with
    | some f => tMakeS (gm C) (spI P K gm f) EW (rdA EW args)
    | none => fun _ _ _ => False
  | .meth C m f o args => tMethS (gm C) m (spI P K gm f) EW (rdE EW o) (rdA EW args)
  | .prop C f o => tPropS (gm C) (spI P K gm f) (rdE EW o)
  | .fld f o => tFld K (rdE EW o) f
  | .bi b args => tCB (rBi K b) (rdA EW args)
  | .bm m o args => tBM K (bmT m) (rBm K m) (rdE EW o) (rdA EW args)
  | .isi a c => tCB (rIsJ K) (tCons (rdE EW a) (tCons (tC (c0 gm c)) tNil))
  | .ix a b => tOp (rIxA K) (rdE EW a) (rdE EW b)
  | .sl a lo hi => tSl (rSlA K) (rdE EW a) (rdO EW lo) (rdO EW hi)
  | .rev a => tRevL K (rdE EW a)
  | .lst es => tLst (rdA EW es)
  | .tup es => tTup (rdA EW es)
  | .dnew => tDNewK
  | .disp es => tDispJ (rdPs EW es)
  | .lc e own g i src cs => dictE i (tLc (rdI EW i src) (rdG K g) (rdT EW0 cs) (rdE EW0 e) own)
  | .mkx C e => tExcV (gm C) (rdE EW e)
  | .mks C f e => tSupV (gm C) f (rdE EW e)
  | .xfld f o => tXfV K f (rdE EW o)
  | .strx o => tCB (rStrX K) (tCons (rdE EW o) tNil)
  | .dc ke ve own g i src cs => dictE i (tDcJ (rdI EW i src) (rdG K g) (rdT EW0 cs) (rdE EW0 ke) (rdE EW0 ve) own)
def rdA (EW : St → XK) : List E → TA
  | [] => tNil
  | e :: r => tCons (rdE EW e) (rdA EW r)
def rdPs (EW : St → XK) : List E → List (TE × TE)
  | a :: b :: r => (rdE EW a, rdE EW b) :: rdPs EW r
  | _ => []
def rdO (EW : St → XK) : List E → TO
  | [] => tNoPart
  | e :: _ => tPart (rdE EW e)
def rdI (EW : St → XK) (i : Itk) : List E → TI
  | [] => fun _ _ _ => False
  | e :: r => match i with
    | .list => iList K (rdE EW e)
    | .tup => iTup K (rdE EW e)
    | .str => iStr (rdE EW e)
    | .keys => iKeys (tLk (rdE EW e))
    | .values => iVals (tLk (rdE EW e))
    | .enum => iEnum K (tCons (rdE EW e) (rdA EW r))
    | .items => iItemsJ (tLk (rdE EW e))
    | .poly => fun σ H R => iList K (rdE EW e) σ H R ∨ iTup K (rdE EW e) σ H R ∨ iStr (rdE EW e) σ H R ∨ iKeys (tLk (rdE EW e)) σ H R
    | .range1 => iRng1 (tCons (rdE EW e) (rdA EW r))
    | .range2 => iRng2 (tCons (rdE EW e) (rdA EW r))
    | _ => fun _ _ _ => False
def rdT (EW : St → XK) : T → TT
  | .yes => tYes
  | .val a => tTest (rdE EW a)
  | .tru a => tTruV K (rdE EW a)
  | .and_ a b => tAnd (rdT EW a) (rdT EW b)
  | .or_ a b => tOr (rdT EW a) (rdT EW b)
  | .not_ a => tNot (rdT EW a)
end
mutual
def rdS (EW : St → XK) : S → TS
  | .asg i e => tAsg (rdE P K gm EW e) (gName i)
  | .asgT is e => tAsg (rdE P K gm EW e) (rdG K (.tp is))
  | .par i j e1 e2 => tPar i j (rdA P K gm EW [e1, e2])
  | .sub o i e => tAsg (rdE P K gm EW e) (gSub (rdE P K gm EW o) (rdE P K gm EW i) rSetA)
  | .fld _ f o e => sFld K (rdE P K gm EW o) (rdE P K gm EW e) f
  | .expr e => tDrop (rdE P K gm EW e)
  | .ret e => tRet (rdE P K gm EW e)
  | .retN => tRetN
  | .ife t a b => tIfS (rdT P K gm EW t) (rdSs EW a) (rdSs EW b)
  | .for_ g i src body => dictS i (tFor (rdI P K gm EW i src) (rdG K g) (rdSs EW body))
  | .whil t body => tWhile (rdT P K gm EW t) (rdSs EW body)
  | .try_ c i body suite => fun D σ H => rdSs (fun σ' cls d H' => wKeep K (.ref (gm c)) i (rdSs EW0 suite) (fun cls d σ H => EW σ cls d H) D cls d σ' H') body D σ H
  | .raise c => fun _ σ H => EW σ (.ref (gm c)) none H
  | .pass => tNext
  | .brk => tBreak
  | .cont => tCont
  | .never => tNever
def rdSs (EW : St → XK) : List S → TS
  | [] => tNext
  | [s] => rdS EW s
  | s :: r => tSeq (rdS EW s) (rdSs EW r)
end
end

/-! ### slots -/
section
variable {gm : Nat → Addr} {α β : Nat → Addr} {h h' : AH} {H H' : Hp} {n m : Nat}
def cs (gm : Nat → Addr) (α : Nat → Addr) (σ : SA) : St := σ.map (Option.map (cv gm α))
def SLt (σ : SA) (n : Nat) : Prop := ∀ (i : Nat) (v : AV), σ[i]? = some (some v) → v.lt n
theorem SLt.mono {σ : SA} (h : n ≤ m) (s : SLt σ n) : SLt σ m := fun i v e => (s i v e).mono h
theorem cs_ext (e : ∀ i, i < n → β i = α i) {σ : SA} (s : SLt σ n) : cs gm β σ = cs gm α σ := by
  unfold cs
  apply List.ext_getElem?
  intro i
  rw [List.getElem?_map, List.getElem?_map]
  cases q : σ[i]? with
  | none => rfl
  | some o =>
    cases o with
    | none => rfl
    | some v => show some (some (cv gm β v)) = some (some (cv gm α v)); rw [cv_ext e (s i v q)]
theorem Step.cs {σ : SA} (st : Step K gm α h H β h' H') (s : SLt σ h.n) : J.cs gm β σ = J.cs gm α σ := cs_ext st.ext s
theorem Step.cv {v : AV} (st : Step K gm α h H β h' H') (s : v.lt h.n) : J.cv gm β v = J.cv gm α v := cv_ext st.ext s
theorem Step.cvs {vs : List AV} (st : Step K gm α h H β h' H') (s : ∀ v ∈ vs, v.lt h.n) : J.cvs gm β vs = J.cvs gm α vs := cvs_ext st.ext s
theorem cs_get {σ : SA} {i : Nat} {v : AV} (e : getS σ i = some v) : σ[i]? = some (some v) ∧ (cs gm α σ)[i]? = some (some (cv gm α v)) := by
  unfold getS at e
  split at e
  · rename_i w q
    cases e
    exact ⟨q, by unfold cs; rw [List.getElem?_map, q]; rfl⟩
  · cases e
theorem cs_set (σ : SA) (i : Nat) (v : AV) : cs gm α (setS σ i v) = (cs gm α σ).set i (some (cv gm α v)) := by
  unfold cs setS
  rw [List.map_set]
  rfl
theorem SLt.set {σ : SA} {i : Nat} {v : AV} (s : SLt σ n) (l : v.lt n) : SLt (setS σ i v) n := fun j w e => by
  unfold setS at e
  rw [List.getElem?_set] at e
  split at e
  · split at e
    · cases e; exact l
    · cases e
  · exact s j w e
theorem cs_wipe (σ : SA) : ∀ vs : List Nat, cs gm α (wipeA σ vs) = wipe (cs gm α σ) vs
  | [] => rfl
  | v :: vs => by
    show cs gm α ((wipeA σ vs).set v none) = (wipe (cs gm α σ) vs).set v none
    rw [← cs_wipe σ vs]
    unfold cs
    rw [List.map_set]
    rfl
theorem SLt.wipe {σ : SA} (s : SLt σ n) : ∀ vs : List Nat, SLt (wipeA σ vs) n
  | [] => s
  | v :: vs => fun j w e => by
    have e : ((wipeA σ vs).set v none)[j]? = some (some w) := e
    rw [List.getElem?_set] at e
    split at e
    · split at e <;> cases e
    · exact SLt.wipe s vs j w e
/-- a target's own reading -/
theorem setAll_ok : ∀ (is : List Nat) (vs : List AV) (σ σ' : SA) (Q : St → Hp → Prop), setAll σ is vs = some σ' → (∀ v ∈ vs, v.lt n) → SLt σ n → (SLt σ' n → Q (cs gm α σ') H) → gNames is (cvs gm α vs) (cs gm α σ) H Q
  | [], [], σ, σ', Q, e, _, s, q => by cases e; exact ⟨rfl, q s⟩
  | i :: is, v :: vs, σ, σ', Q, e, l, s, q => by
    refine ⟨_, _, rfl, ?_⟩
    show gNames is (cvs gm α vs) ((cs gm α σ).set i (some (cv gm α v))) H Q
    rw [← cs_set]
    exact setAll_ok is vs (setS σ i v) σ' Q e (fun w hw => l w (List.mem_cons_of_mem _ hw)) (s.set (l v List.mem_cons_self)) q
  | [], _ :: _, _, _, _, e, _, _, _ => by cases e
  | _ :: _, [], _, _, _, e, _, _, _ => by cases e
theorem put_ok {K : PySem.W.Frag} (g : Good K gm α h H) {t : G} {σ σ' : SA} {v : AV} {Q : St → Hp → Prop} (e : put h t σ v = some σ') (s : SLt σ h.n) (l : v.lt h.n) (q : SLt σ' h.n → Q (cs gm α σ') H) : rdG K t (cv gm α v) (cs gm α σ) H Q := by
  cases t with
  | nm i =>
    cases e
    show Q ((cs gm α σ).set i (some (cv gm α v))) H
    rw [← cs_set]
    exact q (s.set l)
  | tp is =>
    unfold put at e
    simp only at e
    split at e
    · rename_i vs et
      split at e
      · rename_i hl
        obtain ⟨l2, a, ea, sa⟩ := seqT_ok g et
        exact ⟨a, _, ea, .inl (.inl sa), by rw [cvs_length]; exact hl, setAll_ok is vs σ σ' Q e l2 s q⟩
      · cases e
    · cases e
theorem Then.step {Q : VK} {v : AV} {h1 : AH} {H1 : Hp} (st : Step K gm α h H β h1 H1) (q : Then K gm α h H v h' Q) : Then K gm β h1 H1 v h' Q := fun α' H' s l => q α' H' (st.trans s) l
end
end J

set_option Elab.async false
set_option linter.all false
set_option maxRecDepth 100000
set_option maxHeartbeats 8000000
/-! a run of the compact syntax is what its reading asks -/
namespace J
open PySem L2

def tv (gm : Nat → Addr) : AV → Value
  | .ty s => .type s
  | .gl C => .ref (gm C)
  | _ => .none
structure InsTy (K : PySem.W.Frag) (C : Addr) : Prop where
  cl : Cls K C
  ha : PySem.W.findIn K (.ref C) "__class__" = some (some (.builtin "object.__class__"))
  hn : PySem.W.specialIn K (.builtin "object.__class__") "__get__" = some (some (.builtin "getset_descriptor.__get__"))
  tk : PySem.W.takesIn K (.builtin "object.__class__") = some true
  hm : PySem.W.mroIn K C (.type "object") = some true
structure Facts (P : Prog) (K : PySem.W.Frag) (gm : Nat → Addr) : Prop where
  fld : ∀ C f, hasF f (P.flds C) = true → Cls K (gm C) ∧ NoAttr K (gm C) f
  kit : ∀ t c b, P.kit t c = some b → ClsV (c0 gm c) (tv gm c) ∧ PySem.W.kitOne K (tv gm t) (tv gm c) = some b
  ins : ∀ C c b, P.isx C = false → P.kit (.gl C) c = some b → InsTy K (gm C)
  isx : ∀ C, P.isx C = true → ExcC K (gm C)
  xf : ∀ C f, P.xf C f = true → XfA K (gm C) f
  sx : ∀ C, P.sx C = true → StrC K (gm C)
  exm : ∀ c d b, P.exm c d = some b → PySem.W.exmOne K (.ref (gm c)) (.ref (gm d)) = some b

section
variable {P : Prog} {K : PySem.W.Frag} {gm : Nat → Addr} {α β : Nat → Addr} {h h' h1 : AH} {H H' H1 : Hp} {n m : Nat}
abbrev ThenA (K : PySem.W.Frag) (gm : Nat → Addr) (α : Nat → Addr) (h : AH) (H : Hp) (Q : List V → Hp → Prop) (Ex : XK) : Out (List AV) → Prop
  | .ok vs h' => ∀ α' H', Step K gm α h H α' h' H' → (∀ v ∈ vs, v.lt h'.n) → Q (cvs gm α' vs) H'
  | .exc c h' => ∀ α' H', Step K gm α h H α' h' H' → Ex (.ref (gm c)) none H'
  | .bad => False
abbrev ThenT (K : PySem.W.Frag) (gm : Nat → Addr) (α : Nat → Addr) (h : AH) (H : Hp) (Q : Bool → Hp → Prop) (Ex : XK) : Out Bool → Prop
  | .ok b h' => ∀ α' H', Step K gm α h H α' h' H' → Q b H'
  | .exc c h' => ∀ α' H', Step K gm α h H α' h' H' → Ex (.ref (gm c)) none H'
  | .bad => False
abbrev ThenS (K : PySem.W.Frag) (gm : Nat → Addr) (α : Nat → Addr) (h : AH) (H : Hp) (D : Ends) (EW : St → XK) : SO → Prop
  | .nx σ h' => ∀ α' H', Step K gm α h H α' h' H' → SLt σ h'.n → D.nx (cs gm α' σ) H'
  | .bk σ h' => ∀ α' H', Step K gm α h H α' h' H' → SLt σ h'.n → D.bk (cs gm α' σ) H'
  | .ct σ h' => ∀ α' H', Step K gm α h H α' h' H' → SLt σ h'.n → D.ct (cs gm α' σ) H'
  | .rt v h' => ∀ α' H', Step K gm α h H α' h' H' → v.lt h'.n → D.rt (cv gm α' v) H'
  | .exc c σ h' => ∀ α' H', Step K gm α h H α' h' H' → SLt σ h'.n → EW (cs gm α' σ) (.ref (gm c)) none H'
  | .bad => False
abbrev ThenO (K : PySem.W.Frag) (gm : Nat → Addr) (α : Nat → Addr) (h : AH) (H : Hp) (Q : Option Int → Hp → Prop) (Ex : XK) : Out (Option Int) → Prop
  | .ok b h' => ∀ α' H', Step K gm α h H α' h' H' → Q b H'
  | .exc c h' => ∀ α' H', Step K gm α h H α' h' H' → Ex (.ref (gm c)) none H'
  | .bad => False
/-- what stands behind a run, over a step -/
structure PostOk (K : PySem.W.Frag) (gm : Nat → Addr) {B : Type} (Ex : XK) (T : (Nat → Addr) → AH → Hp → Out B → Prop) : Prop where
  step : ∀ {α h H β h1 H1 o}, Step K gm α h H β h1 H1 → T α h H o → T β h1 H1 o
  exc : ∀ {α h H c h'}, T α h H (.exc c h') → ∀ α' H', Step K gm α h H α' h' H' → Ex (.ref (gm c)) none H'
  bad : ∀ {α h H}, T α h H .bad → False
theorem postE {Q : VK} {Ex : XK} : PostOk K gm Ex fun α h H o => Then' K gm α h H Q Ex o :=
  ⟨fun {α h H β h1 H1 o} st t => match o, t with
    | .ok v h', t => fun α' H' s l => t α' H' (st.trans s) l
    | .exc c h', t => fun α' H' s => t α' H' (st.trans s), fun t => t, fun t => t⟩
theorem postA {Q : List V → Hp → Prop} {Ex : XK} : PostOk K gm Ex fun α h H o => ThenA K gm α h H Q Ex o :=
  ⟨fun {α h H β h1 H1 o} st t => match o, t with
    | .ok v h', t => fun α' H' s l => t α' H' (st.trans s) l
    | .exc c h', t => fun α' H' s => t α' H' (st.trans s), fun t => t, fun t => t⟩
theorem postT {Q : Bool → Hp → Prop} {Ex : XK} : PostOk K gm Ex fun α h H o => ThenT K gm α h H Q Ex o :=
  ⟨fun {α h H β h1 H1 o} st t => match o, t with
    | .ok v h', t => fun α' H' s => t α' H' (st.trans s)
    | .exc c h', t => fun α' H' s => t α' H' (st.trans s), fun t => t, fun t => t⟩
theorem postO {Q : Option Int → Hp → Prop} {Ex : XK} : PostOk K gm Ex fun α h H o => ThenO K gm α h H Q Ex o :=
  ⟨fun {α h H β h1 H1 o} st t => match o, t with
    | .ok v h', t => fun α' H' s => t α' H' (st.trans s)
    | .exc c h', t => fun α' H' s => t α' H' (st.trans s), fun t => t, fun t => t⟩
theorem postS {D : Ends} {EW : St → XK} {o : SO} (st : Step K gm α h H β h1 H1) (t : ThenS K gm α h H D EW o) : ThenS K gm β h1 H1 D EW o := match o, t with
  | .nx σ h', t => fun α' H' s l => t α' H' (st.trans s) l
  | .bk σ h', t => fun α' H' s l => t α' H' (st.trans s) l
  | .ct σ h', t => fun α' H' s l => t α' H' (st.trans s) l
  | .rt σ h', t => fun α' H' s l => t α' H' (st.trans s) l
  | .exc c σ h', t => fun α' H' s l => t α' H' (st.trans s) l

/-- runs up to a fuel are followed -/
structure Sd (P : Prog) (K : PySem.W.Frag) (gm : Nat → Addr) (n : Nat) : Prop where
  e : ∀ {EW : St → XK} {σ : SA} {e : E} {α : Nat → Addr} {h : AH} {H : Hp} {Q : VK}, Good K gm α h H → SLt σ h.n → Then' K gm α h H Q (EW (cs gm α σ)) (evE P n σ e h) → rdE P K gm EW e (cs gm α σ) H Q
  a : ∀ {EW : St → XK} {σ : SA} {e : List E} {α : Nat → Addr} {h : AH} {H : Hp} {Q : List V → Hp → Prop}, Good K gm α h H → SLt σ h.n → ThenA K gm α h H Q (EW (cs gm α σ)) (evA P n σ e h) → rdA P K gm EW e (cs gm α σ) H Q
  t : ∀ {EW : St → XK} {σ : SA} {t : T} {α : Nat → Addr} {h : AH} {H : Hp} {Q : Bool → Hp → Prop}, Good K gm α h H → SLt σ h.n → ThenT K gm α h H Q (EW (cs gm α σ)) (evT P n σ t h) → rdT P K gm EW t (cs gm α σ) H Q
  o : ∀ {EW : St → XK} {σ : SA} {e : List E} {α : Nat → Addr} {h : AH} {H : Hp} {Q : Option Int → Hp → Prop}, Good K gm α h H → SLt σ h.n → ThenO K gm α h H Q (EW (cs gm α σ)) (evO P n σ e h) → rdO P K gm EW e (cs gm α σ) H Q
  s : ∀ {EW : St → XK} {σ : SA} {s : S} {α : Nat → Addr} {h : AH} {H : Hp} {D : Ends}, Good K gm α h H → SLt σ h.n → ThenS K gm α h H D EW (evS P n σ s h) → rdS P K gm EW s D (cs gm α σ) H
  ss : ∀ {EW : St → XK} {σ : SA} {s : List S} {α : Nat → Addr} {h : AH} {H : Hp} {D : Ends}, Good K gm α h H → SLt σ h.n → ThenS K gm α h H D EW (evSs P n σ s h) → rdSs P K gm EW s D (cs gm α σ) H

section
variable {EW : St → XK} {σ : SA} {B : Type} {σc : St} {T' : (Nat → Addr) → AH → Hp → Out B → Prop}
/-- first one thing, then what hangs on it -/
theorem Sd.be (d : Sd P K gm n) (O : PostOk K gm (EW σc) T') {a : E} {f : AV → AH → Out B} {R : VK} (g : Good K gm α h H) (s : SLt σ h.n) (ec : cs gm α σ = σc) (p : T' α h H ((evE P n σ a h).bind f))
    (k : ∀ x h1 α1 H1, Step K gm α h H α1 h1 H1 → Good K gm α1 h1 H1 → x.lt h1.n → SLt σ h1.n → cs gm α1 σ = σc → T' α1 h1 H1 (f x h1) → R (cv gm α1 x) H1) : rdE P K gm EW a σc H R := by
  subst ec
  refine d.e g s ?_
  cases q : evE P n σ a h with
  | ok x h1 =>
    rw [q] at p
    exact fun α1 H1 st l => k x h1 α1 H1 st st.good l (s.mono st.le) (st.cs s) (O.step st p)
  | exc c h1 =>
    rw [q] at p
    exact O.exc p
  | bad =>
    rw [q] at p
    exact O.bad p
theorem Sd.ba (d : Sd P K gm n) (O : PostOk K gm (EW σc) T') {a : List E} {f : List AV → AH → Out B} {R : List V → Hp → Prop} (g : Good K gm α h H) (s : SLt σ h.n) (ec : cs gm α σ = σc) (p : T' α h H ((evA P n σ a h).bind f))
    (k : ∀ x h1 α1 H1, Step K gm α h H α1 h1 H1 → Good K gm α1 h1 H1 → (∀ v ∈ x, AV.lt h1.n v) → SLt σ h1.n → cs gm α1 σ = σc → T' α1 h1 H1 (f x h1) → evA P n σ a h = .ok x h1 → R (cvs gm α1 x) H1) : rdA P K gm EW a σc H R := by
  subst ec
  refine d.a g s ?_
  cases q : evA P n σ a h with
  | ok x h1 =>
    rw [q] at p
    exact fun α1 H1 st l => k x h1 α1 H1 st st.good l (s.mono st.le) (st.cs s) (O.step st p) q
  | exc c h1 =>
    rw [q] at p
    exact O.exc p
  | bad =>
    rw [q] at p
    exact O.bad p
theorem Sd.bt (d : Sd P K gm n) (O : PostOk K gm (EW σc) T') {a : T} {f : Bool → AH → Out B} {R : Bool → Hp → Prop} (g : Good K gm α h H) (s : SLt σ h.n) (ec : cs gm α σ = σc) (p : T' α h H ((evT P n σ a h).bind f))
    (k : ∀ x h1 α1 H1, Step K gm α h H α1 h1 H1 → Good K gm α1 h1 H1 → SLt σ h1.n → cs gm α1 σ = σc → T' α1 h1 H1 (f x h1) → R x H1) : rdT P K gm EW a σc H R := by
  subst ec
  refine d.t g s ?_
  cases q : evT P n σ a h with
  | ok x h1 =>
    rw [q] at p
    exact fun α1 H1 st => k x h1 α1 H1 st st.good (s.mono st.le) (st.cs s) (O.step st p)
  | exc c h1 =>
    rw [q] at p
    exact O.exc p
  | bad =>
    rw [q] at p
    exact O.bad p
theorem Sd.bo (d : Sd P K gm n) (O : PostOk K gm (EW σc) T') {a : List E} {f : Option Int → AH → Out B} {R : Option Int → Hp → Prop} (g : Good K gm α h H) (s : SLt σ h.n) (ec : cs gm α σ = σc) (p : T' α h H ((evO P n σ a h).bind f))
    (k : ∀ x h1 α1 H1, Step K gm α h H α1 h1 H1 → Good K gm α1 h1 H1 → SLt σ h1.n → cs gm α1 σ = σc → T' α1 h1 H1 (f x h1) → R x H1) : rdO P K gm EW a σc H R := by
  subst ec
  refine d.o g s ?_
  cases q : evO P n σ a h with
  | ok x h1 =>
    rw [q] at p
    exact fun α1 H1 st => k x h1 α1 H1 st st.good (s.mono st.le) (st.cs s) (O.step st p)
  | exc c h1 =>
    rw [q] at p
    exact O.exc p
  | bad =>
    rw [q] at p
    exact O.bad p
end
theorem evA_len : ∀ (n : Nat) (σ : SA) (es : List E) (h : AH) (vs : List AV) (h1 : AH), evA P n σ es h = .ok vs h1 → vs.length = es.length
  | 0, _, _, _, _, _, e => by unfold evA at e; cases e
  | n + 1, σ, [], h, vs, h1, e => by unfold evA at e; cases e; rfl
  | n + 1, σ, a :: r, h, vs, h1, e => by
    unfold evA at e
    cases q : evE P n σ a h with
    | bad => simp only [q] at e; cases e
    | exc c h2 => simp only [q] at e; cases e
    | ok v h2 =>
      simp only [q] at e
      cases q2 : evA P n σ r h2 with
      | bad => simp only [Out.bind, q2] at e; cases e
      | exc c h3 => simp only [Out.bind, q2] at e; cases e
      | ok ws h3 =>
        simp only [Out.bind, q2] at e
        cases e
        show ws.length + 1 = r.length + 1
        rw [evA_len n σ r h2 ws _ q2]

/-! ### what is walked -/
abbrev mv (gm : Nat → Addr) (α : Nat → Addr) {κ : Type} (kvs : List (κ × AV)) : List (κ × V) := kvs.map fun p => (p.1, cv gm α p.2)
/-- the walk that the reading has -/
def IsIt (K : PySem.W.Frag) (gm : Nat → Addr) (α : Nat → Addr) (h : AH) (H : Hp) (J : It) : Wk → Prop
  | .lst r => r < h.n ∧ J = Itl K (α r)
  | .tup r => r < h.n ∧ J = Itt K (α r)
  | .rng lo n => J = Itr lo n
  | .en r => r < h.n ∧ J = Ite K (α r)
  | .str x => J = Its x
  | .dk r => r < h.n ∧ ∃ o kvs, h.get r = some (.fK kvs) ∧ H (α r) = some (.frz o (.dK (mv gm α kvs))) ∧ J = L2.Itk (α r) o (mv gm α kvs)
  | .dt r => r < h.n ∧ ∃ o kvs, h.get r = some (.fT kvs) ∧ H (α r) = some (.frz o (.dT (mv gm α kvs))) ∧ J = Itkt (α r) o (mv gm α kvs)
  | .vk r => r < h.n ∧ ∃ o kvs, h.get r = some (.fK kvs) ∧ H (α r) = some (.frz o (.dK (mv gm α kvs))) ∧ J = Itd (α r) o (mv gm α kvs)
  | .ik r => r < h.n ∧ ∃ o kvs, h.get r = some (.fK kvs) ∧ H (α r) = some (.frz o (.dK (mv gm α kvs))) ∧ J = Iti (α r) o (mv gm α kvs)
  | .it r => r < h.n ∧ ∃ o kvs, h.get r = some (.fT kvs) ∧ H (α r) = some (.frz o (.dT (mv gm α kvs))) ∧ J = Itit (α r) o (mv gm α kvs)
theorem IsIt.step {J : It} (g : Good K gm α h H) (s : Step K gm α h H β h' H') : ∀ {w : Wk}, IsIt K gm α h H J w → IsIt K gm β h' H' J w
  | .lst r, ⟨l, e⟩ => ⟨Nat.lt_of_lt_of_le l s.le, by rw [s.ext r l]; exact e⟩
  | .tup r, ⟨l, e⟩ => ⟨Nat.lt_of_lt_of_le l s.le, by rw [s.ext r l]; exact e⟩
  | .rng _ _, e => e
  | .en r, ⟨l, e⟩ => ⟨Nat.lt_of_lt_of_le l s.le, by rw [s.ext r l]; exact e⟩
  | .str _, e => e
  | .dk r, ⟨l, o, kvs, e1, e2, e3⟩ => by
    obtain ⟨k1, k2⟩ := s.fro r _ l e1 rfl
    have q : mv gm β kvs = mv gm α kvs := kvs_ext s.ext (g.at_ r _ e1).2.1
    exact ⟨Nat.lt_of_lt_of_le l s.le, o, kvs, k1, by rw [s.ext r l, k2, q]; exact e2, by rw [s.ext r l, q]; exact e3⟩
  | .dt r, ⟨l, o, kvs, e1, e2, e3⟩ => by
    obtain ⟨k1, k2⟩ := s.fro r _ l e1 rfl
    have q : mv gm β kvs = mv gm α kvs := kvs_ext s.ext (g.at_ r _ e1).2.1
    exact ⟨Nat.lt_of_lt_of_le l s.le, o, kvs, k1, by rw [s.ext r l, k2, q]; exact e2, by rw [s.ext r l, q]; exact e3⟩
  | .vk r, ⟨l, o, kvs, e1, e2, e3⟩ => by
    obtain ⟨k1, k2⟩ := s.fro r _ l e1 rfl
    have q : mv gm β kvs = mv gm α kvs := kvs_ext s.ext (g.at_ r _ e1).2.1
    exact ⟨Nat.lt_of_lt_of_le l s.le, o, kvs, k1, by rw [s.ext r l, k2, q]; exact e2, by rw [s.ext r l, q]; exact e3⟩
  | .ik r, ⟨l, o, kvs, e1, e2, e3⟩ => by
    obtain ⟨k1, k2⟩ := s.fro r _ l e1 rfl
    have q : mv gm β kvs = mv gm α kvs := kvs_ext s.ext (g.at_ r _ e1).2.1
    exact ⟨Nat.lt_of_lt_of_le l s.le, o, kvs, k1, by rw [s.ext r l, k2, q]; exact e2, by rw [s.ext r l, q]; exact e3⟩
  | .it r, ⟨l, o, kvs, e1, e2, e3⟩ => by
    obtain ⟨k1, k2⟩ := s.fro r _ l e1 rfl
    have q : mv gm β kvs = mv gm α kvs := kvs_ext s.ext (g.at_ r _ e1).2.1
    exact ⟨Nat.lt_of_lt_of_le l s.le, o, kvs, k1, by rw [s.ext r l, k2, q]; exact e2, by rw [s.ext r l, q]; exact e3⟩
theorem mv_len {κ : Type} (kvs : List (κ × AV)) : (mv gm α kvs).length = kvs.length := List.length_map _
theorem mv_get {κ : Type} {kvs : List (κ × AV)} {k : Nat} {p : κ × AV} (e : kvs[k]? = some p) : (mv gm α kvs)[k]? = some (p.1, cv gm α p.2) := by
  rw [List.getElem?_map, e]
  rfl
theorem mv_none {κ : Type} {kvs : List (κ × AV)} {k : Nat} {β : Type} {f : κ × AV → β} (e : some (kvs[k]?.map f) = some none) : kvs.length ≤ k := by
  injection e with e
  rw [Option.map_eq_none_iff] at e
  exact List.getElem?_eq_none_iff.mp e
theorem keyV_ok (k : Key) : cv gm α (keyV k) = kV k := by cases k <;> rfl
theorem keyV_lt (k : Key) : (keyV k).lt n := by cases k <;> trivial
theorem keyVs_ok (ks : List Key) : cvs gm α (ks.map keyV) = ks.map kV := by
  unfold cvs
  rw [List.map_map]
  exact List.map_congr_left fun k _ => keyV_ok k
theorem it_stop {J : It} (g : Good K gm α h H) {k : Nat} {w : Wk} (j : IsIt K gm α h H J w) (e : itm h k w = some none) : J.stop k H := by
  cases w with
  | lst r =>
    obtain ⟨_, j⟩ := j
    subst j
    obtain ⟨xs, e1, e2⟩ := Option.map_eq_some_iff.mp (show (seqL h (.ref r)).map (fun xs => xs[k]?.map fun x => (x, h)) = some none from e)
    obtain ⟨_, a, ea, sa⟩ := seqL_ok (K := K) g e1
    cases ea
    exact ⟨_, sa, by rw [cvs_length]; exact List.getElem?_eq_none_iff.mp (Option.map_eq_none_iff.mp e2)⟩
  | tup r =>
    obtain ⟨_, j⟩ := j
    subst j
    obtain ⟨xs, e1, e2⟩ := Option.map_eq_some_iff.mp (show (seqT h (.ref r)).map (fun xs => xs[k]?.map fun x => (x, h)) = some none from e)
    obtain ⟨_, a, ea, sa⟩ := seqT_ok g e1
    cases ea
    exact ⟨_, .inl (.inl sa), by rw [cvs_length]; exact List.getElem?_eq_none_iff.mp (Option.map_eq_none_iff.mp e2)⟩
  | en r =>
    obtain ⟨_, j⟩ := j
    subst j
    obtain ⟨xs, e1, e2⟩ := Option.map_eq_some_iff.mp (show (seqL h (.ref r)).map (fun xs => xs[k]?.map fun x => (AV.ref h.n, h.push (.tup [.int (k : Nat), x]))) = some none from e)
    obtain ⟨_, a, ea, sa⟩ := seqL_ok (K := K) g e1
    cases ea
    exact ⟨_, sa, by rw [cvs_length]; exact List.getElem?_eq_none_iff.mp (Option.map_eq_none_iff.mp e2)⟩
  | rng lo n =>
    obtain rfl : J = _ := j
    have e : (some (if k < n then some (AV.int (lo + k), h) else none) : Option (Option (AV × AH))) = some none := e
    by_cases c : k < n
    · rw [if_pos c] at e; cases e
    · exact Nat.le_of_not_lt c
  | str x =>
    obtain rfl : J = _ := j
    have e : (some (x.cps.toList[k]?.map fun c => (AV.str ⟨#[c]⟩, h)) : Option (Option (AV × AH))) = some none := e
    injection e with e
    rw [Option.map_eq_none_iff] at e
    show x.cps.size ≤ k
    have := List.getElem?_eq_none_iff.mp e
    simpa using this
  | dk r =>
    obtain ⟨_, o, kvs, e1, e2, j⟩ := j
    subst j
    unfold itm at e
    simp only [e1] at e
    exact ⟨e2, by rw [mv_len]; exact mv_none e⟩
  | dt r =>
    obtain ⟨_, o, kvs, e1, e2, j⟩ := j
    subst j
    unfold itm at e
    simp only [e1] at e
    exact ⟨e2, by rw [mv_len]; exact mv_none e⟩
  | vk r =>
    obtain ⟨_, o, kvs, e1, e2, j⟩ := j
    subst j
    unfold itm at e
    simp only [e1] at e
    exact ⟨e2, by rw [mv_len]; exact mv_none e⟩
  | ik r =>
    obtain ⟨_, o, kvs, e1, e2, j⟩ := j
    subst j
    unfold itm at e
    simp only [e1] at e
    exact ⟨e2, by rw [mv_len]; exact mv_none e⟩
  | it r =>
    obtain ⟨_, o, kvs, e1, e2, j⟩ := j
    subst j
    unfold itm at e
    simp only [e1] at e
    exact ⟨e2, by rw [mv_len]; exact mv_none e⟩
theorem lt_of_get {κ : Type} {xs : List κ} {k : Nat} {x : κ} (e : xs[k]? = some x) : k < xs.length := (List.getElem?_eq_some_iff.mp e).1
/-- the turn's item, and the heap behind it -/
theorem it_go {J : It} (g : Good K gm α h H) {k : Nat} {w : Wk} {x : AV} {hy : AH} (j : IsIt K gm α h H J w) (e : itm h k w = some (some (x, hy))) :
    J.go k H ∧ ∀ v H', J.yld k H v H' → ∃ αy, Step K gm α h H αy hy H' ∧ v = cv gm αy x ∧ x.lt hy.n := by
  cases w with
  | lst r =>
    obtain ⟨_, j⟩ := j
    subst j
    obtain ⟨xs, e1, e2⟩ := Option.map_eq_some_iff.mp (show (seqL h (.ref r)).map (fun xs => xs[k]?.map fun x => (x, h)) = some (some (x, hy)) from e)
    obtain ⟨y, e3, e4⟩ := Option.map_eq_some_iff.mp e2
    cases e4
    obtain ⟨l, a, ea, sa⟩ := seqL_ok (K := K) g e1
    cases ea
    have e3' : (cvs gm α xs)[k]? = some (cv gm α x) := by unfold cvs; rw [List.getElem?_map, e3]; rfl
    refine ⟨⟨_, _, sa, e3'⟩, fun v H' y => ?_⟩
    obtain ⟨y1, y2⟩ := y
    have y2 := y2 _ sa
    rw [e3'] at y2
    rw [y1]
    exact ⟨α, Step.refl g, (Option.some.inj y2).symm, l x (List.mem_of_getElem? e3)⟩
  | tup r =>
    obtain ⟨_, j⟩ := j
    subst j
    obtain ⟨xs, e1, e2⟩ := Option.map_eq_some_iff.mp (show (seqT h (.ref r)).map (fun xs => xs[k]?.map fun x => (x, h)) = some (some (x, hy)) from e)
    obtain ⟨y, e3, e4⟩ := Option.map_eq_some_iff.mp e2
    cases e4
    obtain ⟨l, a, ea, sa⟩ := seqT_ok g e1
    cases ea
    have e3' : (cvs gm α xs)[k]? = some (cv gm α x) := by unfold cvs; rw [List.getElem?_map, e3]; rfl
    have sa' : SqT K H (α r) (cvs gm α xs) := .inl (.inl sa)
    refine ⟨⟨_, _, sa', e3'⟩, fun v H' y => ?_⟩
    obtain ⟨y1, y2⟩ := y
    have y2 := y2 _ sa'
    rw [e3'] at y2
    rw [y1]
    exact ⟨α, Step.refl g, (Option.some.inj y2).symm, l x (List.mem_of_getElem? e3)⟩
  | en r =>
    obtain ⟨_, j⟩ := j
    subst j
    obtain ⟨xs, e1, e2⟩ := Option.map_eq_some_iff.mp (show (seqL h (.ref r)).map (fun xs => xs[k]?.map fun x => (AV.ref h.n, h.push (.tup [.int (k : Nat), x]))) = some (some (x, hy)) from e)
    obtain ⟨y, e3, e4⟩ := Option.map_eq_some_iff.mp e2
    cases e4
    obtain ⟨l, a, ea, sa⟩ := seqL_ok (K := K) g e1
    cases ea
    have ly : y.lt h.n := l y (List.mem_of_getElem? e3)
    have e5 : (cvs gm α xs)[k]? = some (cv gm α y) := by unfold cvs; rw [List.getElem?_map, e3]; rfl
    refine ⟨⟨_, _, sa, e5⟩, fun v H' yl => ?_⟩
    obtain ⟨T, z, y1, y2, y3, y4⟩ := yl
    have y4 := y4 _ sa
    rw [e5] at y4
    cases y4
    rw [y3]
    refine ⟨_, g.alloc (p := T) (o := .tup [.int (k : Nat), y]) (ho := .tup [.int (k : Nat), cv gm α y]) y2 (fun v hv => ?_) upd_same, ?_, Nat.lt_succ_self _⟩
    · rcases List.mem_cons.mp hv with m | m
      · rw [m]; trivial
      · rw [List.mem_singleton.mp m]; exact ly
    · rw [y1]
      show V.ref T = V.ref (bump α h.n T h.n)
      rw [bump_same]
  | rng lo n =>
    obtain rfl : J = _ := j
    have e : (some (if k < n then some (AV.int (lo + k), h) else none) : Option (Option (AV × AH))) = some (some (x, hy)) := e
    by_cases c : k < n
    · rw [if_pos c] at e; cases e
      exact ⟨c, fun v H' y => by rw [y.1]; exact ⟨α, Step.refl g, y.2, trivial⟩⟩
    · rw [if_neg c] at e; cases e
  | str z =>
    obtain rfl : J = _ := j
    have e : (some (z.cps.toList[k]?.map fun c => (AV.str ⟨#[c]⟩, h)) : Option (Option (AV × AH))) = some (some (x, hy)) := e
    injection e with e
    obtain ⟨c, e1, e2⟩ := Option.map_eq_some_iff.mp e
    cases e2
    have e3 : z.cps[k]? = some c := by rw [← e1]; simp
    refine ⟨(Array.getElem?_eq_some_iff.mp e3).1, fun v H' y => ?_⟩
    obtain ⟨y1, c', y2, y3⟩ := y
    rw [e3] at y2
    cases y2
    rw [y1]
    exact ⟨α, Step.refl g, y3, trivial⟩
  | dk r =>
    obtain ⟨_, o, kvs, e1, e2, j⟩ := j
    subst j
    unfold itm at e
    simp only [e1] at e
    injection e with e
    obtain ⟨p, e3, e4⟩ := Option.map_eq_some_iff.mp e
    cases e4
    refine ⟨⟨e2, by rw [mv_len]; exact lt_of_get e3⟩, fun v H' y => ?_⟩
    obtain ⟨y1, k', v', y2, y3⟩ := y
    rw [mv_get e3] at y2
    cases y2
    rw [y1]
    exact ⟨α, Step.refl g, y3.trans (keyV_ok _).symm, keyV_lt _⟩
  | vk r =>
    obtain ⟨_, o, kvs, e1, e2, j⟩ := j
    subst j
    unfold itm at e
    simp only [e1] at e
    injection e with e
    obtain ⟨p, e3, e4⟩ := Option.map_eq_some_iff.mp e
    cases e4
    have lp := (g.at_ r _ e1).2.1 p (List.mem_of_getElem? e3)
    refine ⟨⟨e2, by rw [mv_len]; exact lt_of_get e3⟩, fun v H' y => ?_⟩
    obtain ⟨y1, k', y2⟩ := y
    rw [mv_get e3] at y2
    cases y2
    rw [y1]
    exact ⟨α, Step.refl g, rfl, lp⟩
  | dt r =>
    obtain ⟨_, o, kvs, e1, e2, j⟩ := j
    subst j
    unfold itm at e
    simp only [e1] at e
    injection e with e
    obtain ⟨p, e3, e4⟩ := Option.map_eq_some_iff.mp e
    cases e4
    refine ⟨⟨e2, by rw [mv_len]; exact lt_of_get e3⟩, fun v H' y => ?_⟩
    obtain ⟨y1, k', v', q, y2, y3, y4⟩ := y
    rw [mv_get e3] at y2
    cases y2
    rw [y1]
    refine ⟨_, g.alias (p := q) (o := .tup (p.1.map keyV)) (fun v hv => ?_) ?_, ?_, Nat.lt_succ_self _⟩
    · obtain ⟨k0, _, e0⟩ := List.mem_map.mp hv
      rw [← e0]; exact keyV_lt _
    · show H q = _
      rw [keyVs_ok]; exact y4
    · rw [y3]
      show V.ref q = V.ref (bump α h.n q h.n)
      rw [bump_same]
  | ik r =>
    obtain ⟨_, o, kvs, e1, e2, j⟩ := j
    subst j
    unfold itm at e
    simp only [e1] at e
    injection e with e
    obtain ⟨p, e3, e4⟩ := Option.map_eq_some_iff.mp e
    cases e4
    refine ⟨⟨e2, by rw [mv_len]; exact lt_of_get e3⟩, fun v H' y => ?_⟩
    obtain ⟨T, k', v', y2, y3, y4, y5⟩ := y
    rw [mv_get e3] at y2
    cases y2
    rw [y5]
    have lp := (g.at_ r _ e1).2.1 p (List.mem_of_getElem? e3)
    refine ⟨_, g.alloc (p := T) (o := .tup [keyV p.1, p.2]) (ho := .tup [kV p.1, cv gm α p.2]) y4 (fun v hv => ?_) ?_, ?_, Nat.lt_succ_self _⟩
    · rcases List.mem_cons.mp hv with m | m
      · rw [m]; exact keyV_lt _
      · rw [List.mem_singleton.mp m]; exact lp
    · show upd _ _ _ _ = some (.tup [cv gm α (keyV p.1), cv gm α p.2])
      rw [upd_same, keyV_ok]
    · rw [y3]
      show V.ref T = V.ref (bump α h.n T h.n)
      rw [bump_same]
  | it r =>
    obtain ⟨_, o, kvs, e1, e2, j⟩ := j
    subst j
    unfold itm at e
    simp only [e1] at e
    injection e with e
    obtain ⟨p, e3, e4⟩ := Option.map_eq_some_iff.mp e
    cases e4
    refine ⟨⟨e2, by rw [mv_len]; exact lt_of_get e3⟩, fun v H' y => ?_⟩
    obtain ⟨T, k', v', q, y2, y3, y4, y6, y5⟩ := y
    rw [mv_get e3] at y2
    cases y2
    rw [y5]
    have lp := (g.at_ r _ e1).2.1 p (List.mem_of_getElem? e3)
    have s1 := g.alias (p := q) (o := .tup (p.1.map keyV)) (fun v hv => by
      obtain ⟨k0, _, e0⟩ := List.mem_map.mp hv
      rw [← e0]; exact keyV_lt _) (by show H q = _; rw [keyVs_ok]; exact y6)
    have s2 := s1.good.alloc (p := T) (o := .tup [.ref h.n, p.2]) (ho := .tup [.ref q, cv gm α p.2]) y4 (fun v hv => by
      rcases List.mem_cons.mp hv with m | m
      · rw [m]; exact Nat.lt_succ_self _
      · rw [List.mem_singleton.mp m]; exact lp.mono (Nat.le_succ _)) (by
      show upd _ _ _ _ = some (.tup [V.ref (bump α h.n q h.n), cv gm (bump α h.n q) p.2])
      rw [upd_same, bump_same, cv_ext bump_lt lp])
    refine ⟨_, s1.trans s2, ?_, Nat.lt_succ_self _⟩
    rw [y3]
    show V.ref T = V.ref (bump (bump α h.n q) (h.n + 1) T (h.n + 1))
    rw [bump_same]
theorem unl_n {u : Option Nat} {h1 h2 : AH} (e : unl u h1 = some h2) : h2.n = h1.n := by
  unfold unl at e
  split at e
  · cases e; rfl
  · split at e
    · cases e; rfl
    · cases e; rfl
    · cases e
/-- the lock goes -/
theorem unl_ok {α1 : Nat → Addr} {H1 : Hp} {u : Option Nat} {hu : AH} (g : Good K gm α h H) (st : Step K gm α h H α1 h1 H1) (nf : ∀ r, u = some r → ∀ w, r < h.n → h.get r = some w → w.fro = false) (e : unl u h1 = some hu) :
    ∃ H2, Freed H H1 H2 ∧ Step K gm α h H α1 hu H2 := by
  cases u with
  | none => cases e; exact ⟨H1, .inl rfl, st⟩
  | some r =>
    have free : ∀ (o1 : AO), h1.get r = some o1 → o1.own = true → ∀ o' u', H (α1 r) ≠ some (.frz o' u') := fun o1 er ow o' u' hz => by
      by_cases c : ∃ i w, h.get i = some w ∧ w.own = true ∧ α i = α1 r
      · obtain ⟨i, w, ei, ow', ea⟩ := c
        obtain ⟨l, _, co⟩ := g.at_ i w ei
        rw [ea] at co
        have fr : w.fro = true := by
          cases w with
          | fK _ => rfl
          | fT _ => rfl
          | lst xs => rw [show H (α1 r) = _ from co] at hz; cases hz
          | dK xs => rw [show H (α1 r) = _ from co] at hz; cases hz
          | dT xs => rw [show H (α1 r) = _ from co] at hz; cases hz
          | ins C xs => obtain ⟨_, co⟩ := co; rw [co] at hz; cases hz
          | _ => cases ow'
        obtain ⟨k1, _⟩ := st.fro i w l ei fr
        have eir : i = r := st.good.inj i r w o1 k1 er ow' ow (by rw [st.ext i l]; exact ea)
        subst eir
        have := nf i rfl w l ei
        rw [fr] at this
        cases this
      · exact (st.keep _ _ hz fun i w ei ow' ea => c ⟨i, w, ei, ow', ea⟩).2 r o1 er ow rfl
    unfold unl at e
    simp only at e
    split at e
    · rename_i kvs er
      cases e
      obtain ⟨_, l, o, c⟩ := st.good.at_ _ _ er
      exact ⟨upd H1 (α1 r) (.dK (mv gm α1 kvs)), .inr ⟨α1 r, o, _, c, free _ er rfl, rfl⟩, st.unlock er (nf r rfl) l upd_same⟩
    · rename_i kvs er
      cases e
      obtain ⟨_, l, o, c⟩ := st.good.at_ _ _ er
      exact ⟨upd H1 (α1 r) (.dT (mv gm α1 kvs)), .inr ⟨α1 r, o, _, c, free _ er rfl, rfl⟩, st.unlock er (nf r rfl) l upd_same⟩
    · cases e
end
end J

set_option Elab.async false
set_option linter.all false
set_option maxRecDepth 100000
set_option maxHeartbeats 16000000
/-! the theorem: runs are followed -/
namespace J
open PySem L2
section
variable {P : Prog} {K : PySem.W.Frag} {gm : Nat → Addr} {α β : Nat → Addr} {h h' h1 : AH} {H H' H1 : Hp} {n m : Nat} {EW : St → XK} {σ : SA} {σc : St}

theorem tyA_ok (g : Good K gm α h H) {v t : AV} (e : tyA h v = some t) (hi : ∀ C, t = .gl C → InsTy K (gm C)) : TyX K H (cv gm α v) (tv gm t) := by
  unfold tyA at e
  split at e
  · cases e; exact .base .non
  · cases e; exact .base (.bl _)
  · cases e; exact .base (.int _)
  · cases e; exact .base (.str _)
  · split at e
    · rename_i xs q; cases e; exact .base (.lst (g.at_ _ _ q).2.2)
    · rename_i xs q; cases e; obtain ⟨o, c⟩ := (g.at_ _ _ q).2.2; exact .base (.frz c)
    · rename_i xs q; cases e; obtain ⟨o, _, _, c1, c2, _⟩ := (g.at_ _ _ q).2.2; exact .kList c1 c2
    · rename_i xs q; cases e; exact .base (.tup (g.at_ _ _ q).2.2)
    · rename_i xs q; cases e; exact .base (.dK (g.at_ _ _ q).2.2)
    · rename_i xs q; cases e; exact .base (.dT (g.at_ _ _ q).2.2)
    · rename_i xs q; cases e; obtain ⟨o, c⟩ := (g.at_ _ _ q).2.2; exact .fDict c
    · rename_i C fs q
      cases e
      obtain ⟨dx, c⟩ := (g.at_ _ _ q).2.2
      have i := hi C rfl
      exact .base (.ins c i.cl i.ha i.hn i.tk i.hm)
    · cases e
  · cases e
theorem excA_ok (g : Good K gm α h H) {v : AV} {C : Nat} (e : excA h v = some C) : ∃ a ar d, cv gm α v = .ref a ∧ (∃ u, H a = some u ∧ ExK (.ref (gm C)) ar d a u) ∧ DicT H d := by
  unfold excA at e
  split at e
  · split at e
    · rename_i C' ar d q
      split at e
      · cases e; exact ⟨_, _, _, rfl, (g.at_ _ _ q).2.2, fun dd z => nomatch z⟩
      · rename_i j
        split at e
        · rename_i fs qj
          cases e
          exact ⟨_, _, _, rfl, (g.at_ _ _ q).2.2, fun dd z => by cases z; exact ⟨_, (g.at_ _ _ qj).2.2⟩⟩
        · cases e
    · cases e
  · cases e
theorem ins_at (g : Good K gm α h H) {i C : Nat} {fs : List (Str × AV)} (e : h.get i = some (.ins C fs)) : (∀ p ∈ fs, p.2.lt h.n) ∧ ∃ dx, H (α i) = some (.ins (gm C) dx (fs.map fun p => (p.1, cv gm α p.2))) := (g.at_ _ _ e).2
theorem getF_ok (f : Str) : ∀ fs : List (Str × AV), (fs.map fun p => (p.1, cv gm α p.2)).lookup f = (getF f fs).map (cv gm α)
  | [] => rfl
  | p :: r => by
    rw [List.map_cons, List.lookup_cons]
    unfold getF
    cases q : seq f p.1 with
    | true => rw [seq_eq q]; simp
    | false =>
      have ne : (f == p.1) = false := beq_eq_false_iff_ne.mpr (seq_ne q)
      simp only [ne]
      exact getF_ok f r
theorem getF_mem {f : Str} {v : AV} : ∀ {fs : List (Str × AV)}, getF f fs = some v → ∃ p ∈ fs, p.2 = v
  | p :: r, e => by
    unfold getF at e
    split at e
    · cases e; exact ⟨p, List.mem_cons_self, rfl⟩
    · obtain ⟨q, h1, h2⟩ := getF_mem e
      exact ⟨q, List.mem_cons_of_mem _ h1, h2⟩
theorem putFA_ok (f : Str) (v : AV) : ∀ fs : List (Str × AV), putF f (cv gm α v) (fs.map fun p => (p.1, cv gm α p.2)) = (putFA f v fs).map fun p => (p.1, cv gm α p.2)
  | [] => rfl
  | p :: r => by
    unfold putFA
    show (if p.1 = f then (p.1, cv gm α v) :: _ else (p.1, cv gm α p.2) :: putF f (cv gm α v) _) = _
    cases q : seq p.1 f with
    | true => rw [if_pos (seq_eq q)]; rfl
    | false =>
      rw [if_neg (seq_ne q), putFA_ok f v r]
      rfl
theorem putFA_mem {f : Str} {v : AV} : ∀ {fs : List (Str × AV)} {p : Str × AV}, p ∈ putFA f v fs → p.2 = v ∨ p ∈ fs
  | [], p, hp => .inl (by rw [List.mem_singleton.mp hp])
  | q :: r, p, hp => by
    unfold putFA at hp
    split at hp
    · rcases List.mem_cons.mp hp with e | e
      · exact .inl (by rw [e])
      · exact .inr (List.mem_cons_of_mem _ e)
    · rcases List.mem_cons.mp hp with e | e
      · exact .inr (by rw [e]; exact List.mem_cons_self)
      · exact (putFA_mem e).elim .inl fun z => .inr (List.mem_cons_of_mem _ z)
/-- a new instance: its dict beside it is not told -/
theorem Good.alloc2 (g : Good K gm α h H) {x dx : Addr} {o : AO} {ho hd : HO} (hx : H x = none) (hdx : H dx = none) (ne : dx ≠ x) (hl : o.lt h.n) (hc : Co K gm α (upd (upd H dx hd) x ho) x o) : Step K gm α h H (bump α h.n x) (h.push o) (upd (upd H dx hd) x ho) := by
  have g1 : Good K gm α h (upd H dx hd) := ⟨fun i o e => let ⟨q1, q2, q3⟩ := g.at_ i o e; ⟨q1, q2, Co.off (fun ow => upd_ne fun z => q3.some ow (by rw [z]; exact hdx)) q3⟩, g.inj⟩
  have hx1 : upd H dx hd x = none := by rw [upd_ne (Ne.symm ne)]; exact hx
  have s := g1.alloc (o := o) (ho := ho) hx1 hl hc
  exact ⟨s.ext, s.good, s.le, fun a u e n => s.keep a u (by rw [upd_ne (ne_of_none e hdx)]; exact e) n, fun i u l e f => let ⟨k1, k2⟩ := s.fro i u l e f; ⟨k1, k2.trans (upd_ne fun z => (g.at_ i u e).2.2.some (AO.told_of (AO.own_of f)) (by rw [z]; exact hdx))⟩⟩
/-- a def's promise is asked by a run of it -/
theorem spI_of {f : Nat} {vs : List AV} {Q : VK} {Ex : XK} (g : Good K gm α h H) (l : ∀ v ∈ vs, v.lt h.n) (t : Then' K gm α h H Q Ex (callD P n f vs h)) : spI P K gm f (cvs gm α vs) H Q Ex := ⟨n, α, h, vs, g, l, rfl, t⟩

/-! the loops of comprehensions -/
theorem lc_ok (IH : ∀ m, m < n → Sd P K gm m) {e : E} {own : List Nat} {t : G} {cnd : T} {w : Wk} {d k : Nat} {Q : VK} {α0 : Nat → Addr} {h0 : AH} {H0 : Hp} {σ0 : SA} {D : Addr} (hD : D = α0 d) (hd : d < h0.n) {J : It} (hj : IsIt K gm α0 h0 H0 J w) (hs0 : SLt σ0 h0.n) (hown : ∀ v h1 α1 H1 σ', Good K gm α1 h1 H1 → put h1 t (wipeA σ0 own) v = some σ' → wipeA σ' own = wipeA σ0 own)
    (g0 : Good K gm α0 h0 H0) (p : Then' K gm α0 h0 H0 Q (fun _ _ _ => False) (lcL P n (wipeA σ0 own) e own t cnd w d k h0)) :
    ∃ W : Nat → Nat → Hp → Prop, (∃ m, W k m H0) ∧ ∀ i m H, W i m H →
      (J.stop i H ∧ Q (.ref D) H) ∨ (J.go i H ∧ ∃ Nx : Hp → Prop, (∀ H', Nx H' → ∃ m', m' < m ∧ W (i + 1) m' H') ∧ ∀ x H', J.yld i H x H' → rdG K t x (wipe (cs gm α0 σ0) own) H' fun σ2 H2 => wipe σ2 own = wipe (cs gm α0 σ0) own ∧ rdT P K gm EW0 cnd σ2 H2 fun b H3 =>
        if b = true then rdE P K gm EW0 e σ2 H3 fun y H4 => ∃ acc, H4 D = some (.lst acc) ∧ acc.length < sizeLine ∧ Nx (upd H4 D (.lst (acc ++ [y]))) else Nx H3) := by
  refine ⟨fun i m H => ∃ α h, Step K gm α0 h0 H0 α h H ∧ m ≤ n ∧ Then' K gm α h H Q (fun _ _ _ => False) (lcL P m (wipeA σ0 own) e own t cnd w d i h), ⟨n, α0, h0, Step.refl g0, Nat.le_refl _, p⟩, ?_⟩
  rintro i m H ⟨α, h, st, hm, p⟩
  have g := st.good
  have ij := hj.step g0 st
  have ed : α d = α0 d := st.ext d hd
  cases m with
  | zero => unfold lcL at p; exact p.elim
  | succ m =>
    have dm := IH m (by omega)
    unfold lcL at p
    cases q : itm h i w with
    | none => simp only [q] at p; exact (show False from p).elim
    | some ox =>
      cases ox with
      | none =>
        simp only [q] at p
        refine .inl ⟨it_stop g ij q, ?_⟩
        have z := p α H (Step.refl g) (Nat.lt_of_lt_of_le hd st.le)
        rw [hD, ← ed]
        exact z
      | some xh =>
        obtain ⟨x, hy⟩ := xh
        simp only [q] at p
        obtain ⟨go, yl⟩ := it_go (K := K) g ij q
        refine .inr ⟨go, fun H' => ∃ α' h', Step K gm α0 h0 H0 α' h' H' ∧ Then' K gm α' h' H' Q (fun _ _ _ => False) (lcL P m (wipeA σ0 own) e own t cnd w d (i + 1) h'), fun H' ⟨α', h', s', t'⟩ => ⟨m, Nat.lt_succ_self m, α', h', s', by omega, t'⟩, fun v H' y => ?_⟩
        obtain ⟨αy, sy, ev, xl⟩ := yl v H' y
        subst ev
        replace st := st.trans sy
        replace g := sy.good
        replace p := postE.step sy p
        cases qp : put hy t (wipeA σ0 own) x with
        | none => simp only [qp] at p; exact (show False from p).elim
        | some σ' =>
          simp only [qp] at p
          have hsw : SLt (wipeA σ0 own) hy.n := (hs0.mono st.le).wipe own
          have ec : wipe (cs gm α0 σ0) own = cs gm αy (wipeA σ0 own) := by rw [cs_wipe, st.cs hs0]
          rw [ec]
          refine put_ok g qp hsw xl fun sl => ?_
          refine ⟨by rw [← cs_wipe, hown x hy αy H' σ' g qp], ?_⟩
          refine dm.t g sl ?_
          cases qt : evT P m σ' cnd hy with
          | bad => simp only [qt] at p; exact (show False from p).elim
          | exc c h1 => simp only [qt] at p; exact (show False from p).elim
          | ok b h1 =>
            simp only [qt] at p
            intro α1 H1 s1
            cases b with
            | false =>
              simp only at p
              show ∃ α' h', Step K gm α0 h0 H0 α' h' H1 ∧ _
              exact ⟨α1, h1, st.trans s1, postE.step s1 p⟩
            | true =>
              simp only at p
              show rdE P K gm EW0 e (cs gm αy σ') H1 _
              rw [← s1.cs sl]
              refine dm.e s1.good (sl.mono s1.le) ?_
              cases qe : evE P m σ' e h1 with
              | bad => simp only [qe] at p; exact (show False from p).elim
              | exc c h2 => simp only [qe] at p; exact (show False from p).elim
              | ok v h2 =>
                simp only [qe] at p
                intro α2 H2 s2 vl
                cases qd : h2.get d with
                | none => simp only [qd] at p; exact (show False from p).elim
                | some o =>
                  cases o with
                  | lst acc =>
                    simp only [qd] at p
                    by_cases hl : acc.length < lid
                    · rw [if_pos hl] at p
                      have s02 := (st.trans s1).trans s2
                      have eD : α2 d = D := by rw [hD]; exact s02.ext d hd
                      obtain ⟨_, l, c⟩ := s2.good.at_ _ _ qd
                      rw [eD] at c
                      have c' : H2 D = some (.lst (cvs gm α2 acc)) := c
                      have wr := s2.good.write (o' := .lst (acc ++ [v])) (ho := .lst (cvs gm α2 acc ++ [cv gm α2 v])) qd (fun z hz => (List.mem_append.mp hz).elim (l z) fun m => by rw [List.mem_singleton.mp m]; exact vl) (by show upd _ _ _ _ = _; rw [upd_same, cvs_append]; rfl)
                      rw [eD] at wr
                      exact ⟨_, c', by rw [cvs_length]; exact lid_lt hl, α2, _, s02.trans wr, postE.step ((s1.trans s2).trans wr) p⟩
                    · rw [if_neg hl] at p; exact p.elim
                  | _ => simp only [qd] at p; exact (show False from p).elim

/-! own slots -/
theorem wipeA_get (σ : SA) (j : Nat) : ∀ vs : List Nat, (wipeA σ vs)[j]? = if j ∈ vs then (σ[j]?).map (fun _ => none) else σ[j]?
  | [] => by simp [wipeA]
  | v :: vs => by
    show ((wipeA σ vs).set v none)[j]? = _
    rw [List.getElem?_set]
    have len : (wipeA σ vs).length = σ.length := by
      clear j
      induction vs with
      | nil => rfl
      | cons a r ih => show ((wipeA σ r).set a none).length = _; rw [List.length_set, ih]
    by_cases e : v = j
    · subst e
      rw [if_pos rfl, if_pos List.mem_cons_self, len]
      by_cases l : v < σ.length
      · rw [if_pos l, List.getElem?_eq_getElem l]; rfl
      · rw [if_neg l, List.getElem?_eq_none_iff.mpr (by omega)]; rfl
    · rw [if_neg e, wipeA_get σ j vs]
      by_cases c : j ∈ vs
      · rw [if_pos c, if_pos (List.mem_cons_of_mem _ c)]
      · rw [if_neg c, if_neg (fun z => (List.mem_cons.mp z).elim (fun q => e q.symm) c)]
theorem wipeA_set {σ : SA} {i : Nat} {x : Option AV} {vs : List Nat} (hi : i ∈ vs) : wipeA (σ.set i x) vs = wipeA σ vs := by
  apply List.ext_getElem?
  intro j
  rw [wipeA_get, wipeA_get]
  by_cases c : j ∈ vs
  · rw [if_pos c, if_pos c, List.getElem?_set]
    by_cases e : i = j
    · subst e
      rw [if_pos rfl]
      by_cases l : i < σ.length
      · rw [if_pos l, List.getElem?_eq_getElem l]; rfl
      · rw [if_neg l, List.getElem?_eq_none_iff.mpr (by omega)]
    · rw [if_neg e]
  · rw [if_neg c, if_neg c, List.getElem?_set, if_neg (fun e => c (by rw [← e]; exact hi))]
theorem wipeA_twice (σ : SA) (vs : List Nat) : wipeA (wipeA σ vs) vs = wipeA σ vs := by
  apply List.ext_getElem?
  intro j
  rw [wipeA_get, wipeA_get]
  by_cases c : j ∈ vs
  · rw [if_pos c, if_pos c]
    cases σ[j]? <;> rfl
  · rw [if_neg c, if_neg c]
theorem wipeA_all {own : List Nat} : ∀ {is : List Nat} {vs : List AV} {σ σ' : SA}, (∀ i ∈ is, i ∈ own) → setAll σ is vs = some σ' → wipeA σ' own = wipeA σ own
  | [], [], σ, σ', _, e => by cases e; rfl
  | i :: is, v :: vs, σ, σ', l, e => by
    have z := wipeA_all (σ := setS σ i v) (fun j hj => l j (List.mem_cons_of_mem _ hj)) e
    rw [z]
    exact wipeA_set (l i List.mem_cons_self)
  | [], _ :: _, _, _, _, e => by cases e
  | _ :: _, [], _, _, _, e => by cases e
theorem own_ok {own : List Nat} {t : G} {σ0 : SA} (hg : gIn own t = true) (v : AV) (h1 : AH) (σ' : SA) (e : put h1 t (wipeA σ0 own) v = some σ') : wipeA σ' own = wipeA σ0 own := by
  cases t with
  | nm i =>
    cases e
    show wipeA ((wipeA σ0 own).set i (some v)) own = _
    rw [wipeA_set (by simpa [gIn] using hg), wipeA_twice]
  | tp is =>
    unfold put at e
    simp only at e
    split at e
    · split at e
      · rw [wipeA_all (fun i hi => by simpa using List.all_eq_true.mp hg i hi) e, wipeA_twice]
      · cases e
    · cases e

/-! the loop of a dict comprehension -/
theorem dc_ok (IH : ∀ m, m < n → Sd P K gm m) {ke ve : E} {own : List Nat} {t : G} {cnd : T} {w : Wk} {d k : Nat} {Q : VK} {α0 : Nat → Addr} {h0 : AH} {H0 : Hp} {σ0 : SA} {D : Addr} (hD : D = α0 d) (hd : d < h0.n) {J : It} (hj : IsIt K gm α0 h0 H0 J w) (hs0 : SLt σ0 h0.n) (hg : gIn own t = true)
    (g0 : Good K gm α0 h0 H0) (p : Then' K gm α0 h0 H0 Q (fun _ _ _ => False) (dcL P n (wipeA σ0 own) ke ve own t cnd w d k h0)) :
    ∃ W : Nat → Nat → Hp → Prop, (∃ m, W k m H0) ∧ ∀ i m H, W i m H →
      (J.stop i H ∧ Q (.ref D) H) ∨ (J.go i H ∧ ∃ Nx : Hp → Prop, (∀ H', Nx H' → ∃ m', m' < m ∧ W (i + 1) m' H') ∧ ∀ x H', J.yld i H x H' → rdG K t x (wipe (cs gm α0 σ0) own) H' fun σ2 H2 => wipe σ2 own = wipe (cs gm α0 σ0) own ∧ rdT P K gm EW0 cnd σ2 H2 fun b H3 =>
        if b = true then rdE P K gm EW0 ke σ2 H3 fun y H4 => rdE P K gm EW0 ve σ2 H4 fun z H5 => ∃ H6, PutJ H5 D y z H6 ∧ Nx H6 else Nx H3) := by
  refine ⟨fun i m H => ∃ α h, Step K gm α0 h0 H0 α h H ∧ m ≤ n ∧ Then' K gm α h H Q (fun _ _ _ => False) (dcL P m (wipeA σ0 own) ke ve own t cnd w d i h), ⟨n, α0, h0, Step.refl g0, Nat.le_refl _, p⟩, ?_⟩
  rintro i m H ⟨α, h, st, hm, p⟩
  have g := st.good
  have ij := hj.step g0 st
  have ed : α d = α0 d := st.ext d hd
  cases m with
  | zero => unfold dcL at p; exact p.elim
  | succ m =>
    have dm := IH m (by omega)
    unfold dcL at p
    cases q : itm h i w with
    | none => simp only [q] at p; exact (show False from p).elim
    | some ox =>
      cases ox with
      | none =>
        simp only [q] at p
        refine .inl ⟨it_stop g ij q, ?_⟩
        have z := p α H (Step.refl g) (Nat.lt_of_lt_of_le hd st.le)
        rw [hD, ← ed]
        exact z
      | some xh =>
        obtain ⟨x, hy⟩ := xh
        simp only [q] at p
        obtain ⟨go, yl⟩ := it_go (K := K) g ij q
        refine .inr ⟨go, fun H' => ∃ α' h', Step K gm α0 h0 H0 α' h' H' ∧ Then' K gm α' h' H' Q (fun _ _ _ => False) (dcL P m (wipeA σ0 own) ke ve own t cnd w d (i + 1) h'), fun H' ⟨α', h', s', t'⟩ => ⟨m, Nat.lt_succ_self m, α', h', s', by omega, t'⟩, fun v H' y => ?_⟩
        obtain ⟨αy, sy, ev, xl⟩ := yl v H' y
        subst ev
        replace st := st.trans sy
        replace g := sy.good
        replace p := postE.step sy p
        cases qp : put hy t (wipeA σ0 own) x with
        | none => simp only [qp] at p; exact (show False from p).elim
        | some σ' =>
          simp only [qp] at p
          have hsw : SLt (wipeA σ0 own) hy.n := (hs0.mono st.le).wipe own
          have ec : wipe (cs gm α0 σ0) own = cs gm αy (wipeA σ0 own) := by rw [cs_wipe, st.cs hs0]
          rw [ec]
          refine put_ok g qp hsw xl fun sl => ?_
          refine ⟨by rw [← cs_wipe, own_ok hg x hy σ' qp], ?_⟩
          refine dm.t g sl ?_
          cases qt : evT P m σ' cnd hy with
          | bad => simp only [qt] at p; exact (show False from p).elim
          | exc c h1 => simp only [qt] at p; exact (show False from p).elim
          | ok b h1 =>
            simp only [qt] at p
            intro α1 H1 s1
            cases b with
            | false =>
              simp only at p
              exact ⟨α1, h1, st.trans s1, postE.step s1 p⟩
            | true =>
              simp only at p
              show rdE P K gm EW0 ke (cs gm αy σ') H1 _
              rw [← s1.cs sl]
              refine dm.e s1.good (sl.mono s1.le) ?_
              cases qe : evE P m σ' ke h1 with
              | bad => simp only [qe] at p; exact (show False from p).elim
              | exc c h2 => simp only [qe] at p; exact (show False from p).elim
              | ok kv h2 =>
                simp only [qe] at p
                intro α2 H2 s2 kl
                rw [← s2.cs (sl.mono s1.le)]
                refine dm.e s2.good ((sl.mono s1.le).mono s2.le) ?_
                cases qv : evE P m σ' ve h2 with
                | bad => simp only [qv] at p; exact (show False from p).elim
                | exc c h3 => simp only [qv] at p; exact (show False from p).elim
                | ok v h3 =>
                  simp only [qv] at p
                  intro α3 H3 s3 vl
                  cases qs : setD h3 d kv v with
                  | none => simp only [qs] at p; exact (show False from p).elim
                  | some h4 =>
                    simp only [qs] at p
                    have s03 := ((st.trans s1).trans s2).trans s3
                    have eD : α3 d = D := by rw [hD]; exact s03.ext d hd
                    obtain ⟨H6, p6, s6⟩ := setD_ok s3.good vl qs
                    rw [eD, s3.cv kl] at p6
                    exact ⟨H6, p6, α3, _, s03.trans s6, postE.step (((s1.trans s2).trans s3).trans s6) p⟩

/-! for, while -/
theorem for_ok (IH : ∀ m, m < n → Sd P K gm m) {t : G} {w : Wk} {body : List S} {k : Nat} {D : Ends} {α0 : Nat → Addr} {h0 : AH} {H0 : Hp} {J : It} (hj : IsIt K gm α0 h0 H0 J w) (hs0 : SLt σ h0.n) (g0 : Good K gm α0 h0 H0) (p : ThenS K gm α0 h0 H0 D EW (forL P n σ t w body k h0)) :
    ∃ W : Nat → Nat → St → Hp → Prop, (∃ m, W k m (cs gm α0 σ) H0) ∧ ∀ i m σ H, W i m σ H →
      (J.stop i H ∧ D.nx σ H) ∨ (J.go i H ∧ ∃ N : St → Hp → Prop, (∀ σ' H', N σ' H' → ∃ m', m' < m ∧ W (i + 1) m' σ' H') ∧ ∀ x H', J.yld i H x H' → rdG K t x σ H' fun σ2 H2 => rdSs P K gm EW body { D with nx := N, ct := N, bk := D.nx } σ2 H2) := by
  refine ⟨fun i m σc H => ∃ α h σ, Step K gm α0 h0 H0 α h H ∧ σc = cs gm α σ ∧ SLt σ h.n ∧ m ≤ n ∧ ThenS K gm α h H D EW (forL P m σ t w body i h), ⟨n, α0, h0, σ, Step.refl g0, rfl, hs0, Nat.le_refl _, p⟩, ?_⟩
  rintro i m σc H ⟨α, h, σ, st, rfl, hs, hm, p⟩
  have g := st.good
  have ij := hj.step g0 st
  cases m with
  | zero => unfold forL at p; exact p.elim
  | succ m =>
    have dm := IH m (by omega)
    unfold forL at p
    cases q : itm h i w with
    | none => simp only [q] at p; exact (show False from p).elim
    | some ox =>
      cases ox with
      | none =>
        simp only [q] at p
        exact .inl ⟨it_stop g ij q, p α H (Step.refl g) hs⟩
      | some xh =>
        obtain ⟨x, hy⟩ := xh
        simp only [q] at p
        obtain ⟨go, yl⟩ := it_go (K := K) g ij q
        refine .inr ⟨go, fun σc H' => ∃ α' h' σ', Step K gm α0 h0 H0 α' h' H' ∧ σc = cs gm α' σ' ∧ SLt σ' h'.n ∧ ThenS K gm α' h' H' D EW (forL P m σ' t w body (i + 1) h'), fun σc H' ⟨α', h', σ', s', e', l', t'⟩ => ⟨m, Nat.lt_succ_self m, α', h', σ', s', e', l', by omega, t'⟩, fun v H' y => ?_⟩
        obtain ⟨αy, sy, ev, xl⟩ := yl v H' y
        subst ev
        replace st := st.trans sy
        replace g := sy.good
        replace p := postS sy p
        rw [← sy.cs hs]
        replace hs := hs.mono sy.le
        cases qp : put hy t σ x with
        | none => simp only [qp] at p; exact (show False from p).elim
        | some σ' =>
          simp only [qp] at p
          refine put_ok g qp hs xl fun sl => ?_
          refine dm.ss g sl ?_
          cases qb : evSs P m σ' body hy with
          | bad => simp only [qb] at p; exact (show False from p).elim
          | nx σ2 h2 => simp only [qb] at p; exact fun α' H2 s2 l2 => ⟨α', h2, σ2, st.trans s2, rfl, l2, postS s2 p⟩
          | ct σ2 h2 => simp only [qb] at p; exact fun α' H2 s2 l2 => ⟨α', h2, σ2, st.trans s2, rfl, l2, postS s2 p⟩
          | bk σ2 h2 => simp only [qb] at p; exact p
          | rt v h2 => simp only [qb] at p; exact p
          | exc c σ2 h2 => simp only [qb] at p; exact p
theorem wh_ok (IH : ∀ m, m < n → Sd P K gm m) {t : T} {body : List S} {D : Ends} {α0 : Nat → Addr} {h0 : AH} {H0 : Hp} (hs0 : SLt σ h0.n) (g0 : Good K gm α0 h0 H0) (p : ThenS K gm α0 h0 H0 D EW (whL P n σ t body h0)) : tWhile (rdT P K gm EW t) (rdSs P K gm EW body) D (cs gm α0 σ) H0 := by
  refine ⟨fun m σc H => ∃ α h σ, Step K gm α0 h0 H0 α h H ∧ σc = cs gm α σ ∧ SLt σ h.n ∧ m ≤ n ∧ ThenS K gm α h H D EW (whL P m σ t body h), ⟨n, α0, h0, σ, Step.refl g0, rfl, hs0, Nat.le_refl _, p⟩, ?_⟩
  rintro m σc H ⟨α, h, σ, st, rfl, hs, hm, p⟩
  have g := st.good
  cases m with
  | zero => unfold whL at p; exact p.elim
  | succ m =>
    have dm := IH m (by omega)
    unfold whL at p
    refine dm.t g hs ?_
    cases qt : evT P m σ t h with
    | bad => simp only [qt] at p; exact (show False from p).elim
    | exc c h1 => simp only [qt] at p; exact fun α' H' s => by have z := p α' H' s (hs.mono s.le); rw [s.cs hs] at z; exact z
    | ok b h1 =>
      simp only [qt] at p
      intro α1 H1 s1
      cases b with
      | false =>
        simp only at p
        show D.nx _ H1
        have z := p α1 H1 s1 (hs.mono s1.le)
        rw [s1.cs hs] at z
        exact z
      | true =>
        simp only at p
        refine ⟨fun σc H' => ∃ α' h' σ', Step K gm α0 h0 H0 α' h' H' ∧ σc = cs gm α' σ' ∧ SLt σ' h'.n ∧ ThenS K gm α' h' H' D EW (whL P m σ' t body h'), fun σc H' ⟨α', h', σ', s', e', l', t'⟩ => ⟨m, Nat.lt_succ_self m, α', h', σ', s', e', l', by omega, t'⟩, ?_⟩
        rw [← s1.cs hs]
        refine dm.ss s1.good (hs.mono s1.le) ?_
        cases qb : evSs P m σ body h1 with
        | bad => simp only [qb] at p; exact (show False from p).elim
        | nx σ2 h2 => simp only [qb] at p; exact fun α' H2 s2 l2 => ⟨α', h2, σ2, (st.trans s1).trans s2, rfl, l2, postS (s1.trans s2) p⟩
        | ct σ2 h2 => simp only [qb] at p; exact fun α' H2 s2 l2 => ⟨α', h2, σ2, (st.trans s1).trans s2, rfl, l2, postS (s1.trans s2) p⟩
        | bk σ2 h2 => simp only [qb] at p; exact postS (EW := EW) (D := { D with bk := D.nx }) (o := .bk σ2 h2) s1 p
        | rt v h2 => simp only [qb] at p; exact postS (D := D) (EW := EW) (o := .rt v h2) s1 p
        | exc c σ2 h2 => simp only [qb] at p; exact postS (D := D) (EW := EW) (o := .exc c σ2 h2) s1 p
end
end J

set_option Elab.async false
set_option linter.all false
set_option maxRecDepth 100000
set_option maxHeartbeats 16000000
/-! the theorem for all fuels -/
namespace J
open PySem L2
section
variable {P : Prog} {K : PySem.W.Frag} {gm : Nat → Addr} {α β : Nat → Addr} {h h' h1 : AH} {H H' H1 : Hp} {n m : Nat} {EW : St → XK} {σ : SA} {σc : St}

theorem lock_ok (g : Good K gm α h H) {r : Nat} {a b : Nat → Wk} {w : Wk} {h2 : AH} {u : Option Nat} (e : lockA h r a b = some (w, h2, u)) :
    (∃ kvs, u = some r ∧ w = a r ∧ h.get r = some (.dK kvs) ∧ h2 = h.set r (.fK kvs)) ∨ (∃ kvs, u = some r ∧ w = b r ∧ h.get r = some (.dT kvs) ∧ h2 = h.set r (.fT kvs)) ∨
    (∃ kvs, u = none ∧ w = a r ∧ h.get r = some (.fK kvs) ∧ h2 = h) ∨ (∃ kvs, u = none ∧ w = b r ∧ h.get r = some (.fT kvs) ∧ h2 = h) := by
  unfold lockA at e
  split at e
  · rename_i kvs q; cases e; exact .inl ⟨kvs, rfl, rfl, q, rfl⟩
  · rename_i kvs q; cases e; exact .inr (.inl ⟨kvs, rfl, rfl, q, rfl⟩)
  · rename_i kvs q; cases e; exact .inr (.inr (.inl ⟨kvs, rfl, rfl, q, rfl⟩))
  · rename_i kvs q; cases e; exact .inr (.inr (.inr ⟨kvs, rfl, rfl, q, rfl⟩))
  · cases e
theorem one_ {F : V → Hp → Prop} {te : TE} {σc : St} {H : Hp} (z : te σc H fun x H1 => ∃ y, [x] = [y] ∧ F y H1) : te σc H F := by
  have e : (fun x H1 => ∃ y, [x] = [y] ∧ F y H1) = F := by
    funext x H1
    simp
  rw [e] at z
  exact z
def lkF (G : V → Hp → Prop) (x : V) (H1 : Hp) : Prop := ∃ d, x = V.ref d ∧ ((∃ u, H1 d = some u ∧ Mut (some u) ∧ ∀ od, G x (upd H1 d (.frz od u))) ∨ ∃ od u, H1 d = some (.frz od u) ∧ G x H1)
def gKeys (R : It → Hp → Prop) (x : V) (H1 : Hp) : Prop := ∃ d o, x = V.ref d ∧ ((∃ kvs, H1 d = some (.frz o (.dK kvs)) ∧ R (L2.Itk d o kvs) H1) ∨ ∃ kvs, H1 d = some (.frz o (.dT kvs)) ∧ R (Itkt d o kvs) H1)
def gVals (R : It → Hp → Prop) (x : V) (H1 : Hp) : Prop := ∃ d o kvs, x = V.ref d ∧ H1 d = some (.frz o (.dK kvs)) ∧ R (Itd d o kvs) H1
def gItems (R : It → Hp → Prop) (x : V) (H1 : Hp) : Prop := ∃ d o, x = V.ref d ∧ ((∃ kvs, H1 d = some (.frz o (.dK kvs)) ∧ R (Iti d o kvs) H1) ∨ ∃ kvs, H1 d = some (.frz o (.dT kvs)) ∧ R (Itit d o kvs) H1)
theorem rdI_ok' (d : Sd P K gm n) {i : Itk} {src : List E} {vs : List AV} {w : Wk} {h2 : AH} {u : Option Nat} {R : It → Hp → Prop} (g : Good K gm α h H) (s : SLt σ h.n) (e : evA P n σ src h = .ok vs h1) (ew : wk i h1 vs = some (w, h2, u)) (ni : i ≠ .poly)
    (k : ∀ α1 H1 J, Step K gm α h H α1 h2 H1 → IsIt K gm α1 h2 H1 J w → (∀ r, u = some r → ∀ v, r < h.n → h.get r = some v → v.fro = false) → R J H1) : rdI P K gm EW i src (cs gm α σ) H R := by
  have len := evA_len n σ src h vs h1 e
  have run : ∀ {Q : List V → Hp → Prop}, (∀ α1 H1, Step K gm α h H α1 h1 H1 → (∀ v ∈ vs, v.lt h1.n) → Q (cvs gm α1 vs) H1) → rdA P K gm EW src (cs gm α σ) H Q := fun q => d.a g s (by rw [e]; exact q)
  have none_ : ∀ r, (none : Option Nat) = some r → ∀ v, r < h.n → h.get r = some v → v.fro = false := fun r z => nomatch z
  have nofro : ∀ {r : Nat} {o : AO}, h1.get r = some o → o.fro = false → (∃ α1 H1, Step K gm α h H α1 h1 H1) → ∀ v, r < h.n → h.get r = some v → v.fro = false := fun {r o} er fo ⟨α1, H1, st⟩ v l ev => by
    cases f : v.fro with
    | false => rfl
    | true =>
      obtain ⟨k1, _⟩ := st.fro r v l ev f
      rw [er] at k1
      cases k1
      rw [f] at fo
      cases fo
  unfold wk at ew
  split at ew
  · rename_i r
    split at ew
    · rename_i xs es
      cases ew
      match src, len with
      | [a], _ =>
        refine one_ (te := rdE P K gm EW a) (F := fun x H1 => ∃ a, x = V.ref a ∧ (∃ xs, SqL K H1 a xs) ∧ R (Itl K a) H1) ?_
        refine run (Q := fun ws H1 => ∃ y, ws = [y] ∧ ∃ a, y = V.ref a ∧ (∃ xs, SqL K H1 a xs) ∧ R (Itl K a) H1) fun α1 H1 st l => ?_
        obtain ⟨_, b, eb, sb⟩ := seqL_ok (K := K) st.good es
        cases eb
        exact ⟨_, rfl, _, rfl, ⟨_, sb⟩, k α1 H1 _ st ⟨l _ List.mem_cons_self, rfl⟩ none_⟩
    · cases ew
  · rename_i r
    split at ew
    · rename_i xs es
      cases ew
      match src, len with
      | [a], _ =>
        refine one_ (te := rdE P K gm EW a) (F := fun x H1 => ∃ a, x = V.ref a ∧ (∃ xs, SqT K H1 a xs) ∧ R (Itt K a) H1) ?_
        refine run (Q := fun ws H1 => ∃ y, ws = [y] ∧ ∃ a, y = V.ref a ∧ (∃ xs, SqT K H1 a xs) ∧ R (Itt K a) H1) fun α1 H1 st l => ?_
        obtain ⟨_, b, eb, sb⟩ := seqT_ok st.good es
        cases eb
        exact ⟨_, rfl, _, rfl, ⟨_, .inl (.inl sb)⟩, k α1 H1 _ st ⟨l _ List.mem_cons_self, rfl⟩ none_⟩
    · cases ew
  · rename_i j
    split at ew
    · rename_i hb
      cases ew
      match src, len with
      | [a], _ =>
        show iRng1 (rdA P K gm EW [a]) (cs gm α σ) H R
        exact run fun α1 H1 st l => ⟨j, rfl, by omega, by omega, k α1 H1 _ st rfl none_⟩
    · cases ew
  · rename_i i j
    split at ew
    · rename_i hb
      cases ew
      match src, len with
      | [a, b], _ =>
        show iRng2 (rdA P K gm EW [a, b]) (cs gm α σ) H R
        exact run fun α1 H1 st l => ⟨i, j, rfl, ⟨by omega, by omega, by omega, by omega⟩, k α1 H1 _ st rfl none_⟩
    · cases ew
  · rename_i x
    cases ew
    match src, len with
    | [a], _ =>
      refine one_ (te := rdE P K gm EW a) (F := fun x H1 => ∃ y, x = V.str y ∧ R (Its y) H1) ?_
      exact run (Q := fun ws H1 => ∃ y, ws = [y] ∧ ∃ z, y = V.str z ∧ R (Its z) H1) fun α1 H1 st l => ⟨_, rfl, x, rfl, k α1 H1 _ st rfl none_⟩
  · rename_i r
    match src, len with
    | [a], _ =>
      refine one_ (te := rdE P K gm EW a) (F := lkF (gKeys R)) ?_
      refine run (Q := fun ws H1 => ∃ y, ws = [y] ∧ lkF (gKeys R) y H1) fun α1 H1 st l => ⟨_, rfl, α1 r, rfl, ?_⟩
      have lr : r < h1.n := l (.ref r) List.mem_cons_self
      rcases lock_ok st.good ew with ⟨kvs, eu, e1, er, e2⟩ | ⟨kvs, eu, e1, er, e2⟩ | ⟨kvs, eu, e1, er, e2⟩ | ⟨kvs, eu, e1, er, e2⟩
      · subst eu e1 e2
        obtain ⟨_, l2, c⟩ := st.good.at_ _ _ er
        have c : H1 (α1 r) = some (.dK (mv gm α1 kvs)) := c
        refine .inl ⟨_, c, True.intro, fun od => ⟨α1 r, od, rfl, .inl ⟨_, upd_same, ?_⟩⟩⟩
        have sw := st.good.write (o' := .fK kvs) (ho := .frz od (.dK (mv gm α1 kvs))) er l2 ⟨od, upd_same⟩
        exact k α1 _ _ (st.trans sw) ⟨lr, od, kvs, by rw [AH.get_set, if_pos rfl], upd_same, rfl⟩ fun r' z => by cases z; exact nofro er rfl ⟨_, _, st⟩
      · subst eu e1 e2
        obtain ⟨_, l2, c⟩ := st.good.at_ _ _ er
        have c : H1 (α1 r) = some (.dT (mv gm α1 kvs)) := c
        refine .inl ⟨_, c, True.intro, fun od => ⟨α1 r, od, rfl, .inr ⟨_, upd_same, ?_⟩⟩⟩
        have sw := st.good.write (o' := .fT kvs) (ho := .frz od (.dT (mv gm α1 kvs))) er l2 ⟨od, upd_same⟩
        exact k α1 _ _ (st.trans sw) ⟨lr, od, kvs, by rw [AH.get_set, if_pos rfl], upd_same, rfl⟩ fun r' z => by cases z; exact nofro er rfl ⟨_, _, st⟩
      · subst eu e1 e2
        obtain ⟨_, l2, o, c⟩ := st.good.at_ _ _ er
        exact .inr ⟨o, _, c, ⟨α1 r, o, rfl, .inl ⟨_, c, k α1 _ _ st ⟨lr, o, kvs, er, c, rfl⟩ none_⟩⟩⟩
      · subst eu e1 e2
        obtain ⟨_, l2, o, c⟩ := st.good.at_ _ _ er
        exact .inr ⟨o, _, c, ⟨α1 r, o, rfl, .inr ⟨_, c, k α1 _ _ st ⟨lr, o, kvs, er, c, rfl⟩ none_⟩⟩⟩
  · rename_i r
    match src, len with
    | [a], _ =>
      refine one_ (te := rdE P K gm EW a) (F := lkF (gItems R)) ?_
      refine run (Q := fun ws H1 => ∃ y, ws = [y] ∧ lkF (gItems R) y H1) fun α1 H1 st l => ⟨_, rfl, α1 r, rfl, ?_⟩
      have lr : r < h1.n := l (.ref r) List.mem_cons_self
      rcases lock_ok st.good ew with ⟨kvs, eu, e1, er, e2⟩ | ⟨kvs, eu, e1, er, e2⟩ | ⟨kvs, eu, e1, er, e2⟩ | ⟨kvs, eu, e1, er, e2⟩
      · subst eu e1 e2
        obtain ⟨_, l2, c⟩ := st.good.at_ _ _ er
        have c : H1 (α1 r) = some (.dK (mv gm α1 kvs)) := c
        refine .inl ⟨_, c, True.intro, fun od => ⟨α1 r, od, rfl, .inl ⟨_, upd_same, ?_⟩⟩⟩
        have sw := st.good.write (o' := .fK kvs) (ho := .frz od (.dK (mv gm α1 kvs))) er l2 ⟨od, upd_same⟩
        exact k α1 _ _ (st.trans sw) ⟨lr, od, kvs, by rw [AH.get_set, if_pos rfl], upd_same, rfl⟩ fun r' z => by cases z; exact nofro er rfl ⟨_, _, st⟩
      · subst eu e1 e2
        obtain ⟨_, l2, c⟩ := st.good.at_ _ _ er
        have c : H1 (α1 r) = some (.dT (mv gm α1 kvs)) := c
        refine .inl ⟨_, c, True.intro, fun od => ⟨α1 r, od, rfl, .inr ⟨_, upd_same, ?_⟩⟩⟩
        have sw := st.good.write (o' := .fT kvs) (ho := .frz od (.dT (mv gm α1 kvs))) er l2 ⟨od, upd_same⟩
        exact k α1 _ _ (st.trans sw) ⟨lr, od, kvs, by rw [AH.get_set, if_pos rfl], upd_same, rfl⟩ fun r' z => by cases z; exact nofro er rfl ⟨_, _, st⟩
      · subst eu e1 e2
        obtain ⟨_, l2, o, c⟩ := st.good.at_ _ _ er
        exact .inr ⟨o, _, c, ⟨α1 r, o, rfl, .inl ⟨_, c, k α1 _ _ st ⟨lr, o, kvs, er, c, rfl⟩ none_⟩⟩⟩
      · subst eu e1 e2
        obtain ⟨_, l2, o, c⟩ := st.good.at_ _ _ er
        exact .inr ⟨o, _, c, ⟨α1 r, o, rfl, .inr ⟨_, c, k α1 _ _ st ⟨lr, o, kvs, er, c, rfl⟩ none_⟩⟩⟩
  · rename_i r
    match src, len with
    | [a], _ =>
      refine one_ (te := rdE P K gm EW a) (F := lkF (gVals R)) ?_
      refine run (Q := fun ws H1 => ∃ y, ws = [y] ∧ lkF (gVals R) y H1) fun α1 H1 st l => ⟨_, rfl, α1 r, rfl, ?_⟩
      have lr : r < h1.n := l (.ref r) List.mem_cons_self
      split at ew
      · rename_i kvs er
        cases ew
        obtain ⟨_, l2, c⟩ := st.good.at_ _ _ er
        have c : H1 (α1 r) = some (.dK (mv gm α1 kvs)) := c
        refine .inl ⟨_, c, True.intro, fun od => ⟨α1 r, od, _, rfl, upd_same, ?_⟩⟩
        have sw := st.good.write (o' := .fK kvs) (ho := .frz od (.dK (mv gm α1 kvs))) er l2 ⟨od, upd_same⟩
        exact k α1 _ _ (st.trans sw) ⟨lr, od, kvs, by rw [AH.get_set, if_pos rfl], upd_same, rfl⟩ fun r' z => by cases z; exact nofro er rfl ⟨_, _, st⟩
      · rename_i kvs er
        cases ew
        obtain ⟨_, l2, o, c⟩ := st.good.at_ _ _ er
        exact .inr ⟨o, _, c, ⟨α1 r, o, _, rfl, c, k α1 _ _ st ⟨lr, o, kvs, er, c, rfl⟩ none_⟩⟩
      · cases ew
  · rename_i r
    split at ew
    · rename_i xs es
      cases ew
      match src, len with
      | [a], _ =>
        show iEnum K (rdA P K gm EW [a]) (cs gm α σ) H R
        refine run fun α1 H1 st l => ?_
        obtain ⟨_, b, eb, sb⟩ := seqL_ok (K := K) st.good es
        cases eb
        exact ⟨_, _, rfl, sb, k α1 H1 _ st ⟨l _ List.mem_cons_self, rfl⟩ none_⟩
    · cases ew
  · exact (ni rfl).elim
  · cases ew
theorem poly_wk {h : AH} {vs : List AV} {r : Wk × AH × Option Nat} (e : wk .poly h vs = some r) : wk .list h vs = some r ∨ wk .tup h vs = some r ∨ wk .str h vs = some r ∨ wk .keys h vs = some r := by
  match vs with
  | [] => cases e
  | _ :: _ :: _ => cases e
  | [v] =>
    cases v with
    | str x => exact .inr (.inr (.inl e))
    | ref q =>
      unfold wk at e
      simp only at e
      cases e1 : seqL h (.ref q) with
      | some xs =>
        rw [e1] at e
        refine .inl ?_
        unfold wk
        simp only [e1]
        exact e
      | none =>
        rw [e1] at e
        simp only at e
        cases e2 : seqT h (.ref q) with
        | some xs =>
          rw [e2] at e
          refine .inr (.inl ?_)
          unfold wk
          simp only [e2]
          exact e
        | none =>
          rw [e2] at e
          exact .inr (.inr (.inr e))
    | _ => cases e
theorem rdI_ok (d : Sd P K gm n) {i : Itk} {src : List E} {vs : List AV} {w : Wk} {h2 : AH} {u : Option Nat} {R : It → Hp → Prop} (g : Good K gm α h H) (s : SLt σ h.n) (e : evA P n σ src h = .ok vs h1) (ew : wk i h1 vs = some (w, h2, u))
    (k : ∀ α1 H1 J, Step K gm α h H α1 h2 H1 → IsIt K gm α1 h2 H1 J w → (∀ r, u = some r → ∀ v, r < h.n → h.get r = some v → v.fro = false) → R J H1) : rdI P K gm EW i src (cs gm α σ) H R := by
  by_cases c : i = .poly
  · subst c
    have len := evA_len n σ src h vs h1 e
    match src, vs, len, ew with
    | [], [], _, ew => cases ew
    | a :: r, v :: vs, len, ew =>
      rcases poly_wk ew with q | q | q | q
      · exact .inl (rdI_ok' d g s e q (by intro z; cases z) k)
      · exact .inr (.inl (rdI_ok' d g s e q (by intro z; cases z) k))
      · exact .inr (.inr (.inl (rdI_ok' d g s e q (by intro z; cases z) k)))
      · exact .inr (.inr (.inr (rdI_ok' d g s e q (by intro z; cases z) k)))
  · exact rdI_ok' d g s e ew c k

theorem sd_t (F : Facts P K gm) (d : Sd P K gm n) {t : T} {Q : Bool → Hp → Prop} (g : Good K gm α h H) (s : SLt σ h.n) (p : ThenT K gm α h H Q (EW (cs gm α σ)) (evT P (n + 1) σ t h)) : rdT P K gm EW t (cs gm α σ) H Q := by
  cases t with
  | yes => unfold evT at p; exact p α H (Step.refl g)
  | val a =>
    simp only [evT] at p
    refine d.be (a := a) (postT (Q := Q)) g s rfl p fun x h1 α1 H1 st g1 l s1 ec p => ?_
    split at p
    · exact ⟨_, rfl, p α1 H1 (Step.refl g1)⟩
    · exact p.elim
  | tru a =>
    simp only [evT] at p
    refine d.be (a := a) (postT (Q := Q)) g s rfl p fun x h1 α1 H1 st g1 l s1 ec p => ?_
    split at p
    · exact ⟨_, rfl, p α1 H1 (Step.refl g1)⟩
    · exact ⟨_, rfl, p α1 H1 (Step.refl g1)⟩
    · exact ⟨_, rfl, p α1 H1 (Step.refl g1)⟩
    · split at p
      · rename_i xs es
        obtain ⟨_, a, ea, sa⟩ := seqL_ok (K := K) g1 es
        rw [ea]
        refine ⟨_, .inl ⟨_, sa, rfl⟩, ?_⟩
        have : (!(cvs gm α1 xs).isEmpty) = !xs.isEmpty := by cases xs <;> rfl
        rw [this]
        exact p α1 H1 (Step.refl g1)
      · exact p.elim
  | and_ a b =>
    simp only [evT] at p
    refine d.bt (a := a) (postT (Q := Q)) g s rfl p fun c h1 α1 H1 st g1 s1 ec p => ?_
    cases c with
    | true => show rdT P K gm EW b _ H1 Q; rw [← ec]; exact d.t g1 s1 (by rw [ec]; exact p)
    | false => exact p α1 H1 (Step.refl g1)
  | or_ a b =>
    simp only [evT] at p
    refine d.bt (a := a) (postT (Q := Q)) g s rfl p fun c h1 α1 H1 st g1 s1 ec p => ?_
    cases c with
    | false => show rdT P K gm EW b _ H1 Q; rw [← ec]; exact d.t g1 s1 (by rw [ec]; exact p)
    | true => exact p α1 H1 (Step.refl g1)
  | not_ a =>
    simp only [evT] at p
    exact d.bt (a := a) (postT (Q := Q)) g s rfl p fun c h1 α1 H1 st g1 s1 ec p => p α1 H1 (Step.refl g1)
theorem sd_a (d : Sd P K gm n) {es : List E} {Q : List V → Hp → Prop} (g : Good K gm α h H) (s : SLt σ h.n) (p : ThenA K gm α h H Q (EW (cs gm α σ)) (evA P (n + 1) σ es h)) : rdA P K gm EW es (cs gm α σ) H Q := by
  cases es with
  | nil => unfold evA at p; exact p α H (Step.refl g) fun v hv => nomatch hv
  | cons a r =>
    simp only [evA] at p
    refine d.be (a := a) (postA (Q := Q)) g s rfl p fun x h1 α1 H1 st g1 l s1 ec p => ?_
    refine d.ba (a := r) (postA (Q := Q)) g1 s1 ec p fun xs h2 α2 H2 st2 g2 l2 s2 ec2 p _ => ?_
    have z := p α2 H2 (Step.refl g2) fun v hv => (List.mem_cons.mp hv).elim (fun e => by rw [e]; exact l.mono st2.le) (l2 v)
    have e : cvs gm α2 (x :: xs) = cv gm α1 x :: cvs gm α2 xs := by show cv gm α2 x :: _ = _; rw [st2.cv l]; rfl
    rw [e] at z
    exact z
theorem sd_o (d : Sd P K gm n) {es : List E} {Q : Option Int → Hp → Prop} (g : Good K gm α h H) (s : SLt σ h.n) (p : ThenO K gm α h H Q (EW (cs gm α σ)) (evO P (n + 1) σ es h)) : rdO P K gm EW es (cs gm α σ) H Q := by
  cases es with
  | nil => simp only [evO] at p; exact p α H (Step.refl g)
  | cons a r =>
    simp only [evO] at p
    refine d.be (a := a) (postO (Q := Q)) g s rfl p fun x h1 α1 H1 st g1 l s1 ec p => ?_
    split at p
    · exact ⟨_, rfl, p α1 H1 (Step.refl g1)⟩
    · exact p.elim
/-- a run as a Then' over a bool or a value -/
theorem thenB {o : Option Bool} {Q : VK} {Ex : XK} (g : Good K gm α h H) (p : Then' K gm α h H Q Ex (match o with | some r => .ok (.bl r) h | none => .bad)) : ∃ r, o = some r ∧ Q (.bl r) H := by
  cases o with
  | none => exact p.elim
  | some r => exact ⟨r, rfl, p α H (Step.refl g) trivial⟩
end
end J

set_option Elab.async false
set_option linter.all false
set_option maxRecDepth 100000
set_option maxHeartbeats 16000000
/-! expressions -/
namespace J
open PySem L2
section
variable {P : Prog} {K : PySem.W.Frag} {gm : Nat → Addr} {α β : Nat → Addr} {h h' h1 : AH} {H H' H1 : Hp} {n m : Nat} {EW : St → XK} {σ : SA} {σc : St}
theorem c0_ok : ∀ {v : AV}, (∀ n, v ≠ .ref n) → c0 gm v = cv gm α v
  | .ref n, e => (e n rfl).elim
  | .non, _ => rfl | .bl _, _ => rfl | .int _, _ => rfl | .str _, _ => rfl | .ty _, _ => rfl | .gl _, _ => rfl
theorem nonref_lt : ∀ {v : AV}, (∀ n, v ≠ .ref n) → v.lt m
  | .ref n, e => (e n rfl).elim
  | .non, _ => trivial | .bl _, _ => trivial | .int _, _ => trivial | .str _, _ => trivial | .ty _, _ => trivial | .gl _, _ => trivial
theorem wkO_some {own : List Nat} {g : G} {i : Itk} {vs : List AV} {w : Wk × AH × Option Nat} (e : wkO own g i h vs = some w) : gIn own g = true ∧ wk i h vs = some w := by
  unfold wkO at e
  by_cases c : gIn own g = true
  · rw [if_pos c] at e; exact ⟨c, e⟩
  · rw [if_neg c] at e; cases e
theorem tPairs_eq : ∀ (es : List E), es.length % 2 = 0 → ∀ {σc : St} {H : Hp} {Q : List (V × V) → Hp → Prop}, tPairs (rdPs P K gm EW es) σc H Q = rdA P K gm EW es σc H fun xs H1 => Q (pairUp xs) H1
  | [], _, _, _, _ => rfl
  | [_], h, _, _, _ => by cases h
  | a :: b :: r, h, σc, H, Q => by
    have ih := fun (H : Hp) (Q : List (V × V) → Hp → Prop) => tPairs_eq r (by simp only [List.length_cons] at h; omega) (σc := σc) (H := H) (Q := Q)
    show (rdE P K gm EW a σc H fun x H1 => rdE P K gm EW b σc H1 fun y H2 => tPairs (rdPs P K gm EW r) σc H2 fun ps H3 => Q ((x, y) :: ps) H3) = rdE P K gm EW a σc H fun x H1 => rdE P K gm EW b σc H1 fun y H2 => rdA P K gm EW r σc H2 fun xs H3 => Q ((x, y) :: pairUp xs) H3
    congr 1
    funext x H1
    congr 1
    funext y H2
    exact ih H2 _
theorem putsA_even {d : Nat} : ∀ {vs : List AV} {h h' : AH}, putsA d vs h = some h' → vs.length % 2 = 0
  | [], _, _, _ => rfl
  | [_], _, _, e => by cases e
  | k :: v :: r, h, h', e => by
    unfold putsA at e
    split at e
    · have := putsA_even e
      simp only [List.length_cons]
      omega
    · cases e
theorem wk_u {i : Itk} {vs : List AV} {w : Wk} {h2 : AH} {u : Option Nat} (e : wk i h vs = some (w, h2, u)) (hi : i.dict = false) : u = none := by
  unfold wk at e
  split at e
  · split at e
    · cases e; rfl
    · cases e
  · split at e
    · cases e; rfl
    · cases e
  · split at e
    · cases e; rfl
    · cases e
  · split at e
    · cases e; rfl
    · cases e
  · cases e; rfl
  · cases hi
  · cases hi
  · cases hi
  · split at e
    · cases e; rfl
    · cases e
  · cases hi
  · cases e
/-- a comprehension, its dict freed behind -/
theorem dictE_ok {i : Itk} {vs : List AV} {w : Wk} {h2 hw : AH} {u : Option Nat} {te : TE} {o : Out AV} {Q : VK} {Ex : XK} (ew : wk i hw vs = some (w, h2, u))
    (core : ∀ Q' : VK, (∀ v h3, o = .ok v h3 → ∀ α3 H3, Step K gm α h H α3 h3 H3 → (∀ r, u = some r → ∀ v, r < h.n → h.get r = some v → v.fro = false) → v.lt h3.n → Q' (cv gm α3 v) H3) → te σc H Q')
    (g : Good K gm α h H) (p : Then' K gm α h H Q Ex (unlO u o)) : dictE i te σc H Q := by
  cases hi : i.dict with
  | false =>
    have eu := wk_u ew hi
    subst eu
    unfold dictE
    rw [hi]
    refine core Q fun v h3 eo α3 H3 st _ l => ?_
    rw [eo] at p
    exact p α3 H3 st l
  | true =>
    unfold dictE
    rw [hi]
    refine core _ fun v h3 eo α3 H3 st nf l => ?_
    rw [eo] at p
    have p : Then' K gm α h H Q Ex (match unl u h3 with | some h' => .ok v h' | none => .bad) := p
    cases q : unl u h3 with
    | none => rw [q] at p; exact p.elim
    | some h4 =>
      rw [q] at p
      obtain ⟨H4, f, s4⟩ := unl_ok g st nf q
      refine ⟨H4, f, p α3 H4 s4 ?_⟩
      have : h4.n = h3.n := unl_n q
      rw [this]
      exact l
theorem sd_e (F : Facts P K gm) (IH : ∀ m, m < n + 1 → Sd P K gm m) {e : E} {Q : VK} (g : Good K gm α h H) (s : SLt σ h.n) (p : Then' K gm α h H Q (EW (cs gm α σ)) (evE P (n + 1) σ e h)) : rdE P K gm EW e (cs gm α σ) H Q := by
  have d := IH n (Nat.lt_succ_self n)
  have O : PostOk K gm (EW (cs gm α σ)) (fun α' h' H' o => Then' K gm α' h' H' Q (EW (cs gm α σ)) o) := postE
  cases e with
  | k v =>
    cases v with
    | ref r => simp only [evE] at p; exact (show False from p).elim
    | non => simp only [evE] at p; exact p α H (Step.refl g) trivial
    | bl _ => simp only [evE] at p; exact p α H (Step.refl g) trivial
    | int _ => simp only [evE] at p; exact p α H (Step.refl g) trivial
    | str _ => simp only [evE] at p; exact p α H (Step.refl g) trivial
    | ty _ => simp only [evE] at p; exact p α H (Step.refl g) trivial
    | gl _ => simp only [evE] at p; exact p α H (Step.refl g) trivial
  | v i =>
    simp only [evE] at p
    cases q : getS σ i with
    | none => rw [q] at p; exact (show False from p).elim
    | some v =>
      rw [q] at p
      obtain ⟨q1, q2⟩ := cs_get (gm := gm) (α := α) q
      exact ⟨_, q2, p α H (Step.refl g) (s _ _ q1)⟩
  | bin o a b =>
    simp only [evE] at p
    refine d.be (a := a) O g s rfl p fun x h1 α1 H1 st g1 l s1 ec p => ?_
    refine d.be (a := b) O g1 s1 ec p fun y h2 α2 H2 st2 g2 l2 s2 ec2 p => ?_
    rw [← st2.cv l]
    cases q : binop o h2 x y with
    | ok v h3 => rw [q] at p; exact binop_ok g2 q p
    | exc c h3 =>
      exfalso
      cases o <;> simp only [binop, two] at q <;> (repeat' (split at q)) <;> cases q
    | bad => rw [q] at p; exact p.elim
  | neg a =>
    simp only [evE] at p
    refine d.be (a := a) O g s rfl p fun x h1 α1 H1 st g1 l s1 ec p => ?_
    split at p
    · exact ⟨_, rfl, p α1 H1 (Step.refl g1) trivial⟩
    · exact p.elim
  | cmp o a b =>
    simp only [evE] at p
    refine d.be (a := a) O g s rfl p fun x h1 α1 H1 st g1 l s1 ec p => ?_
    refine d.be (a := b) O g1 s1 ec p fun y h2 α2 H2 st2 g2 l2 s2 ec2 p => ?_
    rw [← st2.cv l]
    obtain ⟨r, e1, e2⟩ := thenB g2 p
    exact cmpop_ok g2 e1 e2
  | chain o o' a b c =>
    simp only [evE] at p
    refine d.be (a := a) O g s rfl p fun x h1 α1 H1 st g1 l s1 ec p => ?_
    refine d.be (a := b) O g1 s1 ec p fun y h2 α2 H2 st2 g2 l2 s2 ec2 p => ?_
    rw [← st2.cv l]
    split at p
    · rename_i q
      refine cmpop_ok g2 q ⟨true, rfl, ?_⟩
      show rdE P K gm EW c _ H2 _
      refine d.be (a := c) O g2 s2 ec2 p fun z h3 α3 H3 st3 g3 l3 s3 ec3 p => ?_
      rw [← st3.cv l2]
      obtain ⟨r, e1, e2⟩ := thenB g3 p
      exact cmpop_ok g3 e1 e2
    · rename_i q
      exact cmpop_ok g2 q ⟨false, rfl, p α2 H2 (Step.refl g2) trivial⟩
    · exact p.elim
  | andV a b =>
    simp only [evE] at p
    refine d.be (a := a) O g s rfl p fun x h1 α1 H1 st g1 l s1 ec p => ?_
    split at p
    · refine ⟨true, rfl, ?_⟩
      show rdE P K gm EW b _ H1 Q
      rw [← ec]; exact d.e g1 s1 (by rw [ec]; exact p)
    · exact ⟨false, rfl, p α1 H1 (Step.refl g1) trivial⟩
    · exact p.elim
  | orV a b =>
    simp only [evE] at p
    refine d.be (a := a) O g s rfl p fun x h1 α1 H1 st g1 l s1 ec p => ?_
    split at p
    · exact ⟨true, rfl, p α1 H1 (Step.refl g1) trivial⟩
    · refine ⟨false, rfl, ?_⟩
      show rdE P K gm EW b _ H1 Q
      rw [← ec]; exact d.e g1 s1 (by rw [ec]; exact p)
    · exact p.elim
  | notV a =>
    simp only [evE] at p
    refine d.be (a := a) O g s rfl p fun x h1 α1 H1 st g1 l s1 ec p => ?_
    split at p
    · exact ⟨_, rfl, p α1 H1 (Step.refl g1) trivial⟩
    · exact p.elim
  | iff t a b =>
    simp only [evE] at p
    refine d.bt (a := t) O g s rfl p fun c h1 α1 H1 st g1 s1 ec p => ?_
    cases c with
    | true => show rdE P K gm EW a _ H1 Q; rw [← ec]; exact d.e g1 s1 (by rw [ec]; exact p)
    | false => show rdE P K gm EW b _ H1 Q; rw [← ec]; exact d.e g1 s1 (by rw [ec]; exact p)
  | call f args =>
    simp only [evE] at p
    refine d.ba (a := args) O g s rfl p fun vs h1 α1 H1 st g1 l s1 ec p _ => ?_
    exact spI_of g1 l p
  | make C args =>
    simp only [evE] at p
    show (match P.init C with | some f => tMakeS (gm C) (spI P K gm f) EW (rdA P K gm EW args) | none => fun _ _ _ => False) (cs gm α σ) H Q
    cases q : P.init C with
    | none =>
      simp only [q] at p
      exact (show False from p).elim
    | some f =>
      simp only [q] at p
      refine d.ba (a := args) O g s rfl p fun vs h1 α1 H1 st g1 l s1 ec p _ => ?_
      intro x dx hx hdx ne
      have sa := g1.alloc2 (o := .ins C []) (ho := .ins (gm C) dx []) (hd := .own x) hx hdx ne (fun p hp => nomatch hp) ⟨dx, upd_same⟩
      have ex : cv gm (bump α1 h1.n x) (.ref h1.n) = .ref x := by show V.ref _ = _; rw [bump_same]
      have ev : cvs gm (bump α1 h1.n x) (.ref h1.n :: vs) = .ref x :: cvs gm α1 vs := by
        show cv gm _ (.ref h1.n) :: cvs gm _ vs = _
        rw [ex, sa.cvs l]
      rw [← ev]
      refine spI_of (n := n) sa.good (fun v hv => (List.mem_cons.mp hv).elim (fun e => by rw [e]; exact Nat.lt_succ_self _) fun m => (l v m).mono (Nat.le_succ _)) ?_
      cases qc : callD P n f (.ref h1.n :: vs) (h1.push (.ins C [])) with
      | bad => rw [qc] at p; exact p.elim
      | exc c h2 => rw [qc] at p; exact (O.step sa p)
      | ok v h2 =>
        rw [qc] at p
        intro α' H' s' lv
        have fin : Then K gm α1 h1 H1 (.ref h1.n) h2 Q → (V.non = V.non ∧ Q (.ref x) H') := fun p => by
          refine ⟨rfl, ?_⟩
          have z := p α' H' (sa.trans s') (Nat.lt_of_lt_of_le (Nat.lt_succ_self _) s'.le)
          have e3 : cv gm α' (.ref h1.n) = .ref x := by rw [s'.cv (v := .ref h1.n) (Nat.lt_succ_self _), ex]
          rw [e3] at z
          exact z
        cases v with
        | non => exact fin p
        | bl _ => exact (show False from p).elim
        | int _ => exact (show False from p).elim
        | str _ => exact (show False from p).elim
        | ref _ => exact (show False from p).elim
        | ty _ => exact (show False from p).elim
        | gl _ => exact (show False from p).elim
  | meth C m f o args =>
    simp only [evE] at p
    refine d.be (a := o) O g s rfl p fun x h1 α1 H1 st g1 l s1 ec pp => ?_
    split at pp
    · rename_i i
      split at pp
      · rename_i D fs q
        split at pp
        · rename_i hc
          obtain ⟨rfl, hm⟩ := hc
          obtain ⟨lf, dx, c⟩ := ins_at g1 q
          refine ⟨_, dx, _, rfl, c, ?_, ?_⟩
          · rw [getF_ok]
            cases e : getF m fs with
            | none => rfl
            | some v => rw [e] at hm; cases hm
          · refine d.ba (a := args) O g1 s1 ec pp fun vs h2 α2 H2 st2 g2 l2 s2 ec2 p _ => ?_
            have ev : V.ref (α1 i) :: cvs gm α2 vs = cvs gm α2 (.ref i :: vs) := by
              show _ = cv gm α2 (.ref i) :: _
              rw [st2.cv (v := .ref i) l]
              rfl
            show spI P K gm f (V.ref (α1 i) :: cvs gm α2 vs) H2 Q _
            rw [ev]
            exact spI_of g2 (fun v hv => (List.mem_cons.mp hv).elim (fun e => by rw [e]; exact AV.lt.mono st2.le l) (l2 v)) p
        · exact pp.elim
      · exact pp.elim
    · exact pp.elim
  | prop C f o =>
    simp only [evE] at p
    refine d.be (a := o) O g s rfl p fun x h1 α1 H1 st g1 l s1 ec pp => ?_
    split at pp
    · rename_i i
      split at pp
      · rename_i D fs q
        split at pp
        · rename_i hc
          subst hc
          obtain ⟨lf, dx, c⟩ := ins_at g1 q
          refine ⟨_, dx, _, rfl, c, ?_⟩
          refine spI_of (n := n) (vs := [.ref i]) g1 (fun v hv => by rw [List.mem_singleton.mp hv]; exact l) ?_
          cases qc : callD P n f [.ref i] h1 with
          | ok v h2 => rw [qc] at pp; exact pp
          | exc c h2 => rw [qc] at pp; exact pp.elim
          | bad => rw [qc] at pp; exact pp.elim
        · exact pp.elim
      · exact pp.elim
    · exact pp.elim
  | fld f o =>
    simp only [evE] at p
    refine d.be (a := o) O g s rfl p fun x h1 α1 H1 st g1 l s1 ec p => ?_
    split at p
    · rename_i i
      split at p
      · rename_i C fs q
        split at p
        · rename_i hf
          split at p
          · rename_i v ev
            obtain ⟨lf, dx, c⟩ := ins_at g1 q
            obtain ⟨f1, f2⟩ := F.fld C f hf
            refine ⟨_, _, dx, _, cv gm α1 v, rfl, c, f1, f2, by rw [getF_ok, ev]; rfl, p α1 H1 (Step.refl g1) ?_⟩
            obtain ⟨pr, h1', h2'⟩ := getF_mem ev
            rw [← h2']
            exact lf pr h1'
          · exact p.elim
        · exact p.elim
      · exact p.elim
    · exact p.elim
  | bi b args =>
    simp only [evE] at p
    refine d.ba (a := args) O g s rfl p fun vs h1 α1 H1 st g1 l s1 ec p _ => ?_
    cases q : bfn b h1 vs with
    | ok v h2 => rw [q] at p; exact bfn_ok g1 q p l
    | bad => rw [q] at p; exact p.elim
    | exc c h2 =>
      exfalso
      unfold bfn at q
      repeat' (split at q)
      all_goals cases q
  | bm m o args =>
    simp only [evE] at p
    refine d.be (a := o) O g s rfl p fun x h1 α1 H1 st g1 l s1 ec p => ?_
    split at p
    · rename_i i
      split at p
      · rename_i xs es
        obtain ⟨_, a, ea, sa⟩ := seqL_ok (K := K) g1 es
        cases ea
        refine ⟨?_, ?_⟩
        · exact .inl ⟨rfl, _, sa⟩
        · refine d.ba (a := args) O g1 s1 ec p fun vs h2 α2 H2 st2 g2 l2 s2 ec2 p _ => ?_
          rw [← st2.cv (v := .ref i) l]
          cases q : bmf m h2 (.ref i) vs with
          | ok v h3 => rw [q] at p; exact bmf_ok g2 l2 q p
          | bad => rw [q] at p; exact p.elim
          | exc c h3 =>
            exfalso
            unfold bmf at q
            repeat' (split at q)
            all_goals cases q
      · exact p.elim
    · exact p.elim
  | mkx C a =>
    simp only [evE] at p
    refine d.be (a := a) O g s rfl p fun x h1 α1 H1 st g1 l s1 ec p => ?_
    intro t b nt nb ne
    have st1 := g1.alloc (p := t) (o := .tup [x]) (ho := .tup [cv gm α1 x]) nt (fun v hv => by rw [List.mem_singleton.mp hv]; exact l) (by show upd _ _ _ _ = _; rw [upd_same]; rfl)
    have st2 := st1.good.alloc (p := b) (o := .exc C (some h1.n) none) (ho := exV (.ref (gm C)) (some t) none b) (by rw [upd_ne ne]; exact nb) (show (∀ i, some h1.n = some i → i < h1.n + 1) ∧ ∀ i, (none : Option Nat) = some i → i < h1.n + 1 from ⟨fun i e => by cases e; exact Nat.lt_succ_self _, fun i e => nomatch e⟩) ⟨_, upd_same, by
      show ExK _ (some (bump α1 h1.n t h1.n)) _ _ _; rw [bump_same]; exact exV_is⟩
    have z := p _ _ (st1.trans st2) (Nat.lt_succ_self (h1.n + 1))
    have e : cv gm (bump (bump α1 h1.n t) (h1.push (.tup [x])).n b) (.ref (h1.n + 1)) = .ref b := by show V.ref _ = _; exact congrArg V.ref bump_same
    rw [e] at z
    exact z
  | mks C f a =>
    simp only [evE] at p
    refine d.be (a := a) O g s rfl p fun x h1 α1 H1 st g1 l s1 ec p => ?_
    cases x with
    | int i =>
      simp only at p
      split at p
      · rename_i hc
        refine ⟨i, rfl, hc.1, hc.2, fun t b nt nb ne => ?_⟩
        have st1 := g1.alloc (p := t) (o := .xd [(f, .int i)]) (ho := .xd [(f, .int i)]) nt (fun v hv => by rw [List.mem_singleton.mp hv]; trivial) (by show upd _ _ _ _ = _; rw [upd_same]; rfl)
        have st2 := st1.good.alloc (p := b) (o := .exc C none (some h1.n)) (ho := exV (.ref (gm C)) none (some t) b) (by rw [upd_ne ne]; exact nb) (show (∀ i, (none : Option Nat) = some i → i < h1.n + 1) ∧ ∀ i, some h1.n = some i → i < h1.n + 1 from ⟨fun i e => (nomatch e), fun i e => by cases e; exact Nat.lt_succ_self _⟩) ⟨_, upd_same, by
          show ExK _ _ (some (bump α1 h1.n t h1.n)) _ _; rw [bump_same]; exact exV_is⟩
        have z := p _ _ (st1.trans st2) (Nat.lt_succ_self (h1.n + 1))
        have e : cv gm (bump (bump α1 h1.n t) (h1.push (.xd [(f, .int i)])).n b) (.ref (h1.n + 1)) = .ref b := by show V.ref _ = _; exact congrArg V.ref bump_same
        rw [e] at z
        exact z
      · exact p.elim
    | _ => exact p.elim
  | xfld f a =>
    simp only [evE] at p
    refine d.be (a := a) O g s rfl p fun x h1 α1 H1 st g1 l s1 ec p => ?_
    split at p
    · rename_i r
      split at p
      · rename_i C ar dd q
        split at p
        · rename_i hx
          split at p
          · rename_i fs qd
            split at p
            · rename_i v qv
              obtain ⟨m, hm, em⟩ := getF_mem qv
              have lv : v.lt h1.n := by rw [← em]; exact (g1.at_ _ _ qd).2.1 m hm
              refine ⟨α1 r, gm C, α1 dd, ar.map α1, _, cv gm α1 v, rfl, (g1.at_ _ _ q).2.2, (g1.at_ _ _ qd).2.2, F.xf C f hx, ?_, p α1 H1 (Step.refl g1) lv⟩
              rw [getF_ok, qv]; rfl
            · exact p.elim
          · exact p.elim
        · exact p.elim
      · exact p.elim
    · exact p.elim
  | strx a =>
    simp only [evE] at p
    refine d.be (a := a) O g s rfl p fun x h1 α1 H1 st g1 l s1 ec p => ?_
    split at p
    · rename_i r
      split at p
      · rename_i C t dd q
        split at p
        · rename_i hx
          split at p
          · rename_i m qd
            exact ⟨α1 r, α1 t, gm C, dd.map α1, m, rfl, (g1.at_ _ _ q).2.2, (g1.at_ _ _ qd).2.2, F.sx C hx, p α1 H1 (Step.refl g1) trivial⟩
          · exact p.elim
        · exact p.elim
      · exact p.elim
    · exact p.elim
  | isi a c =>
    simp only [evE] at p
    refine d.be (a := a) O g s rfl p fun x h1 α1 H1 st g1 l s1 ec p => ?_
    split at p
    · rename_i C ex
      split at p
      · rename_i hx
        split at p
        · rename_i b eb
          obtain ⟨k1, k2⟩ := F.kit _ c b eb
          obtain ⟨a1, ar, dd, e1, e2, e3⟩ := excA_ok g1 ex
          rw [e1]
          exact .inr ⟨a1, _, ar, dd, _, _, b, rfl, e2, e3, F.isx C hx, k1, k2, p α1 H1 (Step.refl g1) trivial⟩
        · exact p.elim
      · exact p.elim
    · split at p
      · rename_i t et
        split at p
        · rename_i hp
          split at p
          · rename_i b eb
            obtain ⟨k1, k2⟩ := F.kit t c b eb
            refine .inl ⟨_, _, _, _, b, rfl, k1, tyA_ok g1 et (fun C e => F.ins C c b ?_ (by rw [← e]; exact eb)), k2, p α1 H1 (Step.refl g1) trivial⟩
            rw [e] at hp
            exact Bool.not_eq_true' _ ▸ hp
          · exact p.elim
        · exact p.elim
      · exact p.elim
  | ix a b =>
    simp only [evE] at p
    refine d.be (a := a) O g s rfl p fun x h1 α1 H1 st g1 l s1 ec p => ?_
    refine d.be (a := b) O g1 s1 ec p fun y h2 α2 H2 st2 g2 l2 s2 ec2 p => ?_
    rw [← st2.cv l]
    split at p
    · rename_i v ev
      exact ixop_ok g2 ev fun lv => p α2 H2 (Step.refl g2) lv
    · exact p.elim
  | sl a lo hi =>
    simp only [evE] at p
    refine d.be (a := a) O g s rfl p fun x h1 α1 H1 st g1 l s1 ec p => ?_
    refine d.bo (a := lo) O g1 s1 ec p fun u h2 α2 H2 st2 g2 s2 ec2 p => ?_
    refine d.bo (a := hi) O g2 s2 ec2 p fun w h3 α3 H3 st3 g3 s3 ec3 p => ?_
    rw [← (st2.trans st3).cv l]
    cases q : slop h3 x u w with
    | ok v h4 => rw [q] at p; exact slop_ok g3 q p
    | bad => rw [q] at p; exact p.elim
    | exc c h4 =>
      exfalso
      unfold slop at q
      repeat' (split at q)
      all_goals cases q
  | rev a =>
    simp only [evE] at p
    refine d.be (a := a) O g s rfl p fun x h1 α1 H1 st g1 l s1 ec p => ?_
    split at p
    · rename_i xs es
      obtain ⟨lx, b, eb, sb⟩ := seqL_ok (K := K) g1 es
      exact ⟨b, _, eb, sb, fun r hr => Then.new g1 p hr (fun v hv => lx v (List.mem_reverse.mp hv)) (by show upd _ _ _ _ = _; rw [upd_same]; unfold cvs; rw [List.map_reverse])⟩
    · exact p.elim
  | lst es =>
    simp only [evE] at p
    refine d.ba (a := es) O g s rfl p fun vs h1 α1 H1 st g1 l s1 ec p _ => ?_
    split at p
    · rename_i hl
      exact ⟨by rw [cvs_length]; exact le_line hl, fun r hr => Then.new g1 p hr l upd_same⟩
    · exact p.elim
  | tup es =>
    simp only [evE] at p
    refine d.ba (a := es) O g s rfl p fun vs h1 α1 H1 st g1 l s1 ec p _ => ?_
    split at p
    · rename_i hl
      exact ⟨by rw [cvs_length]; exact le_line hl, fun r hr => Then.new g1 p hr l upd_same⟩
    · exact p.elim
  | dnew =>
    simp only [evE] at p
    exact fun r hr => Then.new g p hr (fun q hq => nomatch hq) upd_same
  | disp es =>
    simp only [evE] at p
    intro D hD
    have sa := g.alloc (o := .dK []) (ho := .dK []) hD (fun v hv => nomatch hv) upd_same
    cases q : evA P n σ es (h.push (.dK [])) with
    | bad => simp only [q] at p; exact (show False from p).elim
    | exc c h1 => simp only [q] at p; exact (show False from p).elim
    | ok vs h1 =>
      simp only [q] at p
      cases q2 : putsA h.n vs h1 with
      | none => simp only [q2] at p; exact (show False from p).elim
      | some h2 =>
        simp only [q2] at p
        have even : es.length % 2 = 0 := by rw [← evA_len n σ es _ vs h1 q]; exact putsA_even q2
        rw [tPairs_eq es even, ← sa.cs s]
        refine d.a sa.good (s.mono sa.le) ?_
        rw [q]
        intro α1 H1 st l
        have eD : α1 h.n = D := (st.ext h.n (Nat.lt_succ_self _)).trans bump_same
        rw [← eD]
        exact putsA_ok st.good l q2 fun H2 s2 => p α1 H2 ((sa.trans st).trans s2) (Nat.lt_of_lt_of_le (Nat.lt_of_lt_of_le (Nat.lt_succ_self h.n) st.le) s2.le)
  | lc e own t i src cnd =>
    simp only [evE] at p
    cases qa : evA P n σ src h with
    | bad => simp only [qa] at p; exact (show False from p).elim
    | exc c h1 => simp only [qa] at p; exact (show False from p).elim
    | ok vs h1 =>
      simp only [qa] at p
      cases ew : wkO own t i h1 vs with
      | none => simp only [ew] at p; exact (show False from p).elim
      | some wu =>
        obtain ⟨w, h2, u⟩ := wu
        simp only [ew] at p
        obtain ⟨ho, ew⟩ := wkO_some ew
        have core : ∀ Q' : VK, (∀ v h3, lcL P n (wipeA σ own) e own t cnd w h2.n 0 (h2.push (.lst [])) = .ok v h3 → ∀ α3 H3, Step K gm α h H α3 h3 H3 → (∀ r, u = some r → ∀ v, r < h.n → h.get r = some v → v.fro = false) → v.lt h3.n → Q' (cv gm α3 v) H3) →
            tLc (rdI P K gm EW i src) (rdG K t) (rdT P K gm EW0 cnd) (rdE P K gm EW0 e) own (cs gm α σ) H Q' := fun Q' hQ => by
          refine rdI_ok d g s qa ew fun α1 H1 J st lw nf => ?_
          intro D hD
          have sa := st.good.alloc (o := .lst []) (ho := .lst []) hD (fun v hv => nomatch hv) upd_same
          have s2 := st.trans sa
          rw [← s2.cs s]
          have pb : Then' K gm α h H Q' (fun _ _ _ => False) (lcL P n (wipeA σ own) e own t cnd w h2.n 0 (h2.push (.lst []))) := by
            cases ql : lcL P n (wipeA σ own) e own t cnd w h2.n 0 (h2.push (.lst [])) with
            | ok v h3 => exact fun α3 H3 s3 l3 => hQ v h3 ql α3 H3 s3 nf l3
            | exc c h3 => rw [ql] at p; exact p.elim
            | bad => rw [ql] at p; exact p.elim
          exact lc_ok (fun m hm => IH m (by omega)) (D := D) (by rw [bump_same]) (Nat.lt_succ_self h2.n) (lw.step st.good sa) (s.mono s2.le) (fun v h1 _ _ σ' _ e => own_ok ho v h1 σ' e) sa.good (postE.step s2 pb)
        exact dictE_ok (i := i) ew core g p
  | dc ke ve own t i src cnd =>
    simp only [evE] at p
    cases qa : evA P n σ src h with
    | bad => simp only [qa] at p; exact (show False from p).elim
    | exc c h1 => simp only [qa] at p; exact (show False from p).elim
    | ok vs h1 =>
      simp only [qa] at p
      cases ew : wkO own t i h1 vs with
      | none => simp only [ew] at p; exact (show False from p).elim
      | some wu =>
        obtain ⟨w, h2, u⟩ := wu
        simp only [ew] at p
        obtain ⟨ho, ew⟩ := wkO_some ew
        have core : ∀ Q' : VK, (∀ v h3, dcL P n (wipeA σ own) ke ve own t cnd w h2.n 0 (h2.push (.dK [])) = .ok v h3 → ∀ α3 H3, Step K gm α h H α3 h3 H3 → (∀ r, u = some r → ∀ v, r < h.n → h.get r = some v → v.fro = false) → v.lt h3.n → Q' (cv gm α3 v) H3) →
            tDcJ (rdI P K gm EW i src) (rdG K t) (rdT P K gm EW0 cnd) (rdE P K gm EW0 ke) (rdE P K gm EW0 ve) own (cs gm α σ) H Q' := fun Q' hQ => by
          refine rdI_ok d g s qa ew fun α1 H1 J st lw nf => ?_
          intro D hD
          have sa := st.good.alloc (o := .dK []) (ho := .dK []) hD (fun v hv => nomatch hv) upd_same
          have s2 := st.trans sa
          rw [← s2.cs s]
          have pb : Then' K gm α h H Q' (fun _ _ _ => False) (dcL P n (wipeA σ own) ke ve own t cnd w h2.n 0 (h2.push (.dK []))) := by
            cases ql : dcL P n (wipeA σ own) ke ve own t cnd w h2.n 0 (h2.push (.dK [])) with
            | ok v h3 => exact fun α3 H3 s3 l3 => hQ v h3 ql α3 H3 s3 nf l3
            | exc c h3 => rw [ql] at p; exact p.elim
            | bad => rw [ql] at p; exact p.elim
          exact dc_ok (fun m hm => IH m (by omega)) (D := D) (by rw [bump_same]) (Nat.lt_succ_self h2.n) (lw.step st.good sa) (s.mono s2.le) ho sa.good (postE.step s2 pb)
        exact dictE_ok (i := i) ew core g p

/-! statements -/
theorem dictS_ok {i : Itk} {vs : List AV} {w : Wk} {h2 hw : AH} {u : Option Nat} {ts : TS} {o : SO} {D : Ends} (ew : wk i hw vs = some (w, h2, u))
    (core : ∀ D' : Ends, ((∀ r, u = some r → ∀ v, r < h.n → h.get r = some v → v.fro = false) → ThenS K gm α h H D' EW o) → ts D' σc H)
    (g : Good K gm α h H) (p : ThenS K gm α h H D EW (unlS u o)) : dictS i ts D σc H := by
  have up : ∀ {h3 h4 : AH}, unl u h3 = some h4 → h4.n = h3.n := unl_n
  cases hi : i.dict with
  | false =>
    have eu := wk_u ew hi
    subst eu
    unfold dictS
    rw [hi]
    refine core D fun _ => ?_
    cases o with
    | nx _ _ => exact p
    | rt _ _ => exact p
    | exc _ _ _ => exact p
    | bk _ _ => exact p.elim
    | ct _ _ => exact p.elim
    | bad => exact p.elim
  | true =>
    unfold dictS
    rw [hi]
    refine core _ fun nf => ?_
    cases o with
    | nx σ h3 =>
      have p : ThenS K gm α h H D EW (match unl u h3 with | some h' => .nx σ h' | none => .bad) := p
      cases q : unl u h3 with
      | none => rw [q] at p; exact p.elim
      | some h4 =>
        rw [q] at p
        intro α3 H3 st l
        obtain ⟨H4, f, s4⟩ := unl_ok g st nf q
        exact ⟨H4, f, p α3 H4 s4 (by rw [up q]; exact l)⟩
    | rt v h3 =>
      have p : ThenS K gm α h H D EW (match unl u h3 with | some h' => .rt v h' | none => .bad) := p
      cases q : unl u h3 with
      | none => rw [q] at p; exact p.elim
      | some h4 =>
        rw [q] at p
        intro α3 H3 st l
        obtain ⟨H4, f, s4⟩ := unl_ok g st nf q
        exact ⟨H4, f, p α3 H4 s4 (by rw [up q]; exact l)⟩
    | exc _ _ _ => exact p
    | bk _ _ => exact p.elim
    | ct _ _ => exact p.elim
    | bad => exact p.elim

theorem hasF_true {f : Str} {l : List Str} (h : hasF f l = true) : hasF f l = true := h
theorem sd_ss (d : Sd P K gm n) {ss : List S} {D : Ends} (g : Good K gm α h H) (s : SLt σ h.n) (p : ThenS K gm α h H D EW (evSs P (n + 1) σ ss h)) : rdSs P K gm EW ss D (cs gm α σ) H := by
  match ss with
  | [] => simp only [evSs] at p; exact p α H (Step.refl g) s
  | a :: r =>
    simp only [evSs] at p
    have go : rdS P K gm EW a { D with nx := rdSs P K gm EW r D } (cs gm α σ) H := by
      refine d.s g s ?_
      cases q : evS P n σ a h with
      | nx σ' h1 => simp only [q] at p; exact fun α1 H1 st l => d.ss st.good l (postS st p)
      | rt v h1 => simp only [q] at p; exact p
      | bk σ' h1 => simp only [q] at p; exact p
      | ct σ' h1 => simp only [q] at p; exact p
      | exc c σ' h1 => simp only [q] at p; exact p
      | bad => simp only [q] at p; exact p
    cases r with
    | nil =>
      have e : (fun σ H => rdSs P K gm EW [] D σ H) = D.nx := rfl
      exact go
    | cons b r => exact go
theorem sd_s (F : Facts P K gm) (IH : ∀ m, m < n + 1 → Sd P K gm m) {st0 : S} {D : Ends} (g : Good K gm α h H) (s : SLt σ h.n) (p : ThenS K gm α h H D EW (evS P (n + 1) σ st0 h)) : rdS P K gm EW st0 D (cs gm α σ) H := by
  have d := IH n (Nat.lt_succ_self n)
  -- an exception of an expression, at these slots
  have ex : ∀ {c : Nat} {α : Nat → Addr} {h : AH} {H : Hp} {h1 : AH} {σ : SA}, SLt σ h.n → ThenS K gm α h H D EW (.exc c σ h1) → ∀ α' H', Step K gm α h H α' h1 H' → EW (cs gm α σ) (.ref (gm c)) none H' := fun {c α h H h1 σ} s p α' H' st => by
    have z := p α' H' st (s.mono st.le)
    rw [st.cs s] at z
    exact z
  cases st0 with
  | asg i e =>
    simp only [evS] at p
    refine d.e g s ?_
    cases q : evE P n σ e h with
    | bad => simp only [q] at p; exact p
    | exc c h1 => simp only [q] at p; exact ex s p
    | ok v h1 =>
      simp only [q] at p
      intro α1 H1 st l
      show D.nx ((cs gm α σ).set i (some (cv gm α1 v))) H1
      have z := p α1 H1 st ((s.mono st.le).set l)
      rw [cs_set, st.cs s] at z
      exact z
  | asgT is e =>
    simp only [evS] at p
    refine d.e g s ?_
    cases q : evE P n σ e h with
    | bad => simp only [q] at p; exact p
    | exc c h1 => simp only [q] at p; exact ex s p
    | ok v h1 =>
      simp only [q] at p
      intro α1 H1 st l
      cases qp : put h1 (.tp is) σ v with
      | none => simp only [qp] at p; exact (show False from p).elim
      | some σ' =>
        simp only [qp] at p
        rw [← st.cs s]
        exact put_ok st.good qp (s.mono st.le) l fun sl => p α1 H1 st sl
  | par i j e1 e2 =>
    simp only [evS] at p
    refine d.a g s ?_
    have len := evA_len (P := P) n σ [e1, e2] h
    cases q : evA P n σ [e1, e2] h with
    | bad => simp only [q] at p; exact (show False from p).elim
    | exc c h1 => simp only [q] at p; exact ex s p
    | ok vs h1 =>
      simp only [q] at p
      intro α1 H1 st l
      have len := len vs h1 q
      match vs, len with
      | [v, w], _ =>
        refine ⟨_, _, rfl, ?_⟩
        have z := p α1 H1 st (((s.mono st.le).set (l v List.mem_cons_self)).set (l w (List.mem_cons_of_mem _ List.mem_cons_self)))
        rw [cs_set, cs_set, st.cs s] at z
        exact z
  | sub o i e =>
    simp only [evS] at p
    refine d.e g s ?_
    cases q : evE P n σ e h with
    | bad => simp only [q] at p; exact p
    | exc c h1 => simp only [q] at p; exact ex s p
    | ok v h1 =>
      simp only [q] at p
      intro α1 H1 st1 l1
      show rdE P K gm EW o (cs gm α σ) H1 _
      rw [← st1.cs s]
      refine d.e st1.good (s.mono st1.le) ?_
      cases q2 : evE P n σ o h1 with
      | bad => simp only [q2] at p; exact p
      | exc c h2 => simp only [q2] at p; exact ex (s.mono st1.le) (postS st1 p)
      | ok x h2 =>
        simp only [q2] at p
        intro α2 H2 st2 l2
        have s2 := (s.mono st1.le).mono st2.le
        show rdE P K gm EW i (cs gm α1 σ) H2 _
        rw [← st2.cs (s.mono st1.le)]
        refine d.e st2.good s2 ?_
        cases q3 : evE P n σ i h2 with
        | bad => simp only [q3] at p; exact p
        | exc c h3 => simp only [q3] at p; exact ex s2 (postS (st1.trans st2) p)
        | ok y h3 =>
          simp only [q3] at p
          intro α3 H3 st3 l3
          cases qs : setop h3 x y v with
          | none => simp only [qs] at p; exact (show False from p).elim
          | some h4 =>
            simp only [qs] at p
            rw [← (st2.trans st3).cv l1, ← st3.cv l2]
            refine setop_ok st3.good ((l1.mono st2.le).mono st3.le) qs fun H' st4 => ?_
            have z := p α3 H' (((st1.trans st2).trans st3).trans st4) ((s2.mono st3.le).mono st4.le)
            rw [st3.cs s2] at z
            exact z
  | fld C f o e =>
    simp only [evS] at p
    refine d.e g s ?_
    cases q : evE P n σ e h with
    | bad => simp only [q] at p; exact p
    | exc c h1 => simp only [q] at p; exact ex s p
    | ok v h1 =>
      simp only [q] at p
      intro α1 H1 st1 l1
      show rdE P K gm EW o (cs gm α σ) H1 _
      rw [← st1.cs s]
      refine d.e st1.good (s.mono st1.le) ?_
      cases q2 : evE P n σ o h1 with
      | bad => simp only [q2] at p; exact (show False from p).elim
      | exc c h2 => simp only [q2] at p; exact ex (s.mono st1.le) (postS st1 p)
      | ok x h2 =>
        simp only [q2] at p
        intro α2 H2 st2 l2
        have s2 := (s.mono st1.le).mono st2.le
        cases x with
        | ref i =>
          simp only at p
          cases qi : h2.get i with
          | none => simp only [qi] at p; exact (show False from p).elim
          | some ob =>
            cases ob with
            | ins D' fs =>
              simp only [qi] at p
              split at p
              · rename_i hc
                obtain ⟨e0, hf, hl⟩ := hc
                rw [e0] at qi
                obtain ⟨lf, dx, c⟩ := ins_at st2.good qi
                obtain ⟨f1, f2⟩ := F.fld C f hf
                refine ⟨_, _, dx, _, rfl, c, f1, f2, by rw [List.length_map]; exact hl, ?_⟩
                have w := st2.good.write (o' := .ins C (putFA f v fs)) (ho := .ins (gm C) dx (putF f (cv gm α2 v) (fs.map fun p => (p.1, cv gm α2 p.2)))) qi (fun p hp => (putFA_mem hp).elim (fun e => by rw [e]; exact l1.mono st2.le) (lf p)) ⟨dx, by rw [upd_same, putFA_ok]⟩
                rw [← st2.cv l1]
                have z := p α2 _ ((st1.trans st2).trans w) s2
                rw [st2.cs (s.mono st1.le)] at z
                exact z
              · exact (show False from p).elim
            | _ => simp only [qi] at p; exact (show False from p).elim
        | non => exact (show False from p).elim
        | bl _ => exact (show False from p).elim
        | int _ => exact (show False from p).elim
        | str _ => exact (show False from p).elim
        | ty _ => exact (show False from p).elim
        | gl _ => exact (show False from p).elim
  | expr e =>
    simp only [evS] at p
    refine d.e g s ?_
    cases q : evE P n σ e h with
    | bad => simp only [q] at p; exact p
    | exc c h1 => simp only [q] at p; exact ex s p
    | ok v h1 =>
      simp only [q] at p
      intro α1 H1 st l
      have z := p α1 H1 st (s.mono st.le)
      rw [st.cs s] at z
      exact z
  | ret e =>
    simp only [evS] at p
    refine d.e g s ?_
    cases q : evE P n σ e h with
    | bad => simp only [q] at p; exact p
    | exc c h1 => simp only [q] at p; exact ex s p
    | ok v h1 => simp only [q] at p; exact p
  | retN => simp only [evS] at p; exact p α H (Step.refl g) trivial
  | ife t a b =>
    simp only [evS] at p
    refine d.t g s ?_
    cases q : evT P n σ t h with
    | bad => simp only [q] at p; exact p
    | exc c h1 => simp only [q] at p; exact ex s p
    | ok c h1 =>
      simp only [q] at p
      intro α1 H1 st
      cases c with
      | true =>
        simp only at p
        show rdSs P K gm EW a D (cs gm α σ) H1
        rw [← st.cs s]
        exact d.ss st.good (s.mono st.le) (postS st p)
      | false =>
        simp only at p
        show rdSs P K gm EW b D (cs gm α σ) H1
        rw [← st.cs s]
        exact d.ss st.good (s.mono st.le) (postS st p)
  | for_ t i src body =>
    simp only [evS] at p
    cases qa : evA P n σ src h with
    | bad => simp only [qa] at p; exact (show False from p).elim
    | exc c h1 => simp only [qa] at p; exact (show False from p).elim
    | ok vs h1 =>
      simp only [qa] at p
      cases ew : wk i h1 vs with
      | none => simp only [ew] at p; exact (show False from p).elim
      | some wu =>
        obtain ⟨w, h2, u⟩ := wu
        simp only [ew] at p
        exact dictS_ok (i := i) ew (fun D' hD => rdI_ok d g s qa ew fun α1 H1 J st lw nf => by
          rw [← st.cs s]
          exact for_ok (fun m hm => IH m (by omega)) lw (s.mono st.le) st.good (postS st (hD nf))) g p
  | whil t body =>
    simp only [evS] at p
    exact wh_ok (fun m hm => IH m (by omega)) s g p
  | try_ c i body suite =>
    simp only [evS] at p
    show rdSs P K gm (fun σ' cls d H' => wKeep K (.ref (gm c)) i (rdSs P K gm EW0 suite) (fun cls d σ H => EW σ cls d H) D cls d σ' H') body D (cs gm α σ) H
    refine d.ss g s ?_
    cases q : evSs P n σ body h with
    | nx σ1 h1 => simp only [q] at p; exact p
    | rt v h1 => simp only [q] at p; exact p
    | bk σ1 h1 => simp only [q] at p; exact p
    | ct σ1 h1 => simp only [q] at p; exact p
    | bad => simp only [q] at p; exact p
    | exc k σ1 h1 =>
      simp only [q] at p
      intro α1 H1 st l
      cases ex : P.exm k c with
      | none => simp only [ex] at p; exact (show False from p).elim
      | some b =>
        refine ⟨b, F.exm k c b ex, fun hb a ha => ?_, fun hb => ?_⟩
        · subst hb
          simp only [ex] at p
          have sa := st.good.alias (p := a) (o := .unk) trivial trivial
          have e1 : (cs gm α1 σ1).set i (some (.ref a)) = cs gm (bump α1 h1.n a) (setS σ1 i (.ref h1.n)) := by
            rw [cs_set, sa.cs l]
            show _ = (cs gm α1 σ1).set i (some (V.ref (bump α1 h1.n a h1.n)))
            rw [bump_same]
          rw [e1]
          refine d.ss sa.good ((l.mono sa.le).set (Nat.lt_succ_self h1.n)) ?_
          have named : ∀ {h2 h3 : AH} {α2 : Nat → Addr} {H2 : Hp}, nameE k h1.n h2 = some h3 → Step K gm (bump α1 h1.n a) (h1.push .unk) H1 α2 h2 H2 → H2 a = none → h3.n = h2.n ∧ Step K gm α h H α2 h3 (upd H2 a (exK (.ref (gm k)) a)) := fun {h2 h3 α2 H2} e3 s2 hna => by
            have eD : α2 h1.n = a := (s2.ext h1.n (Nat.lt_succ_self _)).trans bump_same
            unfold nameE at e3
            split at e3
            · rename_i er
              cases e3
              have sn := s2.good.named (o := .exc k none none) (ho := exK (.ref (gm k)) a) er (by rw [eD]; exact hna) ⟨fun _ z => (nomatch z), fun _ z => (nomatch z)⟩ ⟨_, upd_same, by rw [eD]; exact exK_is⟩
              rw [eD] at sn
              exact ⟨rfl, ((st.trans sa).trans s2).trans sn⟩
            · cases e3
          cases q2 : evSs P n (setS σ1 i (.ref h1.n)) suite (h1.push .unk) with
          | nx σ2 h2 =>
            rw [q2] at p
            have p : ThenS K gm α h H D EW (match nameE k h1.n h2 with | some h' => .nx (wipeA σ2 [i]) h' | none => .bad) := p
            cases q3 : nameE k h1.n h2 with
            | none => rw [q3] at p; exact p.elim
            | some h3 =>
              rw [q3] at p
              intro α2 H2 s2 l2 hna
              obtain ⟨en, s3⟩ := named q3 s2 hna
              have z := p α2 _ s3 (by rw [en]; exact l2.wipe [i])
              rw [cs_wipe] at z
              exact z
          | rt v h2 =>
            rw [q2] at p
            have p : ThenS K gm α h H D EW (match nameE k h1.n h2 with | some h' => .rt v h' | none => .bad) := p
            cases q3 : nameE k h1.n h2 with
            | none => rw [q3] at p; exact p.elim
            | some h3 =>
              rw [q3] at p
              intro α2 H2 s2 l2 hna
              obtain ⟨en, s3⟩ := named q3 s2 hna
              exact p α2 _ s3 (by rw [en]; exact l2)
          | bk σ2 h2 => rw [q2] at p; exact p.elim
          | ct σ2 h2 => rw [q2] at p; exact p.elim
          | bad => rw [q2] at p; exact p.elim
          | exc _ _ _ => rw [q2] at p; exact p.elim
        · subst hb
          simp only [ex] at p
          exact p α1 H1 st l
  | raise c => simp only [evS] at p; exact p α H (Step.refl g) s
  | pass => simp only [evS] at p; exact p α H (Step.refl g) s
  | brk => simp only [evS] at p; exact p α H (Step.refl g) s
  | cont => simp only [evS] at p; exact p α H (Step.refl g) s
  | never => simp only [evS] at p; exact p
theorem sound (F : Facts P K gm) (n : Nat) : Sd P K gm n := by
  induction n using Nat.strongRecOn with
  | ind n ih =>
    cases n with
    | zero =>
      exact ⟨fun _ _ p => (by unfold evE at p; exact p.elim), fun _ _ p => (by unfold evA at p; exact p.elim), fun _ _ p => (by unfold evT at p; exact p.elim), fun _ _ p => (by unfold evO at p; exact p.elim), fun _ _ p => (by unfold evS at p; exact p.elim), fun _ _ p => (by unfold evSs at p; exact p.elim)⟩
    | succ n =>
      have d := ih n (Nat.lt_succ_self n)
      exact ⟨fun g s p => sd_e F ih g s p, fun g s p => sd_a d g s p, fun g s p => sd_t F d g s p, fun g s p => sd_o d g s p, fun g s p => sd_s F ih g s p, fun g s p => sd_ss d g s p⟩
end
end J

set_option Elab.async false
set_option linter.all false
set_option maxRecDepth 100000
set_option maxHeartbeats 4000000
/-! defs whose bodies may show containers: the promise where nothing is being shown; calls of them -/
namespace J
open PySem PySem.Spec PyProof.Rows L2
abbrev St := L2.St

structure FnG (Pg : Program) (w : World) (K : PySem.W.Frag) (mg : Str → Option Value) (base : Heap) (k : Nat) (f : Addr) (fd : FuncData) (ps : List Str) (sp : Sp) : Prop where
  len : ∀ vs H Q Ex, sp vs H Q Ex → vs.length = ps.length
  run : ∀ (Ar : Around) (out : List Env) (st : Shared) (H : Hp) (ag : Args) (us : List Value) (vs : List V) (Q : VK) (Ex : XK), Room k Ar → Ar.guards = some [] → Env0 Pg w K mg base Ar out st H → BindsTo st fd ag (ps.zip us) → Vals vs us → sp vs H Q Ex →
    codeAny (model Pg w) Ar (.call (.ref f) ag) (CR (L2.CX Pg w) out Pg w H st Q Ex) st
section
variable {Pg : Program} {w : World} {K : PySem.W.Frag} {mg : Str → Option Value} {base : Heap} {k j : Nat} {f : Addr} {fd : FuncData} {ps : List Str} {sp : Sp}
theorem FnG.mono (F : FnG Pg w K mg base j f fd ps sp) (h : j ≤ k) : FnG Pg w K mg base k f fd ps sp := ⟨F.len, fun Ar out st H ag us vs Q Ex room => F.run Ar out st H ag us vs Q Ex (room.mono h)⟩
/-- a def of the text, by its body -/
theorem fnG_of {x qual : Str} {st0 : Stmt} {N : List Str} (F : Fun K x qual st0 f fd) (S : FnScope N ps (defScope st0)) (len : ∀ vs H Q Ex, sp vs H Q Ex → vs.length = ps.length)
    (body : ∀ (cdv : Value) (Ar : Around) (out : List Env) (st : Shared) (H : Hp) (vs : List V) (Q : VK) (Ex : XK), Room k (Ar.deeper (envOfC qual (defScope st0) st.heap.objs.size f cdv)) → Ar.guards = some [] → sp vs H Q Ex →
      ∃ t, PSs (cxOf (L2.CX Pg w) Pg w K mg base N qual (defScope st0) f cdv Ar out st H Ex) (defBody st0) t ∧ t { nx := fun _ H' => Q .non H', rt := Q } (start N vs) H) : FnG Pg w K mg base (k + 1) f fd ps sp := by
  obtain ⟨oc, od, kV, doc, pm, an, cdv, ct, osl, rfl, lk, hcd⟩ := F.ex
  refine ⟨len, fun Ar out st H ag us vs Q Ex room gd e0 bd rv hsp => ?_⟩
  have vl := len _ _ _ _ hsp
  have base_in : ∀ b o, base.get? b = some o → st.heap.get? b = some o := fun b o e => (e0.bs b o e).1
  have KX : K.In st.heap := e0.mod.kin.keeps base_in
  have kinds : ∀ y ∈ ps.zip us, (defScope st0).names.lookup y.1 = some .local ∨ ((defScope st0).names.lookup y.1 = some .cell ∧ ((cellsFrom (st.heap.objs.size + 1) (defScope st0).names []).lookup y.1).isSome = true) := by
    rintro ⟨nm, v⟩ hy
    rcases S.par nm (List.of_mem_zip hy).1 with q | q
    · exact .inl q
    · exact .inr ⟨q, PySem.W.cellsFrom_some _ _ _ (.inl q)⟩
  refine codeAny_call_function room.depth (KX _ _ lk) rfl S.co S.gen rfl (PySem.W.codeRec_of KX hcd) (bd _ _ _ _ ?_)
  refine wpAny_newFunctionEnv_cells S.kind kinds fun env he s1 ic => ?_
  subst he
  refine ⟨(e0.mod.nolimit.keeps base_in).keeps ic.toInCall.keep, codeAny_func ?_⟩
  obtain ⟨t, ht, hq⟩ := body cdv Ar out st H vs Q Ex (room.deeper _) gd hsp
  have I := inv_start (CX := L2.CX Pg w) (E := Ex) S room.hd e0 vl rv ic
  refine wpAny_mono (ht.run [] s1 (start N vs) H _ I hq) (fun fl s' hs => ?_) fun _ _ hs => hs
  cases fl with
  | ret u => obtain ⟨v, _, H', J, r, q⟩ := hs; exact ⟨v, H', J.os, J.bare, J.base, J.hok, r, q⟩
  | next => obtain ⟨_, H', J, q⟩ := hs; exact ⟨V.non, H', J.os, J.bare, J.base, J.hok, rfl, q⟩
  | brk => obtain ⟨_, _, _, q⟩ := hs; exact q.elim
  | cont => obtain ⟨_, _, _, q⟩ := hs; exact q.elim
end
section
variable {X : Cx} {k : Nat} {f C : Addr} {fd : FuncData} {ps : List Str} {sp : Sp} {EW : St → XK} {x m : Str} {p pos apos : Pos} {e o : Expr} {es : List Expr} {ta : TE} {t : TA}
theorem runG {pins : List (Addr × Obj)} {σ : St} {H : Hp} {s : Shared} {Q : VK} {us : List Value} {vs : List V} (F : FnG X.prog X.w X.K X.mg X.base k f fd ps sp) (hr : Room k X.A) (hg : X.A.guards = some []) (hb : Binds X.K fd ps []) (hx : PassesAt (L2.CX X.prog X.w) X σ (EW σ))
    (I : Inv X pins σ H s) (r : Vals vs us) (h : sp vs H Q (EW σ)) : wpAny (model X.prog X.w) X.A (call (.ref f) us) (EP X pins σ Q) X.xe s := by
  have ul : (us ++ []).length = ps.length := by rw [List.append_nil, ← r.length]; exact F.len _ _ _ _ h
  have bd := hb s us I.kIn ul
  rw [List.append_nil] at bd
  refine wpAny_call (codeAny_mono (F.run X.A X.stack s H ⟨us, []⟩ us vs Q (EW σ) hr hg I.env0 bd r h) fun res s' hq => ?_)
  match res, hq with
  | .error e, hq => exact hx pins H s e s' I hq
  | .ok (.ret u), hq => exact I.after hq
  | .ok .next, hq => exact False.elim hq
  | .ok .brk, hq => exact False.elim hq
  | .ok .cont, hq => exact False.elim hq
/-- f(e, ..) -/
theorem peG (F : FnG X.prog X.w X.K X.mg X.base k f fd ps sp) (hr : Room k X.A) (hg : X.A.guards = some []) (hgl : Gl X x) (hm : X.mg x = some (.ref f)) (hk : PySem.W.keepIn X.K (.ref f) = true) (hb : Binds X.K fd ps []) (hx : ∀ σ, PassesAt (L2.CX X.prog X.w) X σ (EW σ))
    (ha : PA X (e :: es) t) (hdb : (x == ("__debug__" : Str)) = false := by decide) (he : starEach (e :: es) X.env = (false, eval e X.env) :: starEach es X.env := by rfl) (hpl : (backTo pos (starEach es X.env)).any (·.1) = false := by rfl) :
    PE X (.Call (.Name x p) (e :: es) [] pos) (tCallS sp EW t) :=
  ⟨fun pins s σ H Q I h => wpAny_Call_Name_kw (ld_glob I hgl hm (PySem.W.callWith_K (h₀ := X.base) I.ok.mod.kin hk (thn (ha.run pos pins s σ H _ I h) fun us s1 ⟨vs, H1, I1, r, q⟩ => ⟨I1.kIn, runG F hr hg hb (hx σ) I1 r q⟩) he hpl) hdb)⟩
/-- f() -/
theorem peG0 (F : FnG X.prog X.w X.K X.mg X.base k f fd ps sp) (hr : Room k X.A) (hg : X.A.guards = some []) (hgl : Gl X x) (hm : X.mg x = some (.ref f)) (hk : PySem.W.keepIn X.K (.ref f) = true) (hb : Binds X.K fd ps []) (hx : ∀ σ, PassesAt (L2.CX X.prog X.w) X σ (EW σ))
    (hdb : (x == ("__debug__" : Str)) = false := by decide) : PE X (.Call (.Name x p) [] [] pos) (tCallS sp EW tNil) :=
  ⟨fun pins s σ H Q I h => wpAny_Call_Name_kw (ld_glob I hgl hm (PySem.W.callWith_K0 I.kIn hk (runG (us := []) F hr hg hb (hx σ) I .nil h)) hdb)⟩
/-- o.m(e, ..) -/
theorem peGm {pl : Sem Bool} (he : PE X o ta) (c : Cls X.K C) (hm : Meth X.K C m f) (F : FnG X.prog X.w X.K X.mg X.base k f fd ps sp) (hr : Room k X.A) (hg : X.A.guards = some []) (hb : Binds X.K fd ps []) (hx : ∀ σ, PassesAt (L2.CX X.prog X.w) X σ (EW σ)) (ha : PA X (e :: es) t)
    (hst : starEach (e :: es) X.env = (false, eval e X.env) :: starEach es X.env := by rfl) (hpl : (backTo pos (starEach es X.env)).any (·.1) = false := by rfl)
    (ht : eval (.Call (.Attribute o m apos) (e :: es) [] pos) X.env = (do let ov ← eval o X.env; standAt apos.atName; let (f, first) ← holding [ov] (getMethod ov m pl); callWith pos f first (backTo pos (starEach (e :: es) X.env)) (backToKw pos (keywordEach [] X.env))) := by rfl) :
    PE X (.Call (.Attribute o m apos) (e :: es) [] pos) (tMethS C m sp EW ta t) := by
  refine ⟨fun pins s σ H Q I h => PySem.W.methodCall_KW (pl := pl) (thn (he.run pins s σ H _ I h) fun u s1 ⟨y, H1, I1, ry, a, dx, fs, ey, ea, l, q⟩ => ?_) ht⟩
  subst ey
  cases (show u = Value.ref a from ry)
  refine getmeth_ok I1 ea c hm l (PySem.W.callWith_K (first := [.ref a]) (h₀ := X.base) I.ok.mod.kin hm.kp (thn (ha.run pos pins s1 σ H1 _ I1 q) fun us s2 ⟨vs, H2, I2, r, q2⟩ => ⟨I2.kIn, ?_⟩) hst hpl)
  exact runG (us := .ref a :: us) (vs := .ref a :: vs) F hr hg hb (hx σ) I2 (.cons rfl r) q2
/-- o.m() -/
theorem peGm0 {pl : Sem Bool} (he : PE X o ta) (c : Cls X.K C) (hm : Meth X.K C m f) (F : FnG X.prog X.w X.K X.mg X.base k f fd ps sp) (hr : Room k X.A) (hg : X.A.guards = some []) (hb : Binds X.K fd ps []) (hx : ∀ σ, PassesAt (L2.CX X.prog X.w) X σ (EW σ))
    (ht : eval (.Call (.Attribute o m apos) [] [] pos) X.env = (do let ov ← eval o X.env; standAt apos.atName; let (f, first) ← holding [ov] (getMethod ov m pl); callWith pos f first (backTo pos (starEach [] X.env)) (backToKw pos (keywordEach [] X.env))) := by rfl) :
    PE X (.Call (.Attribute o m apos) [] [] pos) (tMethS C m sp EW ta tNil) := by
  refine ⟨fun pins s σ H Q I h => PySem.W.methodCall_KW (pl := pl) (thn (he.run pins s σ H _ I h) fun u s1 ⟨y, H1, I1, ry, a, dx, fs, ey, ea, l, q⟩ => ?_) ht⟩
  subst ey
  cases (show u = Value.ref a from ry)
  exact getmeth_ok I1 ea c hm l (PySem.W.callWith_K0 (first := [.ref a]) I1.kIn hm.kp (runG (us := [.ref a]) (vs := [.ref a]) F hr hg hb (hx σ) I1 (.cons rfl .nil) q))
theorem guards_make {Ar : Around} {C : Addr} {us : List Value} {kw : List (Str × Value)} (h : Ar.guards = some []) : (Ar.under (.builtin "type.__call__" ⟨.ref C :: us, kw⟩)).guards = some [] := by
  show pushGuards (Code.guards (.builtin "type.__call__" ⟨.ref C :: us, kw⟩)) Ar.guards = _
  rw [h, pushGuards_eq]
  have : Code.guards (.builtin "type.__call__" ⟨.ref C :: us, kw⟩) = [] := by
    unfold Code.guards
    have : (Code.builtin "type.__call__" ⟨.ref C :: us, kw⟩).isGuard = false := by first | rfl | kernel_rfl | decide
    rw [this]
    rfl
  rw [this]
  rfl
/-- C(e, ..) -/
theorem makeG {pins : List (Addr × Obj)} {σ : St} {H : Hp} {s : Shared} {Q : VK} {us : List Value} {vs : List V} (M : Mk X.K C f) (F : FnG X.prog X.w X.K X.mg X.base k f fd ps sp) (hr : Room (k + 1) X.A) (hg : X.A.guards = some []) (hb : Binds X.K fd ps []) (hx : PassesAt (L2.CX X.prog X.w) X σ (EW σ)) (I : Inv X pins σ H s) (r : Vals vs us)
    (h : ∀ x dx, H x = none → H dx = none → dx ≠ x → sp (.ref x :: vs) (upd (upd H dx (.own x)) x (.ins C dx [])) (fun v H2 => v = .non ∧ Q (.ref x) H2) (EW σ)) : wpAny (model X.prog X.w) X.A (call (.ref C) us) (EP X pins σ Q) X.xe s := by
  have hq := h (s.heap.objs.size + 1) s.heap.objs.size (I.hok.fresh (Nat.le_succ _)) (I.hok.fresh (Nat.le_refl _)) (Nat.ne_of_lt (Nat.lt_succ_self _))
  have J := Inv.made (C := C) I
  have rr : Vals (V.ref (s.heap.objs.size + 1) :: vs) (Value.ref (s.heap.objs.size + 1) :: us) := .cons rfl r
  have hl : ((Value.ref (s.heap.objs.size + 1) :: us) ++ []).length = ps.length := by rw [List.append_nil, ← rr.length]; exact F.len _ _ _ _ hq
  have bd := hb _ (Value.ref (s.heap.objs.size + 1) :: us) J.kIn hl
  rw [List.append_nil] at bd
  refine wpAny_call (make_map (f := f) I.kIn M.makes M.init (beq_iff_eq.mp M.fn) (codeAny_mono (F.run _ X.stack _ _ ⟨Value.ref (s.heap.objs.size + 1) :: us, []⟩ (Value.ref (s.heap.objs.size + 1) :: us) _ _ (EW σ) (hr.make C us []) (guards_make hg) (J.env0.make C us []) bd rr hq) fun res s' hq' => ?_))
  match res, hq' with
  | .error e, hq' => exact hx pins _ _ e s' J hq'
  | .ok (.ret u), hq' =>
    obtain ⟨v, H', I3, rv, ev, q3⟩ := J.after hq'
    subst ev
    exact ⟨rv, ⟨V.ref (s.heap.objs.size + 1), H', I3, rfl, q3⟩⟩
  | .ok .next, hq' => exact False.elim hq'
  | .ok .brk, hq' => exact False.elim hq'
  | .ok .cont, hq' => exact False.elim hq'
theorem peMk (M : Mk X.K C f) (F : FnG X.prog X.w X.K X.mg X.base k f fd ps sp) (hr : Room (k + 1) X.A) (hg : X.A.guards = some []) (hgl : Gl X x) (hm : X.mg x = some (.ref C)) (hb : Binds X.K fd ps []) (hx : ∀ σ, PassesAt (L2.CX X.prog X.w) X σ (EW σ))
    (ha : PA X (e :: es) t) (hdb : (x == ("__debug__" : Str)) = false := by decide) (he : starEach (e :: es) X.env = (false, eval e X.env) :: starEach es X.env := by rfl) (hpl : (backTo pos (starEach es X.env)).any (·.1) = false := by rfl) :
    PE X (.Call (.Name x p) (e :: es) [] pos) (tMakeS C sp EW t) :=
  ⟨fun pins s σ H Q I h => wpAny_Call_Name_kw (ld_glob I hgl hm (PySem.W.callWith_K (h₀ := X.base) I.ok.mod.kin M.kp (thn (ha.run pos pins s σ H _ I h) fun us s1 ⟨vs, H1, I1, r, q⟩ => ⟨I1.kIn, makeG M F hr hg hb (hx σ) I1 r q⟩) he hpl) hdb)⟩
end
end J

set_option Elab.async false
set_option linter.all false
set_option maxRecDepth 100000
set_option maxHeartbeats 4000000
/-! a def by its compact body; the end of a law -/
namespace J
open PySem PySem.Spec PyProof.Rows L2
section
variable {Pg : Program} {w : World} {K : PySem.W.Frag} {mg : Str → Option Value} {base : Heap} {k j : Nat} {f : Addr} {fd : FuncData} {ps N : List Str} {P : Prog} {gm : Nat → Addr}
abbrev EWd (Ex : XK) : St → XK := fun _ cls d H => Ex cls d H
theorem callD_len {n i : Nat} {d : Def} {vs : List AV} {h : AH} (hd : P.defs[i]? = some d) (ne : callD P n i vs h ≠ .bad) : vs.length = d.np := by
  cases n with
  | zero => unfold callD at ne; exact (ne rfl).elim
  | succ n =>
    unfold callD at ne
    rw [hd] at ne
    simp only at ne
    split at ne
    · rename_i c; exact c.1
    · exact (ne rfl).elim
theorem spI_len {i : Nat} {d : Def} (hd : P.defs[i]? = some d) {vs : List V} {H : Hp} {Q : VK} {Ex : XK} (s : spI P K gm i vs H Q Ex) : vs.length = d.np := by
  obtain ⟨n, α, h, avs, g, l, rfl, t⟩ := s
  rw [cvs_length]
  refine callD_len (n := n) (h := h) hd fun e => ?_
  rw [e] at t
  exact t
theorem start_cs (α : Nat → Addr) (N : List Str) (avs : List AV) (nn : Nat) (e : N.length = nn) : L2.start N (cvs gm α avs) = cs gm α (avs.map some ++ List.replicate (nn - avs.length) none) := by
  unfold L2.start cs cvs
  rw [List.map_append, List.map_map, List.map_map, List.map_replicate, List.length_map, e]
  rfl
theorem SLt_start {avs : List AV} {n m : Nat} (l : ∀ v ∈ avs, v.lt n) : SLt (avs.map some ++ List.replicate m none) n := fun i v e => by
  have hm := List.mem_of_getElem? e
  rcases List.mem_append.mp hm with q | q
  · obtain ⟨x, hx, ex⟩ := List.mem_map.mp q
    cases ex
    exact l v hx
  · have := (List.mem_replicate.mp q).2
    cases this
/-- a def of the text keeps what the run of its compact body gives -/
theorem def_ok (Fa : Facts P K gm) {i : Nat} {d : Def} {x qual : Str} {st0 : Stmt} (hd : P.defs[i]? = some d) (hp : ps.length = d.np) (hN : N.length = d.nn) (F : Fun K x qual st0 f fd) (S : FnScope N ps (defScope st0))
    (body : ∀ (cdv : Value) (Ar : Around) (out : List Env) (st : Shared) (H : Hp) (Ex : XK), Room k (Ar.deeper (envOfC qual (defScope st0) st.heap.objs.size f cdv)) → Ar.guards = some [] →
      PSs (cxOf (L2.CX Pg w) Pg w K mg base N qual (defScope st0) f cdv Ar out st H Ex) (defBody st0) (rdSs P K gm (EWd Ex) d.body)) : FnG Pg w K mg base (k + 1) f fd ps (spI P K gm i) := by
  refine fnG_of F S (fun vs H Q Ex s => (spI_len hd s).trans hp.symm) fun cdv Ar out st H vs Q Ex room gd s => ⟨_, body cdv Ar out st H Ex room gd, ?_⟩
  obtain ⟨n, α, h, avs, g, l, rfl, t⟩ := s
  cases n with
  | zero => unfold callD at t; exact t.elim
  | succ n =>
    unfold callD at t
    rw [hd] at t
    simp only at t
    split at t
    · rw [start_cs α N avs d.nn hN]
      refine (sound Fa n).ss g (SLt_start l) ?_
      cases q : evSs P n (avs.map some ++ List.replicate (d.nn - avs.length) none) d.body h with
      | nx σ h1 => rw [q] at t; exact fun α' H' s' _ => t α' H' s' trivial
      | rt v h1 => rw [q] at t; exact t
      | exc c σ h1 => rw [q] at t; exact fun α' H' s' _ => t α' H' s'
      | bk σ h1 => rw [q] at t; exact t.elim
      | ct σ h1 => rw [q] at t; exact t.elim
      | bad => rw [q] at t; exact t.elim
    · exact t.elim
end

/-! the end of a law -/
theorem law_callG {Pg : Program} {w : World} {K : PySem.W.Frag} {mg mb : Str → Option Value} {k : Nat} {fa a : Addr} {fd : FuncData} {x : Str} {sp : Sp} {s1 : Shared} {vs : List Value} {ns : List Int}
    (KX : K.In s1.heap) (gl : s1.heap.Ns mainGlobals mg) (bl : s1.heap.Ns builtinsNs mb) (bb : ∀ y : Str, y ≠ "__name__" → mb y = bootBuiltins y) (lim : s1.heap.NoLimit) (gens : s1.gens = #[])
    (scr : s1.heap.get? a = some { cls := .type "list", data := .seq vs.toArray }) (iar : IntsAre vs ns) (line : ns.length ≤ sizeLine) (room : Room k callerA)
    (F : ∀ base : Heap, K.In base → base.Ns mainGlobals mg → FnG Pg w K mg base k fa fd [x] sp) (bind : ∀ (s : Shared) (u : Value), BindsTo s fd ⟨[u], []⟩ [(x, u)])
    (hsp : ∀ H : Hp, ((∃ o, H a = some (.frz o (.lst (ns.map V.int)))) ∨ KL K a (ns.map V.int)) → sp [.ref a] H (fun v _ => v = .bl true) fun _ _ _ => False) :
    codeAny (model Pg w) callerA (.call (.ref fa) ⟨[.ref a], []⟩) (fun r s' => r = .ok (.ret (.bool true)) ∧ OldK s1.heap s'.heap ∧ s'.os = s1.os ∧ AllBare s'.gens) s1 := by
  have rv := vals_ints iar
  have main : ∀ H : Hp, Only H → ((∃ o, H a = some (.frz o (.lst (ns.map V.int)))) ∨ KL K a (ns.map V.int)) → HOk Pg w H s1.heap → (∀ b, H b ≠ none → b = a) → (H a ≠ none → K.lookup a = none) →
      codeAny (model Pg w) callerA (.call (.ref fa) ⟨[.ref a], []⟩) (fun r s' => r = .ok (.ret (.bool true)) ∧ OldK s1.heap s'.heap ∧ s'.os = s1.os ∧ AllBare s'.gens) s1 := by
    intro H on hS ok at_a offK
    have at_ne : ∀ {b : Addr} {u : HO}, H b = some u → b = a := fun {b u} q => at_a b (by rw [q]; simp)
    have hid : ∀ {b : Addr} {o : Obj}, s1.heap.get? b = some o → H b = none → (hidT s1.heap H).get? b = some o := fun e n => hidT_get e n
    have dicts : ∀ {b : Addr} {o : Obj} {es : Array DictEntry} {ep : Nat}, s1.heap.get? b = some o → o.data = .dict es ep → H b = none := by
      intro b o es ep e dd
      cases q : H b with
      | none => rfl
      | some u =>
        obtain rfl := at_ne q
        rw [scr] at e
        cases e
        cases (show Data.seq vs.toArray _ = Data.dict es ep from dd)
    have nss : ∀ {b : Addr} {m : Str → Option Value}, s1.heap.Ns b m → (hidT s1.heap H).Ns b m := fun ⟨o, es, ep, e, dd, r⟩ => ⟨o, es, ep, hid e (dicts e dd), dd, r⟩
    have kin : K.In (hidT s1.heap H) := by
      intro b o e
      refine hid (KX b o e) ?_
      cases q : H b with
      | none => rfl
      | some u =>
        obtain rfl := at_ne q
        rw [offK (by rw [q]; simp)] at e
        cases e
    have md : Mod K mg (hidT s1.heap H) := ⟨kin, nss gl, ⟨mb, nss bl, bb⟩, let ⟨mc, h1, h2⟩ := lim; ⟨mc, nss h1, h2⟩⟩
    have env : Env0 Pg w K mg (hidT s1.heap H) callerA [] s1 H := ⟨rfl, md, fun b o e => of_hidT e, Nat.le_of_eq (hidT_size _ _), trivial, fun b hb => (nomatch hb), ok, .of_eq gens⟩
    refine codeAny_mono ((F _ kin (nss gl)).run callerA [] s1 H ⟨[.ref a], []⟩ [.ref a] [.ref a] _ _ room rfl env (bind s1 (.ref a)) (.cons rfl .nil) (hsp H hS)) fun r s' h => ?_
    match r, h with
    | .error e, h =>
      obtain ⟨_, _, _, _, _, _, _, _, _, _, _, _, z⟩ := h
      exact z.elim
    | .ok .next, h => exact False.elim h
    | .ok .brk, h => exact False.elim h
    | .ok .cont, h => exact False.elim h
    | .ok (.ret u), ⟨v, H', os, bare, un, ok', r', q⟩ =>
      obtain rfl : v = .bl true := q
      obtain rfl : u = Value.bool true := r'
      refine ⟨rfl, OldK.of_keep fun b o e => ?_, os, bare⟩
      cases q : H b with
      | none => exact un.keep b o e q (fun z => (nomatch z)) (fun z => (nomatch z))
      | some u =>
        rcases on b with z | ⟨ob, xs, z⟩
        · rw [q] at z; cases z
        · obtain ⟨e1, _⟩ := ok b _ z
          obtain ⟨e2, _⟩ := ok' b _ (un.frzs b ob _ z)
          rw [e] at e1
          cases e1
          exact e2
  cases hk : K.lookup a with
  | some o =>
    have e := KX a o hk
    rw [scr] at e
    cases e
    exact main (fun _ => none) (fun _ => .inl rfl) (.inr ⟨_, vs.toArray, _, hk, rfl, rfl, rfl, by rw [List.size_toArray, iar.length]; exact line, by simpa using rv⟩) (fun b u z => by cases z) (fun b z => (z rfl).elim) fun z => (z rfl).elim
  | none =>
    let H0 : Hp := fun b => if b = a then some (.frz { cls := .type "list", data := .seq vs.toArray } (.lst (ns.map V.int))) else none
    have at_ : H0 a = some (.frz { cls := .type "list", data := .seq vs.toArray } (.lst (ns.map V.int))) := if_pos rfl
    have off : ∀ b, b ≠ a → H0 b = none := fun b hb => if_neg hb
    refine main H0 (fun b => ?_) (.inl ⟨_, at_⟩) (fun b u z => ?_) (fun b z => ?_) fun _ => hk
    · by_cases hb : b = a
      · rw [hb]; exact .inr ⟨_, _, at_⟩
      · exact .inl (off b hb)
    · by_cases hb : b = a
      · rw [hb, at_] at z
        cases z
        rw [hb]
        exact ⟨scr, by rw [List.length_map]; exact line, vs, _, rv, scr⟩
      · rw [off b hb] at z; cases z
    · by_cases hb : b = a
      · exact hb
      · exact (z (off b hb)).elim
theorem law_end {Pg : Program} {w : World} {K : PySem.W.Frag} {mg mb : Str → Option Value} {k : Nat} {fa a : Addr} {fd : FuncData} {x : Str} {s1 : Shared} {vs : List Value} {ns : List Int} {P : Prog} {i : Nat} {gm : Nat → Addr}
    (KX : K.In s1.heap) (gl : s1.heap.Ns mainGlobals mg) (bl : s1.heap.Ns builtinsNs mb) (bb : ∀ y : Str, y ≠ "__name__" → mb y = bootBuiltins y) (lim : s1.heap.NoLimit) (gens : s1.gens = #[])
    (scr : s1.heap.get? a = some { cls := .type "list", data := .seq vs.toArray }) (iar : IntsAre vs ns) (line : ns.length ≤ sizeLine) (room : Room k callerA)
    (F : ∀ base : Heap, K.In base → base.Ns mainGlobals mg → FnG Pg w K mg base k fa fd [x] (spI P K gm i)) (bind : ∀ (s : Shared) (u : Value), BindsTo s fd ⟨[u], []⟩ [(x, u)])
    (run : ∀ o, (o = .rol (ns.map AV.int) ∨ o = .kol (ns.map AV.int)) → ∃ m h', callD P m i [.ref 0] ⟨1, .node (some o) .nil .nil⟩ = .ok (.bl true) h') :
    codeAny (model Pg w) callerA (.call (.ref fa) ⟨[.ref a], []⟩) (fun r s' => r = .ok (.ret (.bool true)) ∧ OldK s1.heap s'.heap ∧ s'.os = s1.os ∧ AllBare s'.gens) s1 := by
  refine law_callG KX gl bl bb lim gens scr iar line room F bind fun H hS => ?_
  have ex : ∀ α : Nat → Addr, cvs gm α (ns.map AV.int) = ns.map V.int := fun α => by unfold cvs; rw [List.map_map]; rfl
  have good : ∀ ob : AO, (ob = .rol (ns.map AV.int) ∨ ob = .kol (ns.map AV.int)) → Co K gm (fun _ => a) H a ob → spI P K gm i [.ref a] H (fun v _ => v = .bl true) fun _ _ _ => False := by
    intro ob hob co
    obtain ⟨m, h', e⟩ := run ob hob
    have lt : ob.lt 1 := by
      rcases hob with z | z <;> rw [z] <;> exact fun v hv => (by obtain ⟨y, _, rfl⟩ := List.mem_map.mp hv; exact trivial)
    refine ⟨m, fun _ => a, ⟨1, .node (some ob) .nil .nil⟩, [.ref 0], ⟨fun j u ej => ?_, fun i j u v e1 e2 _ _ _ => ?_⟩, fun v hv => by rw [List.mem_singleton.mp hv]; exact Nat.lt_succ_self 0, rfl, ?_⟩
    · have ej : (Tr.node (some ob) .nil .nil).get j = some u := ej
      by_cases j0 : j = 0
      · subst j0
        have : ob = u := Option.some.inj (by simpa [Tr.get] using ej)
        subst this
        exact ⟨Nat.lt_succ_self 0, lt, co⟩
      · unfold Tr.get at ej
        rw [if_neg j0] at ej
        split at ej <;> cases ej
    · have z : ∀ {j : Nat} {u : AO}, (Tr.node (some ob) .nil .nil).get j = some u → j = 0 := fun {j u} ej => by
        by_cases j0 : j = 0
        · exact j0
        · unfold Tr.get at ej
          rw [if_neg j0] at ej
          split at ej <;> cases ej
      rw [z e1, z e2]
    · show Then' K gm _ _ H _ _ _
      rw [e]
      exact fun _ _ _ _ => rfl
  rcases hS with ⟨ob, hS⟩ | hS
  · exact good _ (.inl rfl) ⟨ob, by rw [ex]; exact hS⟩
  · exact good _ (.inr rfl) (by show KL _ _ _; rw [ex]; exact hS)
end J

set_option Elab.async false
set_option linter.all false
set_option maxRecDepth 100000
set_option maxHeartbeats 4000000
/-! short words for derivations -/
namespace J
open PySem PySem.Spec PyProof.Rows L2
section
variable {X : Cx} {a b e o v : Expr} {ta tb te tv : TE} {pos pos' : Pos} {f f' x y : Str} {k : Nat}
theorem pe_strK {j : Nat} (h : x = y) : PE X (.Constant (.str x) j pos) (tC (.str y)) := by subst h; exact pe_str
theorem pe_fldK (h : f = f') (ha : PE X a ta) (hb : attributeBase a f X.env (eval a X.env) = eval a X.env) : PE X (.Attribute a f pos) (tFld X.K ta f') := by subst h; exact pe_fld ha hb
theorem ps_fldK (h : f = f') (ha : PE X o ta) (hv : PE X v tv) (hs : swapsWith v (some (.Attribute o f pos')) pos.line X.env = pure false) : PS X (.Assign [.Attribute o f pos'] v pos) (sFld X.K ta tv f') := by subst h; exact ps_fld ha hv hs
theorem units2 {n : Nat} (h : n + 70 < cLine) : n + 2 < cLine := by omega
theorem units70 {Ar : Around} (r : Room k Ar) : Ar.units + 70 < cLine := by have := r.un; omega
theorem passB (σ : L2.St) : PassesAt (L2.CX X.prog X.w) X σ (EW0 σ) := fun pins H s e s' I c => passL pins σ H s e s' I c
theorem pi_poly {tg : Expr} (he : PE X e te) : PI X tg e (fun σ H R => iList X.K te σ H R ∨ iTup X.K te σ H R ∨ iStr te σ H R ∨ iKeys (tLk te) σ H R) := by
  refine ⟨fun pins s σ H R I h => ?_⟩
  rcases h with h | h | h | h
  · exact (pi_list he).run pins s σ H R I h
  · exact (pi_tup he).run pins s σ H R I h
  · exact (pi_str he).run pins s σ H R I h
  · exact (pi_keys (pe_lk he)).run pins s σ H R I h
theorem isi_bi : CallR X (.builtin "isinstance") (rIsi X.K) := call_isi
/-- a property -/
theorem pePr {C p g : Addr} {fd : FuncData} {ps : List Str} {sp : Sp} (he : PE X e ta) (c : Cls X.K C) (hp : PropOf X.K C f p g) (F : FnG X.prog X.w X.K X.mg X.base k g fd ps sp) (hr : Room (k + 1) X.A) (hg : X.A.guards = some []) (hb : L2.Binds X.K fd ps [])
    (hab : attributeBase e f X.env (eval e X.env) = eval e X.env := by rfl) : PE X (.Attribute e f pos) (tPropS C sp ta) := by
  refine ⟨fun pins s σ H Q I h => attr_of hab (thn (he.run pins s σ H _ I h) fun u s1 ⟨z, H1, I1, rx, a, dx, fs, ez, ea, q⟩ => ?_)⟩
  subst ez
  cases (show u = Value.ref a from rx)
  obtain ⟨mA, Ob, _, _, _, _⟩ := ins_get I1.hok ea
  obtain ⟨od, Jn, _⟩ := Ob.look
  obtain ⟨rest, rc⟩ := hp.rec_
  have I2 := I1.tok (s1.toks + 1)
  have ul : ([Value.ref a] ++ []).length = ps.length := by rw [← F.len _ _ _ _ q]; rfl
  have isC : (PySem.W.clsIn X.K C).isSome = true := by
    obtain ⟨cd, z, _⟩ := PySem.W.any_some c.hd
    rw [z]
    rfl
  have bd := hb { s1 with toks := s1.toks + 1 } [.ref a] I2.kIn ul
  rw [List.append_nil] at bd
  refine PySem.W.get_bind I1.kIn Jn (PySem.W.plainGet_of (c.get f)).1 (PySem.W.findObj_data isC hp.at_ hp.get hp.tak) (PySem.W.plainGet_of (c.get f)).2 (wpAny_call (PySem.W.prop_get (s := { s1 with toks := s1.toks + 1 }) I1.kIn rc ?_))
  refine codeAny_mono (F.run X.A.in1 X.stack { s1 with toks := s1.toks + 1 } H1 ⟨[.ref a], []⟩ [.ref a] [.ref a] Q _ hr.in1 hg I2.env0.in1 bd (.cons rfl .nil) q) fun r s' hq => ?_
  match r, hq with
  | .error er, hq => exact False.elim (passL (X := X.nox) pins σ H1 _ er s' (I2.wish _) hq)
  | .ok (.ret u), hq =>
    obtain ⟨v, H', I3, rv, q3⟩ := I2.after hq
    show wpAny _ _ (handedOut u) _ _ _
    rw [PySem.W.handedOut_of (handed_of rv)]
    exact wpAny_pure ⟨v, H', I3, rv, q3⟩
  | .ok .next, hq => exact False.elim hq
  | .ok .brk, hq => exact False.elim hq
  | .ok .cont, hq => exact False.elim hq
end
end J

set_option Elab.async false
set_option linter.all false
set_option maxRecDepth 100000
set_option maxHeartbeats 4000000
/-! the head: the facts of a row's top, by names -/
namespace J
open PySem PySem.Spec PyProof.Rows L2
def AllP {α : Type} (p : α → Prop) : List α → Prop
  | [] => True
  | x :: r => p x ∧ AllP p r
theorem AllP.at_ {α : Type} {p : α → Prop} : ∀ {l : List α}, AllP p l → ∀ x ∈ l, p x
  | x :: r, h, y, hy => by
    rcases List.mem_cons.mp hy with e | e
    · rw [e]; exact h.1
    · exact h.2.at_ y e
def fldsOf : List (Nat × List Str) → Nat → List Str
  | [], _ => []
  | p :: r, C => if p.1 = C then p.2 else fldsOf r C
theorem fldsOf_ok {A : Nat → Str → Prop} : ∀ {l : List (Nat × List Str)}, AllP (fun p => AllP (fun f => A p.1 f) p.2) l → ∀ C f, hasF f (fldsOf l C) = true → A C f
  | [], _, C, f, h => by cases h
  | p :: r, a, C, f, h => by
    unfold fldsOf at h
    split at h
    · rename_i e
      subst e
      obtain ⟨g, hg, eg⟩ := List.any_eq_true.mp h
      rw [← seq_eq eg]
      exact a.1.at_ g hg
    · exact fldsOf_ok a.2 C f h
def baseT : List String := ["NoneType", "bool", "int", "str", "list", "tuple", "dict"]
/-- isinstance's table: own classes without own bases among each other -/
def kitOf (own : List Nat) (t c : AV) : Option Bool := match t, c with
  | .ty a, .ty b => kitB a b
  | .gl C, .gl D => if own.contains C && own.contains D then some (C == D) else none
  | .ty a, .gl D => if baseT.contains a && own.contains D then some false else none
  | .gl C, .ty b => if own.contains C && baseT.contains b then some false else none
  | _, _ => none
def eqNS : Nat ⊕ String → Nat ⊕ String → Bool
  | .inl a, .inl b => Nat.beq a b
  | .inr a, .inr b => a == b
  | _, _ => false
theorem eqNS_ok : ∀ {a b : Nat ⊕ String}, eqNS a b = true → a = b
  | .inl a, .inl b, h => by rw [Nat.eq_of_beq_eq_true h]
  | .inr a, .inr b, h => by rw [beq_iff_eq.mp h]
def hasNS (d : Nat ⊕ String) : List (Nat ⊕ String) → Bool
  | [] => false
  | x :: r => if eqNS d x = true then true else hasNS d r
theorem hasNS_ok {d : Nat ⊕ String} : ∀ {l : List (Nat ⊕ String)}, hasNS d l = true → d ∈ l
  | x :: r, h => by
    unfold hasNS at h
    split at h
    · rename_i e; rw [eqNS_ok e]; exact List.mem_cons_self
    · exact List.mem_cons_of_mem _ (hasNS_ok h)
/-- .. and a table of error classes: which of the told classes are theirs -/
structure XTab where
  dom : List (Nat ⊕ String)
  rows : List (Nat × List (Nat ⊕ String))
def rowOf (C : Nat) : List (Nat × List (Nat ⊕ String)) → Option (List (Nat ⊕ String))
  | [] => none
  | p :: r => if Nat.beq C p.1 = true then some p.2 else rowOf C r
theorem rowOf_ok {C : Nat} {l : List (Nat ⊕ String)} : ∀ {rs : List (Nat × List (Nat ⊕ String))}, rowOf C rs = some l → (C, l) ∈ rs
  | p :: r, h => by
    unfold rowOf at h
    split at h
    · rename_i e
      cases h
      rw [Nat.eq_of_beq_eq_true e]
      exact List.mem_cons_self
    · exact List.mem_cons_of_mem _ (rowOf_ok h)
def tabOf (t : XTab) (C : Nat) (d : Nat ⊕ String) : Option Bool := match rowOf C t.rows with
  | some l => if hasNS d t.dom = true then some (hasNS d l) else none
  | none => none
theorem tabOf_ok {t : XTab} {C : Nat} {d : Nat ⊕ String} {b : Bool} (e : tabOf t C d = some b) : ∃ l, (C, l) ∈ t.rows ∧ d ∈ t.dom ∧ b = hasNS d l := by
  unfold tabOf at e
  split at e
  · rename_i l q
    split at e
    · rename_i q2
      cases e
      exact ⟨l, rowOf_ok q, hasNS_ok q2, rfl⟩
    · cases e
  · cases e
def kitX (own : List Nat) (tab : XTab) (t c : AV) : Option Bool := match t, c with
  | .gl C, .gl D => if own.contains C then kitOf own t c else tabOf tab C (.inl D)
  | .gl C, .ty b => if own.contains C then kitOf own t c else tabOf tab C (.inr b)
  | _, _ => kitOf own t c
def clsOf (gm : Nat → Addr) : (Nat ⊕ String) → Value
  | .inl i => .ref (gm i)
  | .inr s => .type s
def prG (K : PySem.W.Frag) (p : Addr) : Addr := match PySem.W.recIn K p "property" with
  | some (.ref g :: _) => g
  | _ => 0
def prA (K : PySem.W.Frag) (x f : Str) : Addr := He.ma K (He.ga K x) f
/-- where an object stands: a name of the module, a class's method, a property's getter -/
inductive Ad where
  | glo (x : Str)
  | meth (x m : Str)
  | get (x f : Str)
def Ad.at_ (K : PySem.W.Frag) : Ad → Addr
  | .glo x => He.ga K x
  | .meth x m => He.ma K (He.ga K x) m
  | .get x f => prG K (prA K x f)
def gmJ (L : List Ad) (K : PySem.W.Frag) (i : Nat) : Addr := match L[i]? with
  | some p => p.at_ K
  | none => 0
inductive Fj where
  | excC (x : Str)
  | kit (x : Str) (y : Str ⊕ String) (b : Bool)
  | prop (x f : Str)
  | insT (x : Str)
  | kits (xs : List Str)
  | tabT (L : List Ad) (t : XTab)
  | strC (x : Str)
  | xfA (x f : Str)
def eqB (a b : Option Bool) : Bool := decide (a = b)
theorem eqB_ok {a b : Option Bool} (h : eqB a b = true) : a = b := of_decide_eq_true h
def Fj.ok (K : PySem.W.Frag) : Fj → Bool
  | .excC x => He.eqO (PySem.W.findIn K (.ref (He.ga K x)) "__getattribute__") (some (some (.builtin "BaseException.__getattribute__"))) && (He.eqO (PySem.W.findIn K (.ref (He.ga K x)) "__getattr__") (some none) && (eqB (PySem.W.subIn K (.ref (He.ga K x)) (.type "BaseException")) (some true) &&
      (PySem.W.hasDictIn K (He.ga K x) && (He.eqO (PySem.W.findIn K (.ref (He.ga K x)) "__class__") (some (some (.builtin "object.__class__"))) && (He.eqO (PySem.W.specialIn K (.builtin "object.__class__") "__get__") (some (some (.builtin "getset_descriptor.__get__"))) &&
      (eqB (PySem.W.takesIn K (.builtin "object.__class__")) (some true) && eqB (PySem.W.mroIn K (He.ga K x) (.type "object")) (some true)))))))
  | .kit x y b => eqB (PySem.W.kitOne K (.ref (He.ga K x)) (match y with | .inl z => .ref (He.ga K z) | .inr t => .type t)) (some b)
  | .prop x f => He.eqO (PySem.W.findIn K (.ref (He.ga K x)) f) (some (some (.ref (prA K x f)))) && (He.eqO (PySem.W.specialIn K (.ref (prA K x f)) "__get__") (some (some (.builtin "property.__get__"))) &&
      (eqB (PySem.W.takesIn K (.ref (prA K x f))) (some true) && (match PySem.W.recIn K (prA K x f) "property" with
        | some (.ref _ :: _) => true
        | _ => false)))
  | .insT x => (He.Fa.cls x).ok K && (He.eqO (PySem.W.findIn K (.ref (He.ga K x)) "__class__") (some (some (.builtin "object.__class__"))) && (He.eqO (PySem.W.specialIn K (.builtin "object.__class__") "__get__") (some (some (.builtin "getset_descriptor.__get__"))) &&
      (eqB (PySem.W.takesIn K (.builtin "object.__class__")) (some true) && eqB (PySem.W.mroIn K (He.ga K x) (.type "object")) (some true))))
  | .tabT L t => t.rows.all fun r => t.dom.all fun d => eqB (PySem.W.kitOne K (.ref (gmJ L K r.1)) (clsOf (gmJ L K) d)) (some (hasNS d r.2))
  | .strC x => He.eqO (PySem.W.findIn K (.ref (He.ga K x)) "__str__") (some (some (.builtin "BaseException.__str__"))) && eqB (PySem.W.subIn K (.ref (He.ga K x)) (.type "BaseException")) (some true)
  | .xfA x f => xfB K (He.ga K x) && He.eqO (PySem.W.findIn K (.ref (He.ga K x)) f) (some none)
  | .kits xs => xs.all fun x => (baseT.all fun a => eqB (PySem.W.kitOne K (.type a) (.ref (He.ga K x))) (some false) && eqB (PySem.W.kitOne K (.ref (He.ga K x)) (.type a)) (some false)) && xs.all fun y => eqB (PySem.W.kitOne K (.ref (He.ga K x)) (.ref (He.ga K y))) (some (x == y))
section
variable {K : PySem.W.Frag}
theorem prop_ok {x f : Str} (c : (Fj.prop x f).ok K = true) : PropOf K (He.ga K x) f (prA K x f) (prG K (prA K x f)) := by
  obtain ⟨c1, c⟩ := He.ba c
  obtain ⟨c2, c⟩ := He.ba c
  obtain ⟨c3, c4⟩ := He.ba c
  refine ⟨He.eqO_ok c1, He.eqO_ok c2, eqB_ok c3, ?_⟩
  unfold prG
  cases q : PySem.W.recIn K (prA K x f) "property" with
  | none => rw [q] at c4; cases c4
  | some l =>
    rw [q] at c4
    cases l with
    | nil => cases c4
    | cons v r =>
      cases v with
      | ref g => exact ⟨r, rfl⟩
      | _ => cases c4
theorem excC_ok {x : Str} (c : (Fj.excC x).ok K = true) : ExcC K (He.ga K x) := by
  obtain ⟨c1, c⟩ := He.ba c
  obtain ⟨c2, c⟩ := He.ba c
  obtain ⟨c3, c⟩ := He.ba c
  obtain ⟨c4, c⟩ := He.ba c
  obtain ⟨c5, c⟩ := He.ba c
  obtain ⟨c6, c⟩ := He.ba c
  obtain ⟨c7, c8⟩ := He.ba c
  exact ⟨He.eqO_ok c1, He.eqO_ok c2, eqB_ok c3, c4, He.eqO_ok c5, He.eqO_ok c6, eqB_ok c7, eqB_ok c8⟩
theorem strC_ok {x : Str} (c : (Fj.strC x).ok K = true) : StrC K (He.ga K x) := ⟨He.eqO_ok (He.ba c).1, eqB_ok (He.ba c).2⟩
theorem xfA_ok {x f : Str} (c : (Fj.xfA x f).ok K = true) : XfA K (He.ga K x) f := ⟨xfB_ok (He.ba c).1, He.eqO_ok (He.ba c).2⟩
theorem tabT_ok {L : List Ad} {t : XTab} (c : (Fj.tabT L t).ok K = true) : ∀ C d b, tabOf t C d = some b → PySem.W.kitOne K (.ref (gmJ L K C)) (clsOf (gmJ L K) d) = some b := fun C d b e => by
  obtain ⟨l, h1, h2, rfl⟩ := tabOf_ok e
  exact eqB_ok (List.all_eq_true.mp (List.all_eq_true.mp c (C, l) h1) d h2)
theorem kitc_ok {x y : Str} {b : Bool} (c : (Fj.kit x (.inl y) b).ok K = true) : PySem.W.kitOne K (.ref (He.ga K x)) (.ref (He.ga K y)) = some b := eqB_ok c
theorem kitt_ok {x : Str} {y : String} {b : Bool} (c : (Fj.kit x (.inr y) b).ok K = true) : PySem.W.kitOne K (.ref (He.ga K x)) (.type y) = some b := eqB_ok c
theorem insT_ok {x : Str} (c : (Fj.insT x).ok K = true) : InsTy K (He.ga K x) := by
  obtain ⟨c1, c⟩ := He.ba c
  obtain ⟨c2, c⟩ := He.ba c
  obtain ⟨c3, c⟩ := He.ba c
  obtain ⟨c4, c5⟩ := He.ba c
  exact ⟨He.cls_ok c1, He.eqO_ok c2, He.eqO_ok c3, eqB_ok c4, eqB_ok c5⟩
/-- the table of isinstance holds -/
theorem kitOf_ok {gm : Nat → Addr} {own : List Nat} {nm : Nat → Str} (hg : ∀ i ∈ own, gm i = He.ga K (nm i)) (hi : ∀ i ∈ own, ∀ j ∈ own, (nm i == nm j) = (i == j)) (c : (Fj.kits (own.map nm)).ok K = true) :
    ∀ t d b, kitOf own t d = some b → ClsV (c0 gm d) (tv gm d) ∧ PySem.W.kitOne K (tv gm t) (tv gm d) = some b := by
  have at_ : ∀ i ∈ own, (baseT.all fun a => eqB (PySem.W.kitOne K (.type a) (.ref (gm i))) (some false) && eqB (PySem.W.kitOne K (.ref (gm i)) (.type a)) (some false)) = true ∧ ∀ j ∈ own, eqB (PySem.W.kitOne K (.ref (gm i)) (.ref (gm j))) (some (i == j)) = true := fun i hm => by
    have c1 := List.all_eq_true.mp c (nm i) (List.mem_map_of_mem hm)
    obtain ⟨c2, c3⟩ := He.ba c1
    refine ⟨by rw [hg i hm]; exact c2, fun j hj => ?_⟩
    have c4 := List.all_eq_true.mp c3 (nm j) (List.mem_map_of_mem hj)
    rw [hg i hm, hg j hj, ← hi i hm j hj]
    exact c4
  intro t d b e
  unfold kitOf at e
  split at e
  · exact ⟨.ty _, kit_ty e⟩
  · split at e
    · rename_i C D q
      obtain ⟨q1, q2⟩ := He.ba q
      refine ⟨.own _, ?_⟩
      rw [← e]
      exact eqB_ok ((at_ C (List.contains_iff_mem.mp q1)).2 D (List.contains_iff_mem.mp q2))
    · cases e
  · split at e
    · rename_i a D q
      obtain ⟨q1, q2⟩ := He.ba q
      refine ⟨.own _, ?_⟩
      rw [← e]
      exact eqB_ok (He.ba (List.all_eq_true.mp (at_ D (List.contains_iff_mem.mp q2)).1 a (List.contains_iff_mem.mp q1))).1
    · cases e
  · split at e
    · rename_i C b' q
      obtain ⟨q1, q2⟩ := He.ba q
      refine ⟨.ty _, ?_⟩
      rw [← e]
      exact eqB_ok (He.ba (List.all_eq_true.mp (at_ C (List.contains_iff_mem.mp q1)).1 b' (List.contains_iff_mem.mp q2))).2
    · cases e
  · cases e
theorem kitX_ok {gm : Nat → Addr} {own : List Nat} {tab : XTab} (h1 : ∀ t d b, kitOf own t d = some b → ClsV (c0 gm d) (tv gm d) ∧ PySem.W.kitOne K (tv gm t) (tv gm d) = some b)
    (h2 : ∀ C d b, tabOf tab C d = some b → PySem.W.kitOne K (.ref (gm C)) (clsOf gm d) = some b) : ∀ t d b, kitX own tab t d = some b → ClsV (c0 gm d) (tv gm d) ∧ PySem.W.kitOne K (tv gm t) (tv gm d) = some b := by
  intro t d b e
  unfold kitX at e
  split at e
  · split at e
    · exact h1 _ _ _ e
    · exact ⟨.own _, h2 _ _ _ e⟩
  · split at e
    · exact h1 _ _ _ e
    · exact ⟨.ty _, h2 _ _ _ e⟩
  · exact h1 _ _ _ e
theorem kitOf_ins {own : List Nat} {C : Nat} {c : AV} {b : Bool} (e : kitOf own (.gl C) c = some b) : C ∈ own := by
  cases c with
  | gl D =>
    have e : (if own.contains C && own.contains D then some (C == D) else none) = some b := e
    split at e
    · rename_i q; exact List.contains_iff_mem.mp (He.ba q).1
    · cases e
  | ty t =>
    have e : (if own.contains C && baseT.contains t then some false else none) = some b := e
    split at e
    · rename_i q; exact List.contains_iff_mem.mp (He.ba q).1
    · cases e
  | _ => cases e
theorem kitX_ins {own xs : List Nat} {tab : XTab} {C : Nat} {c : AV} {b : Bool} (ht : (tab.rows.all fun p => xs.contains p.1) = true) (hx : xs.contains C = false) (e : kitX own tab (.gl C) c = some b) : C ∈ own := by
  cases ho : own.contains C with
  | true => exact List.contains_iff_mem.mp ho
  | false =>
    have no : ∀ {d : Nat ⊕ String}, tabOf tab C d ≠ some b := fun e => by
      obtain ⟨l, h1, _⟩ := tabOf_ok e
      have : xs.contains C = true := List.all_eq_true.mp ht (C, l) h1
      rw [hx] at this
      cases this
    cases c with
    | gl D =>
      have e : (if own.contains C then kitOf own (.gl C) (.gl D) else tabOf tab C (.inl D)) = some b := e
      rw [ho] at e
      exact (no e).elim
    | ty t =>
      have e : (if own.contains C then kitOf own (.gl C) (.ty t) else tabOf tab C (.inr t)) = some b := e
      rw [ho] at e
      exact (no e).elim
    | _ => cases e
def exmOf : List (Nat × Nat × Bool) → Nat → Nat → Option Bool
  | [], _, _ => none
  | p :: r, c, d => if p.1 = c ∧ p.2.1 = d then some p.2.2 else exmOf r c d
theorem exmOf_ok {A : Nat → Nat → Bool → Prop} : ∀ {l : List (Nat × Nat × Bool)}, AllP (fun p => A p.1 p.2.1 p.2.2) l → ∀ c d b, exmOf l c d = some b → A c d b
  | [], _, c, d, b, e => by cases e
  | p :: r, a, c, d, b, e => by
    unfold exmOf at e
    split at e
    · rename_i q
      obtain ⟨q1, q2⟩ := q
      subst q1 q2
      cases e
      exact a.1
    · exact exmOf_ok a.2 c d b e
end
def nmJ (L : List Ad) (i : Nat) : Str := match L[i]? with
  | some (.glo x) => x
  | _ => ""
def fnAt (K : PySem.W.Frag) (a : Addr) : He.FnW := match K.lookup a with
  | some ⟨_, _, .func fd, _⟩ => some (fd.name, fd.qualname, fd.params, fd.body, fd.scope, fd.globals, fd.closure, fd.builtins)
  | _ => none
def okAt (K : PySem.W.Frag) (d : He.DefD) (a : Addr) : Bool := PySem.W.keepIn K (.ref a) && (match K.lookup a with
  | some ⟨_, _, .func fd, _⟩ => PySem.W.codeIn K fd.code d.qual && (He.dflB K fd.defaults (d.dvs K) && He.kwdB K fd.kwdefaults (d.kws K))
  | _ => false)
def fdOf (K : PySem.W.Frag) (a : Addr) : FuncData := match K.lookup a with
  | some ⟨_, _, .func fd, _⟩ => fd
  | _ => default
theorem funAt {K : PySem.W.Frag} {d : He.DefD} {a : Addr} (e : fnAt K a = d.val) (c : okAt K d a = true) : FunD K d.name d.qual d.params d.body d.scope (d.dvs K) (d.kws K) a (fdOf K a) := by
  obtain ⟨kp, c2⟩ := He.ba c
  unfold fnAt at e
  cases q : K.lookup a with
  | none =>
    rw [q] at c2
    cases c2
  | some o =>
    obtain ⟨oc, od, dt, osl⟩ := o
    rw [q] at c2 e
    cases dt with
    | func fd =>
      have ef : fdOf K a = fd := by unfold fdOf; rw [q]
      obtain ⟨n1, n2, n3, n4, n5, n6, n7, n8, n9, n10, n11, n12, n13, n14, n15⟩ := fd
      have e2 : (some (n1, n2, n3, n4, n5, n6, n7, n15) : He.FnW) = some (d.name, d.qual, d.params, .stmts d.body, d.scope, mainGlobals, [], builtinsNs) := e
      simp only [Option.some.injEq, Prod.mk.injEq] at e2
      obtain ⟨h1, h2, h3, h4, h5, h6, h7, h8⟩ := e2
      subst h1 h2 h3 h4 h5 h6 h7 h8
      have c3 : (PySem.W.codeIn K n13 d.qual && (He.dflB K n8 (d.dvs K) && He.kwdB K n9 (d.kws K))) = true := c2
      obtain ⟨k1, k2⟩ := He.ba c3
      obtain ⟨k3, k4⟩ := He.ba k2
      rw [ef]
      exact ⟨⟨oc, od, n8, n9, n10, n11, n12, n13, n14, osl, rfl, q, k1, He.dflB_ok k3, He.kwdB_ok k4⟩, kp⟩
    | _ => cases c2
/-- a def without defaults -/
theorem FunD.plain {K : PySem.W.Frag} {x qual : Str} {st : Stmt} {kws : List (Str × V)} {f : Addr} {fd : FuncData} (F : FunD K x qual (defArgs st) (defBody st) (defScope st) [] kws f fd) : Fun K x qual st f fd := by
  obtain ⟨oc, od, dV, kV, doc, pm, an, cdv, ct, osl, e, lk, cd, dv, kw⟩ := F.ex
  refine ⟨?_, F.kp⟩
  rcases dv with ⟨_, h⟩ | ⟨h, _⟩
  · subst h
    exact ⟨oc, od, kV, doc, pm, an, cdv, ct, osl, e, lk, cd⟩
  · exact (h rfl).elim
def okT : Out AV → Bool
  | .ok (.bl b) _ => b
  | _ => false
theorem okT_ok {x : Out AV} (h : okT x = true) : ∃ h', x = .ok (.bl true) h' := by
  unfold okT at h
  split at h
  · exact ⟨_, by rw [h]⟩
  · cases h
/-- an error class over ValueError whose __init__ says super().__init__(f'..{p}..'); self.f = p -/
structure SupD where
  x : Str
  p : Str
  f : Str
  file : Str
  name : Str
  qual : Str
  params : Arguments
  body : List Stmt
  scope : Scope
def SupD.C (d : SupD) (K : PySem.W.Frag) : Addr := He.ga K d.x
def SupD.I (d : SupD) (K : PySem.W.Frag) : Addr := He.ma K (He.ga K d.x) "__init__"
def SupD.val (d : SupD) : He.FnW := some (d.name, d.qual, d.params, .stmts d.body, d.scope, mainGlobals, [("__class__", 0)], builtinsNs)
def supAt (K : PySem.W.Frag) (a : Addr) : He.FnW := match K.lookup a with
  | some ⟨_, _, .func fd, _⟩ => some (fd.name, fd.qualname, fd.params, fd.body, fd.scope, fd.globals, fd.closure.map fun c => (c.1, 0), fd.builtins)
  | _ => none
def oexB (K : PySem.W.Frag) (C : Addr) : Bool := (match K.lookup C with
  | some ⟨.type "type", _, .cls cd, sl⟩ => (match cd.mro, sl.toList with
    | .ref C' :: bm, [_, _, _, _, some (.builtin n), _] => C' == C && (n == "ValueError.__new__" && (!cd.hasDel && (cd.hasDict && PySem.HandSPX.refsVE bm)))
    | _, _ => false)
  | _ => false) && (He.eqO (PySem.W.findIn K (.ref C) "__setattr__") (some (some (.builtin "object.__setattr__"))) && (eqB (PySem.W.subIn K (.ref C) (.type "BaseException")) (some true) && (decide (PySem.W.typeIn K (.ref C) = some (.type "type")) && PySem.W.keepIn K (.ref C))))
theorem oexB_ok {K : PySem.W.Frag} {C : Addr} (h : oexB K C = true) : OexC K C := by
  obtain ⟨c1, c⟩ := He.ba h
  obtain ⟨c2, c⟩ := He.ba c
  obtain ⟨c3, c⟩ := He.ba c
  obtain ⟨c4, c5⟩ := He.ba c
  refine ⟨?_, He.eqO_ok c2, eqB_ok c3, of_decide_eq_true c4, c5⟩
  split at c1
  · rename_i dd cd sl ho
    split at c1
    · rename_i C' bm k0 k1 k2 k3 n k5 hm hs
      obtain ⟨q1, c1⟩ := He.ba c1
      obtain ⟨q2, c1⟩ := He.ba c1
      obtain ⟨q3, c1⟩ := He.ba c1
      obtain ⟨q4, q5⟩ := He.ba c1
      obtain ⟨nm, bs, mro, ns, qn, hd, sn, sub, ab, col, del⟩ := cd
      obtain ⟨l⟩ := sl
      dsimp only at hm hs q3 q4
      subst hm hs
      rw [beq_iff_eq] at q1 q2
      subst q1 q2
      have q3 : del = false := by simpa using q3
      subst q3 q4
      exact ⟨_, _, _, _, _, _, _, _, _, _, _, _, _, _, _, ho, q5⟩
    · cases c1
  · cases c1
def isFile (f : Str) : Option Value → Bool
  | some (.str g _) => f == g
  | _ => false
theorem isFile_ok {f : Str} {o : Option Value} (h : isFile f o = true) : ∃ g t, o = some (.str g t) ∧ f = g := by
  unfold isFile at h
  split at h
  · exact ⟨_, _, rfl, beq_iff_eq.mp h⟩
  · cases h
def supB (K : PySem.W.Frag) (d : SupD) : Bool := oexB K (d.C K) && (He.eqO (PySem.W.findIn K (.ref (d.C K)) "__init__") (some (some (.ref (d.I K)))) && (decide (PySem.W.typeIn K (.ref (d.I K)) = some (.type "function")) && ((match K.lookup (d.I K) with
    | some ⟨_, _, .func fd, _⟩ => (match fd.defaults, fd.code, fd.closure with
      | .none, .ref cda, [(_, cc)] => PySem.W.codeIn K (.ref cda) d.qual && ((match K.lookup cda with
        | some ⟨_, _, .fields vs, _⟩ => isFile d.file (vs[2]? : Option Value)
        | _ => false) && (match K.lookup cc with
        | some ⟨_, _, .cell (some (.ref C)), _⟩ => C == d.C K
        | _ => false))
      | _, _, _ => false)
    | _ => false) && (He.eqO (PySem.W.ks_superIn K (d.C K) (d.C K) "__init__") (some (some (.builtin "ValueError.__init__"))) && (eqB (PySem.W.subIn K (.ref (d.C K)) (.type "ValueError")) (some true) && (He.eqO (PySem.W.nsIn K cStatics "thirdparty.any") (some none) &&
    (eqB (PySem.W.mroIn K (d.C K) (.ref (d.C K))) (some true) && He.eqO (PySem.W.findIn K (.ref (d.C K)) d.f) (some none))))))))
theorem supAt_ok {Pg : Program} {K : PySem.W.Frag} {d : SupD} {a b : Str} (e : supAt K (d.I K) = d.val) (c : supB K d = true) (hf : (Pg.main.file == d.file) = true) (hb : SupBody d.p d.f a b d.body) (la : a.length ≤ 1000) (lb : b.length ≤ 1000)
    (hpar : ∃ ar, (d.params.posonlyargs ++ d.params.args).head? = some ar ∧ ar.arg = "self")
    (hbn : ∀ (kV doc pm ct : Value) (an : Option Addr) (cda cc : Addr) (s : Shared) (u v : Value), BindsTo s (PySem.W.ksFn d.name d.qual d.params d.body d.scope .none kV doc pm an (.ref cda) ct cc) ⟨[u, v], []⟩ [("self", u), (d.p, v)] ∧ BindsTo s (PySem.W.ksFn d.name d.qual d.params d.body d.scope .none kV doc pm an (.ref cda) ct cc) ⟨[u], [(d.p, v)]⟩ [("self", u), (d.p, v)])
    (hcell : ∀ y ∈ d.scope.names, y.2 ≠ .cell) (hco : d.scope.isCoroutine = false) (hgen : d.scope.isGenerator = false) (hk : d.scope.kind = .function) (n1 : d.scope.names.lookup ("self" : Str) = some NameKind.local) (n2 : d.scope.names.lookup d.p = some NameKind.local) (n3 : d.scope.names.lookup ("super" : Str) = some NameKind.globalImplicit) (n4 : d.scope.names.lookup ("__class__" : Str) = some NameKind.free)
    (pne : (d.p == ("self" : Str)) = false) (pdb : (d.p == ("__debug__" : Str)) = false) (top : (Pg.main.scope.names.lookup ("super" : Str)).isSome = false) : SupI Pg K (d.C K) (d.I K) d.p d.f := by
  obtain ⟨c1, c⟩ := He.ba c
  obtain ⟨c2, c⟩ := He.ba c
  obtain ⟨c3, c⟩ := He.ba c
  obtain ⟨c4, c⟩ := He.ba c
  obtain ⟨c5, c⟩ := He.ba c
  obtain ⟨c6, c⟩ := He.ba c
  obtain ⟨c7, c⟩ := He.ba c
  obtain ⟨c8, c9⟩ := He.ba c
  refine ⟨oexB_ok c1, He.eqO_ok c2, of_decide_eq_true c3, ?_, pne, pdb, He.eqO_ok c5, eqB_ok c6, He.eqO_ok c7, eqB_ok c8, He.eqO_ok c9, top⟩
  obtain ⟨ar, har, ear⟩ := hpar
  unfold supAt at e
  split at c4
  · rename_i oc od fd osl lk
    rw [lk] at e
    obtain ⟨f1, f2, f3, f4, f5, f6, f7, f8, f9, f10, f11, f12, f13, f14, f15⟩ := fd
    have e2 : (some (f1, f2, f3, f4, f5, f6, f7.map (fun c => (c.1, 0)), f15) : He.FnW) = d.val := e
    unfold SupD.val at e2
    simp only [Option.some.injEq, Prod.mk.injEq] at e2
    obtain ⟨g1, g2, g3, g4, g5, g6, g7, g8⟩ := e2
    subst g1 g2 g3 g4 g5 g6 g8
    dsimp only at c4
    split at c4
    · rename_i cda q cc
      obtain ⟨k1, c4⟩ := He.ba c4
      obtain ⟨k2, k3⟩ := He.ba c4
      have g7 : q = "__class__" := by simpa using g7
      subst g7
      split at k2
      · rename_i ccl cdd vs ccs lcd
        obtain ⟨file, tf, hvs, ef⟩ := isFile_ok k2
        · split at k3
          · rename_i cl cld C csl lcc
            rw [beq_iff_eq] at k3
            subst k3
            refine ⟨_, _, _, _, _, f9, f10, f11, f14, oc, ccl, cl, f12, od, cdd, cld, osl, ccs, csl, cda, cc, vs, file, a, b, tf, ar, lk, k1, lcd, hvs, by rw [← ef]; exact hf, lcc, hb, la, lb, har, ear, fun s u v => (hbn _ _ _ _ _ _ _ s u v).1, fun s u v => (hbn _ _ _ _ _ _ _ s u v).2, hcell, hco, hgen, hk, n1, n2, n3, n4⟩
          · cases k3
      · cases k2
    · cases c4
  · cases c4
structure Said where
  fj : List Fj
  fa : List He.Fa
  fn : List (Ad × He.DefD)
  su : List SupD := []
abbrev AlJ : Type := Bool × List He.FnW
def obsJ (S : Said) (K : PySem.W.Frag) : AlJ := (((S.fj.all fun f => f.ok K) && ((S.fa.all fun f => f.ok K) && S.fn.all fun d => okAt K d.2 (d.1.at_ K))) && S.su.all fun d => supB K d, (S.su.map fun d => supAt K (d.I K)) ++ S.fn.map fun d => fnAt K (d.1.at_ K))
def valJ (S : Said) : AlJ := (true, (S.su.map fun d => d.val) ++ S.fn.map fun d => d.2.val)
def SaysJ (S : Said) (K : PySem.W.Frag) : Prop := obsJ S K = valJ S
def obsJG (n : Nat) (S : Said) (g : Addr → Option Obj) : AlJ := obsJ S (He.frG g (He.asD g n ++ [cStatics]))
def hookJ (n : Nat) (S : Said) : PySem.W.Hook where
  α := AlJ
  obs := fun s => obsJG n S s.heap.get?
  val := fun _ => valJ S
  says := fun _ h => ∃ K : PySem.W.Frag, K.In h ∧ SaysJ S K
  of := fun _ _ e => ⟨_, He.frG_in, e⟩
  keeps := fun _ _ _ ⟨K, hK, c⟩ k => ⟨K, PySem.W.Frag.In.keeps hK k, c⟩
theorem obsJG_eq {n : Nat} {S : Said} {g : Addr → Option Obj} {s : Shared} (h : ∀ a, g a = s.heap.get? a) : obsJG n S g = (hookJ n S).obs s := by
  have e : g = s.heap.get? := funext h
  rw [e] <;> rfl
section
variable {S : Said} {K : PySem.W.Frag}
theorem SaysJ.b (c : SaysJ S K) : ((S.fj.all fun f => f.ok K) && ((S.fa.all fun f => f.ok K) && S.fn.all fun d => okAt K d.2 (d.1.at_ K))) = true := (He.ba (show ((_ && _) : Bool) = true from congrArg (fun z : AlJ => z.1) c)).1
theorem SaysJ.l (c : SaysJ S K) : (S.su.map fun d => supAt K (d.I K)) = (S.su.map fun d => d.val) ∧ (S.fn.map fun d => fnAt K (d.1.at_ K)) = S.fn.map fun d => d.2.val :=
  List.append_inj (show (_ ++ _ : List He.FnW) = _ ++ _ from congrArg (fun z : AlJ => z.2) c) (by rw [List.length_map, List.length_map])
theorem SaysJ.sup (c : SaysJ S K) (i : Nat) {d : SupD} (h : S.su[i]? = some d := by rfl) : supAt K (d.I K) = d.val ∧ supB K d = true := by
  have e2 : (S.su.map fun d => supAt K (d.I K))[i]? = (S.su.map fun d => d.val)[i]? := by rw [c.l.1]
  rw [List.getElem?_map, List.getElem?_map, h] at e2
  exact ⟨Option.some.inj e2, List.all_eq_true.mp (He.ba (show ((_ && _) : Bool) = true from congrArg (fun z : AlJ => z.1) c)).2 d (List.mem_of_getElem? h)⟩
theorem SaysJ.own (c : SaysJ S K) (i : Nat) {f : Fj} (h : S.fj[i]? = some f := by rfl) : f.ok K = true := List.all_eq_true.mp (He.ba c.b).1 f (List.mem_of_getElem? h)
theorem SaysJ.fact (c : SaysJ S K) (i : Nat) {f : He.Fa} (h : S.fa[i]? = some f := by rfl) : f.ok K = true := List.all_eq_true.mp (He.ba (He.ba c.b).2).1 f (List.mem_of_getElem? h)
theorem SaysJ.fun_ (c : SaysJ S K) (i : Nat) {p : Ad} {d : He.DefD} (h : S.fn[i]? = some (p, d) := by rfl) : FunD K d.name d.qual d.params d.body d.scope (d.dvs K) (d.kws K) (p.at_ K) (fdOf K (p.at_ K)) := by
  have e : (S.fn.map fun d => fnAt K (d.1.at_ K)) = S.fn.map fun d => d.2.val := c.l.2
  have e2 : (S.fn.map fun d => fnAt K (d.1.at_ K))[i]? = (S.fn.map fun d => d.2.val)[i]? := by rw [e]
  rw [List.getElem?_map, List.getElem?_map, h] at e2
  exact funAt (Option.some.inj e2) (List.all_eq_true.mp (He.ba (He.ba c.b).2).2 (p, d) (List.mem_of_getElem? h))
end
/-- the law's call: its run gives True whatever the script; the written part may be any that the head found -/
theorem walkJ {l : PySem.W.OpenLaw} {n k : Nat} {q : Program} {loose : List Str} {XP : (Str → Option Value) → Heap → Prop} {S : Said} {M : Nat} {d : DefRec} {x : Str} {P : Prog} {i : Nat}
    (hn : l.most = some n) (hn2 : n ≤ sizeLine) (hdf : d.params.defaults = []) (hr : Room k callerA)
    (F : ∀ (w : World) (K : PySem.W.Frag) (mg : Str → Option Value) (fa : Addr) (h : Heap), K.In h → SaysJ S K → h.Ns mainGlobals mg → mg d.name = some (.ref fa) →
      ∃ (fd : FuncData) (gm : Nat → Addr), (∀ (s : Shared) (u : Value), BindsTo s fd ⟨[u], []⟩ [(x, u)]) ∧ ∀ base : Heap, K.In base → base.Ns mainGlobals mg → FnG l.prog w K mg base k fa fd [x] (spI P K gm i))
    (run : ∀ ns : List Int, ns.length ≤ n → (∀ z ∈ ns, Builtin.Int.intBits z ≤ 1048576) → ∀ o, (o = .rol (ns.map AV.int) ∨ o = .kol (ns.map AV.int)) → ∃ m h', callD P m i [.ref 0] ⟨1, .node (some o) .nil .nil⟩ = .ok (.bl true) h') :
    PySem.W.WalkO q loose XP (hookJ M S).says l.row.toRowW d [] (fun f vs => PySem.call f vs) := by
  refine Att.attach_callB hn hdf fun w s0 s1 mg mb fa o pm cd doc a vs ns Gr Y ho hd hcd hmg hobj hints hlen hbits hg => ?_
  obtain ⟨K, KX, c⟩ := Y
  obtain ⟨fd, gm, bd, hF⟩ := F w K mg fa _ KX c Gr.T.g hmg
  exact law_end KX Gr.T.g Gr.T.b Gr.T.builtins Gr.T.nolimit hg hobj hints (Nat.le_trans hlen hn2) hr hF bd (run ns hlen hbits)
end J

set_option Elab.async false
set_option linter.all false
set_option maxRecDepth 100000
set_option maxHeartbeats 4000000
namespace My
open PySem PySem.Spec PyProof.Rows L2 J

def top (i : Nat) : Stmt := PySem.Challenge.pw_hushweb_k16_error_classes.main.body.getD i (.Pass ⟨0, 0, 0, 0⟩)
def s0 : Str := ⟨#[120]⟩
theorem e_s0 : (PySem.Str.ofString "x") = s0 := by decide +kernel
def s1 : Str := ⟨#[108, 105, 110, 101]⟩
theorem e_s1 : (PySem.Str.ofString "line") = s1 := by decide +kernel
def s2 : Str := ⟨#[121]⟩
theorem e_s2 : (PySem.Str.ofString "y") = s2 := by decide +kernel
abbrev t_law_made : Stmt := top 36
def c_law_made : List S := [(.asg 0 (.lst [(.mkx 5 (.k (.str s0))), (.mkx 6 (.k (.str s0))), (.mkx 7 (.k (.str s0))), (.mkx 8 (.k (.str s0))), (.mkx 9 (.k (.str s0)))])), (.asg 0 (.bin .add (.v 0) (.lst [(.mkx 10 (.k (.str s0))), (.mkx 11 (.k (.str s0))), (.mkx 12 (.k (.str s0))), (.mkx 13 (.k (.str s0)))]))), (.asg 0 (.bin .add (.v 0) (.lst [(.mkx 14 (.k (.str s0))), (.mkx 15 (.k (.str s0))), (.mkx 16 (.k (.str s0))), (.mkx 17 (.k (.str s0)))]))), (.asg 0 (.bin .add (.v 0) (.lst [(.mkx 18 (.k (.str s0))), (.mkx 19 (.k (.str s0))), (.mkx 20 (.k (.str s0))), (.mkx 21 (.k (.str s0))), (.mkx 22 (.k (.str s0)))]))), (.asg 0 (.bin .add (.v 0) (.lst [(.mkx 24 (.k (.str s0))), (.mkx 25 (.k (.str s0))), (.mkx 26 (.k (.str s0))), (.mkx 27 (.k (.str s0))), (.mkx 28 (.k (.str s0))), (.mkx 29 (.k (.str s0)))]))), (.asg 0 (.bin .add (.v 0) (.lst [(.mkx 30 (.k (.str s0))), (.mkx 31 (.k (.str s0))), (.mkx 32 (.k (.str s0))), (.mkx 33 (.k (.str s0))), (.mkx 34 (.k (.str s0)))]))), (.ret (.bin .add (.v 0) (.lst [(.mkx 35 (.k (.str s0))), (.mkx 36 (.k (.str s0))), (.mkx 23 (.k (.str s0))), (.mks 4 s1 (.k (.int 7)))])))]
abbrev t_law_kinds : Stmt := top 37
def c_law_kinds : List S := [(.asg 1 (.lst [(.isi (.v 0) (.gl 5)), (.isi (.v 0) (.gl 6)), (.isi (.v 0) (.gl 7))])), (.asg 1 (.bin .add (.v 1) (.lst [(.isi (.v 0) (.gl 8)), (.isi (.v 0) (.gl 9)), (.isi (.v 0) (.gl 10))]))), (.asg 1 (.bin .add (.v 1) (.lst [(.isi (.v 0) (.gl 11)), (.isi (.v 0) (.gl 12)), (.isi (.v 0) (.gl 13))]))), (.asg 1 (.bin .add (.v 1) (.lst [(.isi (.v 0) (.gl 14)), (.isi (.v 0) (.gl 15))]))), (.asg 1 (.bin .add (.v 1) (.lst [(.isi (.v 0) (.gl 16)), (.isi (.v 0) (.gl 17)), (.isi (.v 0) (.gl 18))]))), (.asg 1 (.bin .add (.v 1) (.lst [(.isi (.v 0) (.gl 19)), (.isi (.v 0) (.gl 20)), (.isi (.v 0) (.gl 21))]))), (.asg 1 (.bin .add (.v 1) (.lst [(.isi (.v 0) (.gl 22)), (.isi (.v 0) (.gl 24)), (.isi (.v 0) (.gl 25))]))), (.asg 1 (.bin .add (.v 1) (.lst [(.isi (.v 0) (.gl 26)), (.isi (.v 0) (.gl 27)), (.isi (.v 0) (.gl 28))]))), (.asg 1 (.bin .add (.v 1) (.lst [(.isi (.v 0) (.gl 29)), (.isi (.v 0) (.gl 30)), (.isi (.v 0) (.gl 31))]))), (.asg 1 (.bin .add (.v 1) (.lst [(.isi (.v 0) (.gl 32)), (.isi (.v 0) (.gl 33)), (.isi (.v 0) (.gl 34))]))), (.asg 1 (.bin .add (.v 1) (.lst [(.isi (.v 0) (.gl 35)), (.isi (.v 0) (.gl 36))]))), (.ret (.bin .add (.v 1) (.lst [(.isi (.v 0) (.gl 23)), (.isi (.v 0) (.gl 4))])))]
abbrev t_law : Stmt := top 38
def c_law : List S := [(.asg 1 (.call 0 [])), (.for_ (.nm 2) .range1 [(.bi .len [(.v 1)])] [(.ife (.or_ (.not_ (.tru (.isi (.ix (.v 1) (.v 2)) (.gl 3)))) (.not_ (.tru (.isi (.ix (.v 1) (.v 2)) (.ty "ValueError"))))) [(.ret (.k (.bl false)))] []), (.ife (.val (.cmp .ne (.call 1 [(.ix (.v 1) (.v 2))]) (.lc (.cmp .eq (.v 5) (.v 2)) [5] (.nm 5) .range1 [(.bi .len [(.v 1)])] .yes))) [(.ret (.k (.bl false)))] [])]), (.par 3 4 (.mkx 3 (.k (.str s2))) (.mks 4 s1 (.k (.int 3)))), (.ife (.or_ (.val (.cmp .in_ (.k (.bl true)) (.call 1 [(.v 3)]))) (.or_ (.not_ (.tru (.isi (.v 3) (.ty "ValueError")))) (.val (.cmp .ne (.strx (.v 3)) (.k (.str s2)))))) [(.ret (.k (.bl false)))] []), (.ret (.andV (.cmp .eq (.xfld s1 (.v 4)) (.k (.int 3))) (.andV (.cmp .eq (.xfld s1 (.ix (.v 1) (.k (.int 32)))) (.k (.int 7))) (.cmp .eq (.lc (.strx (.v 6)) [6] (.nm 6) .poly [(.sl (.v 1) [] [(.k (.int 32))])] .yes) (.bin .mul (.lst [(.k (.str s0))]) (.k (.int 32)))))))]
def defs : List Def := [⟨0, 1, c_law_made⟩, ⟨1, 2, c_law_kinds⟩, ⟨1, 7, c_law⟩]
def init : Nat → Option Nat
  | _ => none
def fldL : List (Nat × List Str) := []
def own : List Nat := []
def xs : List Nat := [3, 4, 5, 6, 7, 8, 9, 10, 11, 12, 13, 14, 15, 16, 17, 18, 19, 20, 21, 22, 23, 24, 25, 26, 27, 28, 29, 30, 31, 32, 33, 34, 35, 36]
def xtab : XTab := ⟨[.inl 3, .inl 5, .inl 6, .inl 7, .inl 8, .inl 9, .inl 10, .inl 11, .inl 12, .inl 13, .inl 14, .inl 15, .inl 16, .inl 17, .inl 18, .inl 19, .inl 20, .inl 21, .inl 22, .inl 23, .inl 24, .inl 25, .inl 26, .inl 27, .inl 28, .inl 29, .inl 30, .inl 31, .inl 4, .inl 32, .inl 33, .inl 34, .inl 35, .inl 36, .inr "ValueError"], [(3, [.inl 3, .inr "ValueError"]), (4, [.inl 3, .inl 4, .inr "ValueError"]), (5, [.inl 3, .inl 5, .inr "ValueError"]), (6, [.inl 3, .inl 6, .inr "ValueError"]), (7, [.inl 3, .inl 7, .inr "ValueError"]), (8, [.inl 3, .inl 8, .inr "ValueError"]), (9, [.inl 3, .inl 9, .inr "ValueError"]), (10, [.inl 3, .inl 10, .inr "ValueError"]), (11, [.inl 3, .inl 11, .inr "ValueError"]), (12, [.inl 3, .inl 12, .inr "ValueError"]), (13, [.inl 3, .inl 13, .inr "ValueError"]), (14, [.inl 3, .inl 14, .inr "ValueError"]), (15, [.inl 3, .inl 15, .inr "ValueError"]), (16, [.inl 3, .inl 16, .inr "ValueError"]), (17, [.inl 3, .inl 17, .inr "ValueError"]), (18, [.inl 3, .inl 18, .inr "ValueError"]), (19, [.inl 3, .inl 19, .inr "ValueError"]), (20, [.inl 3, .inl 20, .inr "ValueError"]), (21, [.inl 3, .inl 21, .inr "ValueError"]), (22, [.inl 3, .inl 22, .inr "ValueError"]), (23, [.inl 3, .inl 23, .inr "ValueError"]), (24, [.inl 3, .inl 24, .inr "ValueError"]), (25, [.inl 3, .inl 25, .inr "ValueError"]), (26, [.inl 3, .inl 26, .inr "ValueError"]), (27, [.inl 3, .inl 27, .inr "ValueError"]), (28, [.inl 3, .inl 28, .inr "ValueError"]), (29, [.inl 3, .inl 29, .inr "ValueError"]), (30, [.inl 3, .inl 30, .inr "ValueError"]), (31, [.inl 3, .inl 31, .inr "ValueError"]), (32, [.inl 3, .inl 32, .inr "ValueError"]), (33, [.inl 3, .inl 33, .inr "ValueError"]), (34, [.inl 3, .inl 34, .inr "ValueError"]), (35, [.inl 3, .inl 35, .inr "ValueError"]), (36, [.inl 3, .inl 36, .inr "ValueError"])]⟩
def exmL : List (Nat × Nat × Bool) := []
def sxL : List Nat := [3, 5, 6, 7, 8, 9, 10, 11, 12, 13, 14, 15, 16, 17, 18, 19, 20, 21, 22, 23, 24, 25, 26, 27, 28, 29, 30, 31, 32, 33, 34, 35, 36]
def xfL : List (Nat × List Str) := [(4, [s1])]
def prog : Prog := ⟨defs, init, fldsOf fldL, kitX own xtab, fun C => xs.contains C, exmOf exmL, fun C f => hasF f (fldsOf xfL C), fun C => sxL.contains C⟩
def adrs : List Ad := [(Ad.glo "_law_made"), (Ad.glo "_law_kinds"), (Ad.glo "law"), (Ad.glo "HushError"), (Ad.glo "ParseError"), (Ad.glo "InBand"), (Ad.glo "InvalidBand"), (Ad.glo "InvalidCoins"), (Ad.glo "InvalidIndex"), (Ad.glo "InvalidLine"), (Ad.glo "InvalidMessages"), (Ad.glo "InvalidModulus"), (Ad.glo "InvalidName"), (Ad.glo "InvalidNumber"), (Ad.glo "InvalidNumbers"), (Ad.glo "InvalidOpening"), (Ad.glo "InvalidPeople"), (Ad.glo "InvalidSayings"), (Ad.glo "InvalidSeries"), (Ad.glo "InvalidTies"), (Ad.glo "InvalidTimetable"), (Ad.glo "InvalidView"), (Ad.glo "InvalidWeb"), (Ad.glo "InvalidWeights"), (Ad.glo "Mismatch"), (Ad.glo "NameIsTaken"), (Ad.glo "NoCoins"), (Ad.glo "NoTalk"), (Ad.glo "NoTie"), (Ad.glo "NoVotes"), (Ad.glo "NobodyThere"), (Ad.glo "NothingToUndo"), (Ad.glo "SamePerson"), (Ad.glo "SmallModulus"), (Ad.glo "TooMany"), (Ad.glo "UnknownName"), (Ad.glo "UnknownPerson")]
structure Tx (Pg : Program) (K : PySem.W.Frag) (mg : Str → Option Value) (gm : Nat → Addr) (fd : Nat → FuncData) : Prop where
  F_law_made : Fun K "_law_made" "_law_made" t_law_made (gm 0) (fd 0)
  b_law_made : L2.Binds K (fd 0) [] []
  m_law_made : mg "_law_made" = some (.ref (gm 0))
  F_law_kinds : Fun K "_law_kinds" "_law_kinds" t_law_kinds (gm 1) (fd 1)
  b_law_kinds : L2.Binds K (fd 1) ["one"] []
  m_law_kinds : mg "_law_kinds" = some (.ref (gm 1))
  F_law : Fun K "law" "law" t_law (gm 2) (fd 2)
  b_law : L2.Binds K (fd 2) ["script"] []
  m_law : mg "law" = some (.ref (gm 2))
  n_ValueError : mg "ValueError" = none
  n_isinstance : mg "isinstance" = none
  n_len : mg "len" = none
  n_range : mg "range" = none
  n_str : mg "str" = none
  n_super : mg "super" = none
  g_HushError : mg "HushError" = some (.ref (gm 3))
  g_ParseError : mg "ParseError" = some (.ref (gm 4))
  g_InBand : mg "InBand" = some (.ref (gm 5))
  g_InvalidBand : mg "InvalidBand" = some (.ref (gm 6))
  g_InvalidCoins : mg "InvalidCoins" = some (.ref (gm 7))
  g_InvalidIndex : mg "InvalidIndex" = some (.ref (gm 8))
  g_InvalidLine : mg "InvalidLine" = some (.ref (gm 9))
  g_InvalidMessages : mg "InvalidMessages" = some (.ref (gm 10))
  g_InvalidModulus : mg "InvalidModulus" = some (.ref (gm 11))
  g_InvalidName : mg "InvalidName" = some (.ref (gm 12))
  g_InvalidNumber : mg "InvalidNumber" = some (.ref (gm 13))
  g_InvalidNumbers : mg "InvalidNumbers" = some (.ref (gm 14))
  g_InvalidOpening : mg "InvalidOpening" = some (.ref (gm 15))
  g_InvalidPeople : mg "InvalidPeople" = some (.ref (gm 16))
  g_InvalidSayings : mg "InvalidSayings" = some (.ref (gm 17))
  g_InvalidSeries : mg "InvalidSeries" = some (.ref (gm 18))
  g_InvalidTies : mg "InvalidTies" = some (.ref (gm 19))
  g_InvalidTimetable : mg "InvalidTimetable" = some (.ref (gm 20))
  g_InvalidView : mg "InvalidView" = some (.ref (gm 21))
  g_InvalidWeb : mg "InvalidWeb" = some (.ref (gm 22))
  g_InvalidWeights : mg "InvalidWeights" = some (.ref (gm 23))
  g_Mismatch : mg "Mismatch" = some (.ref (gm 24))
  g_NameIsTaken : mg "NameIsTaken" = some (.ref (gm 25))
  g_NoCoins : mg "NoCoins" = some (.ref (gm 26))
  g_NoTalk : mg "NoTalk" = some (.ref (gm 27))
  g_NoTie : mg "NoTie" = some (.ref (gm 28))
  g_NoVotes : mg "NoVotes" = some (.ref (gm 29))
  g_NobodyThere : mg "NobodyThere" = some (.ref (gm 30))
  g_NothingToUndo : mg "NothingToUndo" = some (.ref (gm 31))
  g_SamePerson : mg "SamePerson" = some (.ref (gm 32))
  g_SmallModulus : mg "SmallModulus" = some (.ref (gm 33))
  g_TooMany : mg "TooMany" = some (.ref (gm 34))
  g_UnknownName : mg "UnknownName" = some (.ref (gm 35))
  g_UnknownPerson : mg "UnknownPerson" = some (.ref (gm 36))
  u_ParseError : ∃ fI, SupI Pg K (gm 4) fI "line" s1
  x_HushError : PySem.W.excIn K (gm 3) He.veBase "ValueError.__new__" = true ∧ PySem.W.keepIn K (.ref (gm 3)) = true ∧ PySem.W.subIn K (.ref (gm 3)) (.type "BaseException") = some true ∧ PySem.W.typeIn K (.ref (gm 3)) = some (.type "type")
  x_InBand : PySem.W.excIn K (gm 5) He.veBase "ValueError.__new__" = true ∧ PySem.W.keepIn K (.ref (gm 5)) = true ∧ PySem.W.subIn K (.ref (gm 5)) (.type "BaseException") = some true ∧ PySem.W.typeIn K (.ref (gm 5)) = some (.type "type")
  x_InvalidBand : PySem.W.excIn K (gm 6) He.veBase "ValueError.__new__" = true ∧ PySem.W.keepIn K (.ref (gm 6)) = true ∧ PySem.W.subIn K (.ref (gm 6)) (.type "BaseException") = some true ∧ PySem.W.typeIn K (.ref (gm 6)) = some (.type "type")
  x_InvalidCoins : PySem.W.excIn K (gm 7) He.veBase "ValueError.__new__" = true ∧ PySem.W.keepIn K (.ref (gm 7)) = true ∧ PySem.W.subIn K (.ref (gm 7)) (.type "BaseException") = some true ∧ PySem.W.typeIn K (.ref (gm 7)) = some (.type "type")
  x_InvalidIndex : PySem.W.excIn K (gm 8) He.veBase "ValueError.__new__" = true ∧ PySem.W.keepIn K (.ref (gm 8)) = true ∧ PySem.W.subIn K (.ref (gm 8)) (.type "BaseException") = some true ∧ PySem.W.typeIn K (.ref (gm 8)) = some (.type "type")
  x_InvalidLine : PySem.W.excIn K (gm 9) He.veBase "ValueError.__new__" = true ∧ PySem.W.keepIn K (.ref (gm 9)) = true ∧ PySem.W.subIn K (.ref (gm 9)) (.type "BaseException") = some true ∧ PySem.W.typeIn K (.ref (gm 9)) = some (.type "type")
  x_InvalidMessages : PySem.W.excIn K (gm 10) He.veBase "ValueError.__new__" = true ∧ PySem.W.keepIn K (.ref (gm 10)) = true ∧ PySem.W.subIn K (.ref (gm 10)) (.type "BaseException") = some true ∧ PySem.W.typeIn K (.ref (gm 10)) = some (.type "type")
  x_InvalidModulus : PySem.W.excIn K (gm 11) He.veBase "ValueError.__new__" = true ∧ PySem.W.keepIn K (.ref (gm 11)) = true ∧ PySem.W.subIn K (.ref (gm 11)) (.type "BaseException") = some true ∧ PySem.W.typeIn K (.ref (gm 11)) = some (.type "type")
  x_InvalidName : PySem.W.excIn K (gm 12) He.veBase "ValueError.__new__" = true ∧ PySem.W.keepIn K (.ref (gm 12)) = true ∧ PySem.W.subIn K (.ref (gm 12)) (.type "BaseException") = some true ∧ PySem.W.typeIn K (.ref (gm 12)) = some (.type "type")
  x_InvalidNumber : PySem.W.excIn K (gm 13) He.veBase "ValueError.__new__" = true ∧ PySem.W.keepIn K (.ref (gm 13)) = true ∧ PySem.W.subIn K (.ref (gm 13)) (.type "BaseException") = some true ∧ PySem.W.typeIn K (.ref (gm 13)) = some (.type "type")
  x_InvalidNumbers : PySem.W.excIn K (gm 14) He.veBase "ValueError.__new__" = true ∧ PySem.W.keepIn K (.ref (gm 14)) = true ∧ PySem.W.subIn K (.ref (gm 14)) (.type "BaseException") = some true ∧ PySem.W.typeIn K (.ref (gm 14)) = some (.type "type")
  x_InvalidOpening : PySem.W.excIn K (gm 15) He.veBase "ValueError.__new__" = true ∧ PySem.W.keepIn K (.ref (gm 15)) = true ∧ PySem.W.subIn K (.ref (gm 15)) (.type "BaseException") = some true ∧ PySem.W.typeIn K (.ref (gm 15)) = some (.type "type")
  x_InvalidPeople : PySem.W.excIn K (gm 16) He.veBase "ValueError.__new__" = true ∧ PySem.W.keepIn K (.ref (gm 16)) = true ∧ PySem.W.subIn K (.ref (gm 16)) (.type "BaseException") = some true ∧ PySem.W.typeIn K (.ref (gm 16)) = some (.type "type")
  x_InvalidSayings : PySem.W.excIn K (gm 17) He.veBase "ValueError.__new__" = true ∧ PySem.W.keepIn K (.ref (gm 17)) = true ∧ PySem.W.subIn K (.ref (gm 17)) (.type "BaseException") = some true ∧ PySem.W.typeIn K (.ref (gm 17)) = some (.type "type")
  x_InvalidSeries : PySem.W.excIn K (gm 18) He.veBase "ValueError.__new__" = true ∧ PySem.W.keepIn K (.ref (gm 18)) = true ∧ PySem.W.subIn K (.ref (gm 18)) (.type "BaseException") = some true ∧ PySem.W.typeIn K (.ref (gm 18)) = some (.type "type")
  x_InvalidTies : PySem.W.excIn K (gm 19) He.veBase "ValueError.__new__" = true ∧ PySem.W.keepIn K (.ref (gm 19)) = true ∧ PySem.W.subIn K (.ref (gm 19)) (.type "BaseException") = some true ∧ PySem.W.typeIn K (.ref (gm 19)) = some (.type "type")
  x_InvalidTimetable : PySem.W.excIn K (gm 20) He.veBase "ValueError.__new__" = true ∧ PySem.W.keepIn K (.ref (gm 20)) = true ∧ PySem.W.subIn K (.ref (gm 20)) (.type "BaseException") = some true ∧ PySem.W.typeIn K (.ref (gm 20)) = some (.type "type")
  x_InvalidView : PySem.W.excIn K (gm 21) He.veBase "ValueError.__new__" = true ∧ PySem.W.keepIn K (.ref (gm 21)) = true ∧ PySem.W.subIn K (.ref (gm 21)) (.type "BaseException") = some true ∧ PySem.W.typeIn K (.ref (gm 21)) = some (.type "type")
  x_InvalidWeb : PySem.W.excIn K (gm 22) He.veBase "ValueError.__new__" = true ∧ PySem.W.keepIn K (.ref (gm 22)) = true ∧ PySem.W.subIn K (.ref (gm 22)) (.type "BaseException") = some true ∧ PySem.W.typeIn K (.ref (gm 22)) = some (.type "type")
  x_InvalidWeights : PySem.W.excIn K (gm 23) He.veBase "ValueError.__new__" = true ∧ PySem.W.keepIn K (.ref (gm 23)) = true ∧ PySem.W.subIn K (.ref (gm 23)) (.type "BaseException") = some true ∧ PySem.W.typeIn K (.ref (gm 23)) = some (.type "type")
  x_Mismatch : PySem.W.excIn K (gm 24) He.veBase "ValueError.__new__" = true ∧ PySem.W.keepIn K (.ref (gm 24)) = true ∧ PySem.W.subIn K (.ref (gm 24)) (.type "BaseException") = some true ∧ PySem.W.typeIn K (.ref (gm 24)) = some (.type "type")
  x_NameIsTaken : PySem.W.excIn K (gm 25) He.veBase "ValueError.__new__" = true ∧ PySem.W.keepIn K (.ref (gm 25)) = true ∧ PySem.W.subIn K (.ref (gm 25)) (.type "BaseException") = some true ∧ PySem.W.typeIn K (.ref (gm 25)) = some (.type "type")
  x_NoCoins : PySem.W.excIn K (gm 26) He.veBase "ValueError.__new__" = true ∧ PySem.W.keepIn K (.ref (gm 26)) = true ∧ PySem.W.subIn K (.ref (gm 26)) (.type "BaseException") = some true ∧ PySem.W.typeIn K (.ref (gm 26)) = some (.type "type")
  x_NoTalk : PySem.W.excIn K (gm 27) He.veBase "ValueError.__new__" = true ∧ PySem.W.keepIn K (.ref (gm 27)) = true ∧ PySem.W.subIn K (.ref (gm 27)) (.type "BaseException") = some true ∧ PySem.W.typeIn K (.ref (gm 27)) = some (.type "type")
  x_NoTie : PySem.W.excIn K (gm 28) He.veBase "ValueError.__new__" = true ∧ PySem.W.keepIn K (.ref (gm 28)) = true ∧ PySem.W.subIn K (.ref (gm 28)) (.type "BaseException") = some true ∧ PySem.W.typeIn K (.ref (gm 28)) = some (.type "type")
  x_NoVotes : PySem.W.excIn K (gm 29) He.veBase "ValueError.__new__" = true ∧ PySem.W.keepIn K (.ref (gm 29)) = true ∧ PySem.W.subIn K (.ref (gm 29)) (.type "BaseException") = some true ∧ PySem.W.typeIn K (.ref (gm 29)) = some (.type "type")
  x_NobodyThere : PySem.W.excIn K (gm 30) He.veBase "ValueError.__new__" = true ∧ PySem.W.keepIn K (.ref (gm 30)) = true ∧ PySem.W.subIn K (.ref (gm 30)) (.type "BaseException") = some true ∧ PySem.W.typeIn K (.ref (gm 30)) = some (.type "type")
  x_NothingToUndo : PySem.W.excIn K (gm 31) He.veBase "ValueError.__new__" = true ∧ PySem.W.keepIn K (.ref (gm 31)) = true ∧ PySem.W.subIn K (.ref (gm 31)) (.type "BaseException") = some true ∧ PySem.W.typeIn K (.ref (gm 31)) = some (.type "type")
  x_SamePerson : PySem.W.excIn K (gm 32) He.veBase "ValueError.__new__" = true ∧ PySem.W.keepIn K (.ref (gm 32)) = true ∧ PySem.W.subIn K (.ref (gm 32)) (.type "BaseException") = some true ∧ PySem.W.typeIn K (.ref (gm 32)) = some (.type "type")
  x_SmallModulus : PySem.W.excIn K (gm 33) He.veBase "ValueError.__new__" = true ∧ PySem.W.keepIn K (.ref (gm 33)) = true ∧ PySem.W.subIn K (.ref (gm 33)) (.type "BaseException") = some true ∧ PySem.W.typeIn K (.ref (gm 33)) = some (.type "type")
  x_TooMany : PySem.W.excIn K (gm 34) He.veBase "ValueError.__new__" = true ∧ PySem.W.keepIn K (.ref (gm 34)) = true ∧ PySem.W.subIn K (.ref (gm 34)) (.type "BaseException") = some true ∧ PySem.W.typeIn K (.ref (gm 34)) = some (.type "type")
  x_UnknownName : PySem.W.excIn K (gm 35) He.veBase "ValueError.__new__" = true ∧ PySem.W.keepIn K (.ref (gm 35)) = true ∧ PySem.W.subIn K (.ref (gm 35)) (.type "BaseException") = some true ∧ PySem.W.typeIn K (.ref (gm 35)) = some (.type "type")
  x_UnknownPerson : PySem.W.excIn K (gm 36) He.veBase "ValueError.__new__" = true ∧ PySem.W.keepIn K (.ref (gm 36)) = true ∧ PySem.W.subIn K (.ref (gm 36)) (.type "BaseException") = some true ∧ PySem.W.typeIn K (.ref (gm 36)) = some (.type "type")
abbrev ts_ParseError : Stmt := inClass (top 2) 0
def su_ParseError : SupD := ⟨"ParseError", "line", s1, PySem.Challenge.pw_hushweb_k16_error_classes.main.file, "__init__", "ParseError.__init__", defArgs ts_ParseError, defBody ts_ParseError, defScope ts_ParseError⟩
def said : Said := ⟨[.tabT adrs xtab, .strC "HushError", .strC "InBand", .strC "InvalidBand", .strC "InvalidCoins", .strC "InvalidIndex", .strC "InvalidLine", .strC "InvalidMessages", .strC "InvalidModulus", .strC "InvalidName", .strC "InvalidNumber", .strC "InvalidNumbers", .strC "InvalidOpening", .strC "InvalidPeople", .strC "InvalidSayings", .strC "InvalidSeries", .strC "InvalidTies", .strC "InvalidTimetable", .strC "InvalidView", .strC "InvalidWeb", .strC "InvalidWeights", .strC "Mismatch", .strC "NameIsTaken", .strC "NoCoins", .strC "NoTalk", .strC "NoTie", .strC "NoVotes", .strC "NobodyThere", .strC "NothingToUndo", .strC "SamePerson", .strC "SmallModulus", .strC "TooMany", .strC "UnknownName", .strC "UnknownPerson", .xfA "ParseError" s1, .excC "HushError", .excC "ParseError", .excC "InBand", .excC "InvalidBand", .excC "InvalidCoins", .excC "InvalidIndex", .excC "InvalidLine", .excC "InvalidMessages", .excC "InvalidModulus", .excC "InvalidName", .excC "InvalidNumber", .excC "InvalidNumbers", .excC "InvalidOpening", .excC "InvalidPeople", .excC "InvalidSayings", .excC "InvalidSeries", .excC "InvalidTies", .excC "InvalidTimetable", .excC "InvalidView", .excC "InvalidWeb", .excC "InvalidWeights", .excC "Mismatch", .excC "NameIsTaken", .excC "NoCoins", .excC "NoTalk", .excC "NoTie", .excC "NoVotes", .excC "NobodyThere", .excC "NothingToUndo", .excC "SamePerson", .excC "SmallModulus", .excC "TooMany", .excC "UnknownName", .excC "UnknownPerson", .kits (own.map (nmJ adrs))], [.glo "_law_made", .glo "_law_kinds", .glo "law", .free "ValueError", .free "isinstance", .free "len", .free "range", .free "str", .free "super", .glo "HushError", .glo "ParseError", .glo "InBand", .glo "InvalidBand", .glo "InvalidCoins", .glo "InvalidIndex", .glo "InvalidLine", .glo "InvalidMessages", .glo "InvalidModulus", .glo "InvalidName", .glo "InvalidNumber", .glo "InvalidNumbers", .glo "InvalidOpening", .glo "InvalidPeople", .glo "InvalidSayings", .glo "InvalidSeries", .glo "InvalidTies", .glo "InvalidTimetable", .glo "InvalidView", .glo "InvalidWeb", .glo "InvalidWeights", .glo "Mismatch", .glo "NameIsTaken", .glo "NoCoins", .glo "NoTalk", .glo "NoTie", .glo "NoVotes", .glo "NobodyThere", .glo "NothingToUndo", .glo "SamePerson", .glo "SmallModulus", .glo "TooMany", .glo "UnknownName", .glo "UnknownPerson", .exc "HushError", .exc "InBand", .exc "InvalidBand", .exc "InvalidCoins", .exc "InvalidIndex", .exc "InvalidLine", .exc "InvalidMessages", .exc "InvalidModulus", .exc "InvalidName", .exc "InvalidNumber", .exc "InvalidNumbers", .exc "InvalidOpening", .exc "InvalidPeople", .exc "InvalidSayings", .exc "InvalidSeries", .exc "InvalidTies", .exc "InvalidTimetable", .exc "InvalidView", .exc "InvalidWeb", .exc "InvalidWeights", .exc "Mismatch", .exc "NameIsTaken", .exc "NoCoins", .exc "NoTalk", .exc "NoTie", .exc "NoVotes", .exc "NobodyThere", .exc "NothingToUndo", .exc "SamePerson", .exc "SmallModulus", .exc "TooMany", .exc "UnknownName", .exc "UnknownPerson"], [((Ad.glo "_law_made"), ⟨("_law_made", none), "_law_made", "_law_made", defArgs t_law_made, defBody t_law_made, defScope t_law_made, [], []⟩), ((Ad.glo "_law_kinds"), ⟨("_law_kinds", none), "_law_kinds", "_law_kinds", defArgs t_law_kinds, defBody t_law_kinds, defScope t_law_kinds, [], []⟩), ((Ad.glo "law"), ⟨("law", none), "law", "law", defArgs t_law, defBody t_law, defScope t_law, [], []⟩)], [su_ParseError]⟩
theorem tx_of {K : PySem.W.Frag} {h : Heap} {mg : Str → Option Value} (X : K.In h) (G : h.Ns mainGlobals mg) (c : SaysJ said K) : Tx PySem.Challenge.rw_hushweb_k16_error_classes.prog K mg (gmJ adrs K) (fun i => fdOf K (gmJ adrs K i)) where
  F_law_made := J.FunD.plain (c.fun_ 0)
  b_law_made := Fun.binds (x := "_law_made") (qual := "_law_made") (st := t_law_made) (ps := []) (J.FunD.plain (c.fun_ 0)) fun _ _ _ _ _ _ us hl => match us, hl with | [], _ => rfl
  m_law_made := He.glo_ok X G (c.fact 0)
  F_law_kinds := J.FunD.plain (c.fun_ 1)
  b_law_kinds := Fun.binds (x := "_law_kinds") (qual := "_law_kinds") (st := t_law_kinds) (ps := ["one"]) (J.FunD.plain (c.fun_ 1)) fun _ _ _ _ _ _ us hl => match us, hl with | [_], _ => rfl
  m_law_kinds := He.glo_ok X G (c.fact 1)
  F_law := J.FunD.plain (c.fun_ 2)
  b_law := Fun.binds (x := "law") (qual := "law") (st := t_law) (ps := ["script"]) (J.FunD.plain (c.fun_ 2)) fun _ _ _ _ _ _ us hl => match us, hl with | [_], _ => rfl
  m_law := He.glo_ok X G (c.fact 2)
  n_ValueError := He.free_ok X G (c.fact 3)
  n_isinstance := He.free_ok X G (c.fact 4)
  n_len := He.free_ok X G (c.fact 5)
  n_range := He.free_ok X G (c.fact 6)
  n_str := He.free_ok X G (c.fact 7)
  n_super := He.free_ok X G (c.fact 8)
  g_HushError := He.glo_ok X G (c.fact 9)
  g_ParseError := He.glo_ok X G (c.fact 10)
  g_InBand := He.glo_ok X G (c.fact 11)
  g_InvalidBand := He.glo_ok X G (c.fact 12)
  g_InvalidCoins := He.glo_ok X G (c.fact 13)
  g_InvalidIndex := He.glo_ok X G (c.fact 14)
  g_InvalidLine := He.glo_ok X G (c.fact 15)
  g_InvalidMessages := He.glo_ok X G (c.fact 16)
  g_InvalidModulus := He.glo_ok X G (c.fact 17)
  g_InvalidName := He.glo_ok X G (c.fact 18)
  g_InvalidNumber := He.glo_ok X G (c.fact 19)
  g_InvalidNumbers := He.glo_ok X G (c.fact 20)
  g_InvalidOpening := He.glo_ok X G (c.fact 21)
  g_InvalidPeople := He.glo_ok X G (c.fact 22)
  g_InvalidSayings := He.glo_ok X G (c.fact 23)
  g_InvalidSeries := He.glo_ok X G (c.fact 24)
  g_InvalidTies := He.glo_ok X G (c.fact 25)
  g_InvalidTimetable := He.glo_ok X G (c.fact 26)
  g_InvalidView := He.glo_ok X G (c.fact 27)
  g_InvalidWeb := He.glo_ok X G (c.fact 28)
  g_InvalidWeights := He.glo_ok X G (c.fact 29)
  g_Mismatch := He.glo_ok X G (c.fact 30)
  g_NameIsTaken := He.glo_ok X G (c.fact 31)
  g_NoCoins := He.glo_ok X G (c.fact 32)
  g_NoTalk := He.glo_ok X G (c.fact 33)
  g_NoTie := He.glo_ok X G (c.fact 34)
  g_NoVotes := He.glo_ok X G (c.fact 35)
  g_NobodyThere := He.glo_ok X G (c.fact 36)
  g_NothingToUndo := He.glo_ok X G (c.fact 37)
  g_SamePerson := He.glo_ok X G (c.fact 38)
  g_SmallModulus := He.glo_ok X G (c.fact 39)
  g_TooMany := He.glo_ok X G (c.fact 40)
  g_UnknownName := He.glo_ok X G (c.fact 41)
  g_UnknownPerson := He.glo_ok X G (c.fact 42)
  u_ParseError := ⟨_, supAt_ok (Pg := PySem.Challenge.rw_hushweb_k16_error_classes.prog) (d := su_ParseError) (c.sup 0).1 (c.sup 0).2 (by kernel_rfl) (by show SupBody _ s1 _ _ _; rw [← e_s1]; exact ⟨_, _, _, _, _, _, _, _, _, _, _, _, _, _, _, _, (by kernel_rfl), rfl⟩) (by decide +kernel) (by decide +kernel) ⟨_, rfl, rfl⟩ (fun _ _ _ _ _ _ _ s u v => ⟨BindsTo.of_eq rfl, BindsTo.of_eq rfl⟩) (by decide +kernel) rfl rfl rfl (by decide +kernel) (by decide +kernel) (by decide +kernel) (by decide +kernel) (by decide +kernel) (by decide +kernel) (by decide +kernel)⟩
  x_HushError := He.exc_ok (c.fact 43)
  x_InBand := He.exc_ok (c.fact 44)
  x_InvalidBand := He.exc_ok (c.fact 45)
  x_InvalidCoins := He.exc_ok (c.fact 46)
  x_InvalidIndex := He.exc_ok (c.fact 47)
  x_InvalidLine := He.exc_ok (c.fact 48)
  x_InvalidMessages := He.exc_ok (c.fact 49)
  x_InvalidModulus := He.exc_ok (c.fact 50)
  x_InvalidName := He.exc_ok (c.fact 51)
  x_InvalidNumber := He.exc_ok (c.fact 52)
  x_InvalidNumbers := He.exc_ok (c.fact 53)
  x_InvalidOpening := He.exc_ok (c.fact 54)
  x_InvalidPeople := He.exc_ok (c.fact 55)
  x_InvalidSayings := He.exc_ok (c.fact 56)
  x_InvalidSeries := He.exc_ok (c.fact 57)
  x_InvalidTies := He.exc_ok (c.fact 58)
  x_InvalidTimetable := He.exc_ok (c.fact 59)
  x_InvalidView := He.exc_ok (c.fact 60)
  x_InvalidWeb := He.exc_ok (c.fact 61)
  x_InvalidWeights := He.exc_ok (c.fact 62)
  x_Mismatch := He.exc_ok (c.fact 63)
  x_NameIsTaken := He.exc_ok (c.fact 64)
  x_NoCoins := He.exc_ok (c.fact 65)
  x_NoTalk := He.exc_ok (c.fact 66)
  x_NoTie := He.exc_ok (c.fact 67)
  x_NoVotes := He.exc_ok (c.fact 68)
  x_NobodyThere := He.exc_ok (c.fact 69)
  x_NothingToUndo := He.exc_ok (c.fact 70)
  x_SamePerson := He.exc_ok (c.fact 71)
  x_SmallModulus := He.exc_ok (c.fact 72)
  x_TooMany := He.exc_ok (c.fact 73)
  x_UnknownName := He.exc_ok (c.fact 74)
  x_UnknownPerson := He.exc_ok (c.fact 75)
theorem facts {K : PySem.W.Frag} {mg : Str → Option Value} {fd : Nat → FuncData} (c : SaysJ said K) (T : Tx PySem.Challenge.rw_hushweb_k16_error_classes.prog K mg (gmJ adrs K) fd) : Facts prog K (gmJ adrs K) :=
  ⟨fldsOf_ok (A := fun C f => Cls K (gmJ adrs K C) ∧ NoAttr K (gmJ adrs K C) f) (l := fldL) trivial,
   kitX_ok (kitOf_ok (nm := nmJ adrs) (AllP.at_ (p := fun i => gmJ adrs K i = He.ga K (nmJ adrs i)) (l := own) trivial) (by decide +kernel) (c.own 69))
     (tabT_ok (c.own 0)),
   fun C _ _ hx e => AllP.at_ (p := fun i => InsTy K (gmJ adrs K i)) (l := own) trivial C (kitX_ins (xs := xs) (by decide +kernel) hx e),
   fun C e => AllP.at_ (p := fun C => ExcC K (gmJ adrs K C)) (l := xs) ⟨excC_ok (c.own 35), ⟨excC_ok (c.own 36), ⟨excC_ok (c.own 37), ⟨excC_ok (c.own 38), ⟨excC_ok (c.own 39), ⟨excC_ok (c.own 40), ⟨excC_ok (c.own 41), ⟨excC_ok (c.own 42), ⟨excC_ok (c.own 43), ⟨excC_ok (c.own 44), ⟨excC_ok (c.own 45), ⟨excC_ok (c.own 46), ⟨excC_ok (c.own 47), ⟨excC_ok (c.own 48), ⟨excC_ok (c.own 49), ⟨excC_ok (c.own 50), ⟨excC_ok (c.own 51), ⟨excC_ok (c.own 52), ⟨excC_ok (c.own 53), ⟨excC_ok (c.own 54), ⟨excC_ok (c.own 55), ⟨excC_ok (c.own 56), ⟨excC_ok (c.own 57), ⟨excC_ok (c.own 58), ⟨excC_ok (c.own 59), ⟨excC_ok (c.own 60), ⟨excC_ok (c.own 61), ⟨excC_ok (c.own 62), ⟨excC_ok (c.own 63), ⟨excC_ok (c.own 64), ⟨excC_ok (c.own 65), ⟨excC_ok (c.own 66), ⟨excC_ok (c.own 67), ⟨excC_ok (c.own 68), trivial⟩⟩⟩⟩⟩⟩⟩⟩⟩⟩⟩⟩⟩⟩⟩⟩⟩⟩⟩⟩⟩⟩⟩⟩⟩⟩⟩⟩⟩⟩⟩⟩⟩⟩ C (List.contains_iff_mem.mp e),
   fldsOf_ok (A := fun C f => XfA K (gmJ adrs K C) f) (l := xfL) ⟨⟨xfA_ok (c.own 34), trivial⟩, trivial⟩,
   fun C e => AllP.at_ (p := fun C => StrC K (gmJ adrs K C)) (l := sxL) ⟨strC_ok (c.own 1), ⟨strC_ok (c.own 2), ⟨strC_ok (c.own 3), ⟨strC_ok (c.own 4), ⟨strC_ok (c.own 5), ⟨strC_ok (c.own 6), ⟨strC_ok (c.own 7), ⟨strC_ok (c.own 8), ⟨strC_ok (c.own 9), ⟨strC_ok (c.own 10), ⟨strC_ok (c.own 11), ⟨strC_ok (c.own 12), ⟨strC_ok (c.own 13), ⟨strC_ok (c.own 14), ⟨strC_ok (c.own 15), ⟨strC_ok (c.own 16), ⟨strC_ok (c.own 17), ⟨strC_ok (c.own 18), ⟨strC_ok (c.own 19), ⟨strC_ok (c.own 20), ⟨strC_ok (c.own 21), ⟨strC_ok (c.own 22), ⟨strC_ok (c.own 23), ⟨strC_ok (c.own 24), ⟨strC_ok (c.own 25), ⟨strC_ok (c.own 26), ⟨strC_ok (c.own 27), ⟨strC_ok (c.own 28), ⟨strC_ok (c.own 29), ⟨strC_ok (c.own 30), ⟨strC_ok (c.own 31), ⟨strC_ok (c.own 32), ⟨strC_ok (c.own 33), trivial⟩⟩⟩⟩⟩⟩⟩⟩⟩⟩⟩⟩⟩⟩⟩⟩⟩⟩⟩⟩⟩⟩⟩⟩⟩⟩⟩⟩⟩⟩⟩⟩⟩ C (List.contains_iff_mem.mp e),
   exmOf_ok (A := fun c d b => PySem.W.exmOne K (.ref (gmJ adrs K c)) (.ref (gmJ adrs K d)) = some b) (l := exmL) trivial⟩
section
variable {Pg : Program} {w : World} {K : PySem.W.Frag} {mg : Str → Option Value} {base : Heap} {gm : Nat → Addr} {fd : Nat → FuncData}
theorem sc_law_made : FnScope ["found"] [] (defScope t_law_made) := ⟨rfl, rfl, rfl, by decide +kernel, rfl, by decide +kernel, by decide +kernel⟩
theorem ok_law_made (T : Tx Pg K mg gm fd) (Fa : Facts prog K gm) : FnG Pg w K mg base 3 (gm 0) (fd 0) [] (spI prog K gm 0) := by
  refine def_ok (d := ⟨0, 1, c_law_made⟩) Fa rfl rfl rfl T.F_law_made sc_law_made fun cdv Ar out st H Ex hr hg => ?_
  have hu := units70 hr
  have nd := sc_law_made.nd
  have tk : Takes (cxOf (L2.CX Pg w) Pg w K mg base ["found"] "_law_made" (defScope t_law_made) (gm 0) cdv Ar out st H Ex) (fun cls d _ H => Ex cls d H) := takes_of rfl rfl rfl rfl
  exact (pss_cons (ps_set (i := 0) nd rfl (Or.inl rfl) (pe_lst (pa_cons (pe_excV PySem.F.excBase_ValueError T.x_InBand.1 T.g_InBand T.x_InBand.2.1 (by rfl) (pe_strK e_s0)) (pa_cons (pe_excV PySem.F.excBase_ValueError T.x_InvalidBand.1 T.g_InvalidBand T.x_InvalidBand.2.1 (by rfl) (pe_strK e_s0)) (pa_cons (pe_excV PySem.F.excBase_ValueError T.x_InvalidCoins.1 T.g_InvalidCoins T.x_InvalidCoins.2.1 (by rfl) (pe_strK e_s0)) (pa_cons (pe_excV PySem.F.excBase_ValueError T.x_InvalidIndex.1 T.g_InvalidIndex T.x_InvalidIndex.2.1 (by rfl) (pe_strK e_s0)) (pa_cons (pe_excV PySem.F.excBase_ValueError T.x_InvalidLine.1 T.g_InvalidLine T.x_InvalidLine.2.1 (by rfl) (pe_strK e_s0)) pa_nil))))))) (pss_cons (ps_set (i := 0) nd rfl (Or.inl rfl) (pe_op (op_bin .add) (pv 0) (pe_lst (pa_cons (pe_excV PySem.F.excBase_ValueError T.x_InvalidMessages.1 T.g_InvalidMessages T.x_InvalidMessages.2.1 (by rfl) (pe_strK e_s0)) (pa_cons (pe_excV PySem.F.excBase_ValueError T.x_InvalidModulus.1 T.g_InvalidModulus T.x_InvalidModulus.2.1 (by rfl) (pe_strK e_s0)) (pa_cons (pe_excV PySem.F.excBase_ValueError T.x_InvalidName.1 T.g_InvalidName T.x_InvalidName.2.1 (by rfl) (pe_strK e_s0)) (pa_cons (pe_excV PySem.F.excBase_ValueError T.x_InvalidNumber.1 T.g_InvalidNumber T.x_InvalidNumber.2.1 (by rfl) (pe_strK e_s0)) pa_nil))))))) (pss_cons (ps_set (i := 0) nd rfl (Or.inl rfl) (pe_op (op_bin .add) (pv 0) (pe_lst (pa_cons (pe_excV PySem.F.excBase_ValueError T.x_InvalidNumbers.1 T.g_InvalidNumbers T.x_InvalidNumbers.2.1 (by rfl) (pe_strK e_s0)) (pa_cons (pe_excV PySem.F.excBase_ValueError T.x_InvalidOpening.1 T.g_InvalidOpening T.x_InvalidOpening.2.1 (by rfl) (pe_strK e_s0)) (pa_cons (pe_excV PySem.F.excBase_ValueError T.x_InvalidPeople.1 T.g_InvalidPeople T.x_InvalidPeople.2.1 (by rfl) (pe_strK e_s0)) (pa_cons (pe_excV PySem.F.excBase_ValueError T.x_InvalidSayings.1 T.g_InvalidSayings T.x_InvalidSayings.2.1 (by rfl) (pe_strK e_s0)) pa_nil))))))) (pss_cons (ps_set (i := 0) nd rfl (Or.inl rfl) (pe_op (op_bin .add) (pv 0) (pe_lst (pa_cons (pe_excV PySem.F.excBase_ValueError T.x_InvalidSeries.1 T.g_InvalidSeries T.x_InvalidSeries.2.1 (by rfl) (pe_strK e_s0)) (pa_cons (pe_excV PySem.F.excBase_ValueError T.x_InvalidTies.1 T.g_InvalidTies T.x_InvalidTies.2.1 (by rfl) (pe_strK e_s0)) (pa_cons (pe_excV PySem.F.excBase_ValueError T.x_InvalidTimetable.1 T.g_InvalidTimetable T.x_InvalidTimetable.2.1 (by rfl) (pe_strK e_s0)) (pa_cons (pe_excV PySem.F.excBase_ValueError T.x_InvalidView.1 T.g_InvalidView T.x_InvalidView.2.1 (by rfl) (pe_strK e_s0)) (pa_cons (pe_excV PySem.F.excBase_ValueError T.x_InvalidWeb.1 T.g_InvalidWeb T.x_InvalidWeb.2.1 (by rfl) (pe_strK e_s0)) pa_nil)))))))) (pss_cons (ps_set (i := 0) nd rfl (Or.inl rfl) (pe_op (op_bin .add) (pv 0) (pe_lst (pa_cons (pe_excV PySem.F.excBase_ValueError T.x_Mismatch.1 T.g_Mismatch T.x_Mismatch.2.1 (by rfl) (pe_strK e_s0)) (pa_cons (pe_excV PySem.F.excBase_ValueError T.x_NameIsTaken.1 T.g_NameIsTaken T.x_NameIsTaken.2.1 (by rfl) (pe_strK e_s0)) (pa_cons (pe_excV PySem.F.excBase_ValueError T.x_NoCoins.1 T.g_NoCoins T.x_NoCoins.2.1 (by rfl) (pe_strK e_s0)) (pa_cons (pe_excV PySem.F.excBase_ValueError T.x_NoTalk.1 T.g_NoTalk T.x_NoTalk.2.1 (by rfl) (pe_strK e_s0)) (pa_cons (pe_excV PySem.F.excBase_ValueError T.x_NoTie.1 T.g_NoTie T.x_NoTie.2.1 (by rfl) (pe_strK e_s0)) (pa_cons (pe_excV PySem.F.excBase_ValueError T.x_NoVotes.1 T.g_NoVotes T.x_NoVotes.2.1 (by rfl) (pe_strK e_s0)) pa_nil))))))))) (pss_cons (ps_set (i := 0) nd rfl (Or.inl rfl) (pe_op (op_bin .add) (pv 0) (pe_lst (pa_cons (pe_excV PySem.F.excBase_ValueError T.x_NobodyThere.1 T.g_NobodyThere T.x_NobodyThere.2.1 (by rfl) (pe_strK e_s0)) (pa_cons (pe_excV PySem.F.excBase_ValueError T.x_NothingToUndo.1 T.g_NothingToUndo T.x_NothingToUndo.2.1 (by rfl) (pe_strK e_s0)) (pa_cons (pe_excV PySem.F.excBase_ValueError T.x_SamePerson.1 T.g_SamePerson T.x_SamePerson.2.1 (by rfl) (pe_strK e_s0)) (pa_cons (pe_excV PySem.F.excBase_ValueError T.x_SmallModulus.1 T.g_SmallModulus T.x_SmallModulus.2.1 (by rfl) (pe_strK e_s0)) (pa_cons (pe_excV PySem.F.excBase_ValueError T.x_TooMany.1 T.g_TooMany T.x_TooMany.2.1 (by rfl) (pe_strK e_s0)) pa_nil)))))))) (pss_one (ps_ret (pe_op (op_bin .add) (pv 0) (pe_lst (pa_cons (pe_excV PySem.F.excBase_ValueError T.x_UnknownName.1 T.g_UnknownName T.x_UnknownName.2.1 (by rfl) (pe_strK e_s0)) (pa_cons (pe_excV PySem.F.excBase_ValueError T.x_UnknownPerson.1 T.g_UnknownPerson T.x_UnknownPerson.2.1 (by rfl) (pe_strK e_s0)) (pa_cons (pe_excV PySem.F.excBase_ValueError T.x_InvalidWeights.1 T.g_InvalidWeights T.x_InvalidWeights.2.1 (by rfl) (pe_strK e_s0)) (pa_cons (pe_supV T.u_ParseError.choose_spec T.n_super T.g_ParseError (hr.mono (by decide)) (by rfl) pe_int) pa_nil))))))))))))))
theorem sc_law_kinds : FnScope ["one", "found"] ["one"] (defScope t_law_kinds) := ⟨rfl, rfl, rfl, by decide +kernel, rfl, by decide +kernel, by decide +kernel⟩
theorem ok_law_kinds (T : Tx Pg K mg gm fd) (Fa : Facts prog K gm) : FnG Pg w K mg base 1 (gm 1) (fd 1) ["one"] (spI prog K gm 1) := by
  refine def_ok (d := ⟨1, 2, c_law_kinds⟩) Fa rfl rfl rfl T.F_law_kinds sc_law_kinds fun cdv Ar out st H Ex hr hg => ?_
  have hu := units70 hr
  have nd := sc_law_kinds.nd
  have tk : Takes (cxOf (L2.CX Pg w) Pg w K mg base ["one", "found"] "_law_kinds" (defScope t_law_kinds) (gm 1) cdv Ar out st H Ex) (fun cls d _ H => Ex cls d H) := takes_of rfl rfl rfl rfl
  exact (pss_cons (ps_set (i := 1) nd rfl (Or.inl rfl) (pe_lst (pa_cons (pe_callB call_isJ (by rfl) T.n_isinstance (by decide +kernel) (pa_cons (pv 0) (pa_cons (pe_glob (by rfl) T.g_InBand (by rfl)) pa_nil))) (pa_cons (pe_callB call_isJ (by rfl) T.n_isinstance (by decide +kernel) (pa_cons (pv 0) (pa_cons (pe_glob (by rfl) T.g_InvalidBand (by rfl)) pa_nil))) (pa_cons (pe_callB call_isJ (by rfl) T.n_isinstance (by decide +kernel) (pa_cons (pv 0) (pa_cons (pe_glob (by rfl) T.g_InvalidCoins (by rfl)) pa_nil))) pa_nil))))) (pss_cons (ps_set (i := 1) nd rfl (Or.inl rfl) (pe_op (op_bin .add) (pv 1) (pe_lst (pa_cons (pe_callB call_isJ (by rfl) T.n_isinstance (by decide +kernel) (pa_cons (pv 0) (pa_cons (pe_glob (by rfl) T.g_InvalidIndex (by rfl)) pa_nil))) (pa_cons (pe_callB call_isJ (by rfl) T.n_isinstance (by decide +kernel) (pa_cons (pv 0) (pa_cons (pe_glob (by rfl) T.g_InvalidLine (by rfl)) pa_nil))) (pa_cons (pe_callB call_isJ (by rfl) T.n_isinstance (by decide +kernel) (pa_cons (pv 0) (pa_cons (pe_glob (by rfl) T.g_InvalidMessages (by rfl)) pa_nil))) pa_nil)))))) (pss_cons (ps_set (i := 1) nd rfl (Or.inl rfl) (pe_op (op_bin .add) (pv 1) (pe_lst (pa_cons (pe_callB call_isJ (by rfl) T.n_isinstance (by decide +kernel) (pa_cons (pv 0) (pa_cons (pe_glob (by rfl) T.g_InvalidModulus (by rfl)) pa_nil))) (pa_cons (pe_callB call_isJ (by rfl) T.n_isinstance (by decide +kernel) (pa_cons (pv 0) (pa_cons (pe_glob (by rfl) T.g_InvalidName (by rfl)) pa_nil))) (pa_cons (pe_callB call_isJ (by rfl) T.n_isinstance (by decide +kernel) (pa_cons (pv 0) (pa_cons (pe_glob (by rfl) T.g_InvalidNumber (by rfl)) pa_nil))) pa_nil)))))) (pss_cons (ps_set (i := 1) nd rfl (Or.inl rfl) (pe_op (op_bin .add) (pv 1) (pe_lst (pa_cons (pe_callB call_isJ (by rfl) T.n_isinstance (by decide +kernel) (pa_cons (pv 0) (pa_cons (pe_glob (by rfl) T.g_InvalidNumbers (by rfl)) pa_nil))) (pa_cons (pe_callB call_isJ (by rfl) T.n_isinstance (by decide +kernel) (pa_cons (pv 0) (pa_cons (pe_glob (by rfl) T.g_InvalidOpening (by rfl)) pa_nil))) pa_nil))))) (pss_cons (ps_set (i := 1) nd rfl (Or.inl rfl) (pe_op (op_bin .add) (pv 1) (pe_lst (pa_cons (pe_callB call_isJ (by rfl) T.n_isinstance (by decide +kernel) (pa_cons (pv 0) (pa_cons (pe_glob (by rfl) T.g_InvalidPeople (by rfl)) pa_nil))) (pa_cons (pe_callB call_isJ (by rfl) T.n_isinstance (by decide +kernel) (pa_cons (pv 0) (pa_cons (pe_glob (by rfl) T.g_InvalidSayings (by rfl)) pa_nil))) (pa_cons (pe_callB call_isJ (by rfl) T.n_isinstance (by decide +kernel) (pa_cons (pv 0) (pa_cons (pe_glob (by rfl) T.g_InvalidSeries (by rfl)) pa_nil))) pa_nil)))))) (pss_cons (ps_set (i := 1) nd rfl (Or.inl rfl) (pe_op (op_bin .add) (pv 1) (pe_lst (pa_cons (pe_callB call_isJ (by rfl) T.n_isinstance (by decide +kernel) (pa_cons (pv 0) (pa_cons (pe_glob (by rfl) T.g_InvalidTies (by rfl)) pa_nil))) (pa_cons (pe_callB call_isJ (by rfl) T.n_isinstance (by decide +kernel) (pa_cons (pv 0) (pa_cons (pe_glob (by rfl) T.g_InvalidTimetable (by rfl)) pa_nil))) (pa_cons (pe_callB call_isJ (by rfl) T.n_isinstance (by decide +kernel) (pa_cons (pv 0) (pa_cons (pe_glob (by rfl) T.g_InvalidView (by rfl)) pa_nil))) pa_nil)))))) (pss_cons (ps_set (i := 1) nd rfl (Or.inl rfl) (pe_op (op_bin .add) (pv 1) (pe_lst (pa_cons (pe_callB call_isJ (by rfl) T.n_isinstance (by decide +kernel) (pa_cons (pv 0) (pa_cons (pe_glob (by rfl) T.g_InvalidWeb (by rfl)) pa_nil))) (pa_cons (pe_callB call_isJ (by rfl) T.n_isinstance (by decide +kernel) (pa_cons (pv 0) (pa_cons (pe_glob (by rfl) T.g_Mismatch (by rfl)) pa_nil))) (pa_cons (pe_callB call_isJ (by rfl) T.n_isinstance (by decide +kernel) (pa_cons (pv 0) (pa_cons (pe_glob (by rfl) T.g_NameIsTaken (by rfl)) pa_nil))) pa_nil)))))) (pss_cons (ps_set (i := 1) nd rfl (Or.inl rfl) (pe_op (op_bin .add) (pv 1) (pe_lst (pa_cons (pe_callB call_isJ (by rfl) T.n_isinstance (by decide +kernel) (pa_cons (pv 0) (pa_cons (pe_glob (by rfl) T.g_NoCoins (by rfl)) pa_nil))) (pa_cons (pe_callB call_isJ (by rfl) T.n_isinstance (by decide +kernel) (pa_cons (pv 0) (pa_cons (pe_glob (by rfl) T.g_NoTalk (by rfl)) pa_nil))) (pa_cons (pe_callB call_isJ (by rfl) T.n_isinstance (by decide +kernel) (pa_cons (pv 0) (pa_cons (pe_glob (by rfl) T.g_NoTie (by rfl)) pa_nil))) pa_nil)))))) (pss_cons (ps_set (i := 1) nd rfl (Or.inl rfl) (pe_op (op_bin .add) (pv 1) (pe_lst (pa_cons (pe_callB call_isJ (by rfl) T.n_isinstance (by decide +kernel) (pa_cons (pv 0) (pa_cons (pe_glob (by rfl) T.g_NoVotes (by rfl)) pa_nil))) (pa_cons (pe_callB call_isJ (by rfl) T.n_isinstance (by decide +kernel) (pa_cons (pv 0) (pa_cons (pe_glob (by rfl) T.g_NobodyThere (by rfl)) pa_nil))) (pa_cons (pe_callB call_isJ (by rfl) T.n_isinstance (by decide +kernel) (pa_cons (pv 0) (pa_cons (pe_glob (by rfl) T.g_NothingToUndo (by rfl)) pa_nil))) pa_nil)))))) (pss_cons (ps_set (i := 1) nd rfl (Or.inl rfl) (pe_op (op_bin .add) (pv 1) (pe_lst (pa_cons (pe_callB call_isJ (by rfl) T.n_isinstance (by decide +kernel) (pa_cons (pv 0) (pa_cons (pe_glob (by rfl) T.g_SamePerson (by rfl)) pa_nil))) (pa_cons (pe_callB call_isJ (by rfl) T.n_isinstance (by decide +kernel) (pa_cons (pv 0) (pa_cons (pe_glob (by rfl) T.g_SmallModulus (by rfl)) pa_nil))) (pa_cons (pe_callB call_isJ (by rfl) T.n_isinstance (by decide +kernel) (pa_cons (pv 0) (pa_cons (pe_glob (by rfl) T.g_TooMany (by rfl)) pa_nil))) pa_nil)))))) (pss_cons (ps_set (i := 1) nd rfl (Or.inl rfl) (pe_op (op_bin .add) (pv 1) (pe_lst (pa_cons (pe_callB call_isJ (by rfl) T.n_isinstance (by decide +kernel) (pa_cons (pv 0) (pa_cons (pe_glob (by rfl) T.g_UnknownName (by rfl)) pa_nil))) (pa_cons (pe_callB call_isJ (by rfl) T.n_isinstance (by decide +kernel) (pa_cons (pv 0) (pa_cons (pe_glob (by rfl) T.g_UnknownPerson (by rfl)) pa_nil))) pa_nil))))) (pss_one (ps_ret (pe_op (op_bin .add) (pv 1) (pe_lst (pa_cons (pe_callB call_isJ (by rfl) T.n_isinstance (by decide +kernel) (pa_cons (pv 0) (pa_cons (pe_glob (by rfl) T.g_InvalidWeights (by rfl)) pa_nil))) (pa_cons (pe_callB call_isJ (by rfl) T.n_isinstance (by decide +kernel) (pa_cons (pv 0) (pa_cons (pe_glob (by rfl) T.g_ParseError (by rfl)) pa_nil))) pa_nil)))))))))))))))))
theorem sc_law : FnScope ["script", "made", "k", "base", "one", "j", "part"] ["script"] (defScope t_law) := ⟨rfl, rfl, rfl, by decide +kernel, rfl, by decide +kernel, by decide +kernel⟩
theorem ok_law (T : Tx Pg K mg gm fd) (Fa : Facts prog K gm) : FnG Pg w K mg base 4 (gm 2) (fd 2) ["script"] (spI prog K gm 2) := by
  refine def_ok (d := ⟨1, 7, c_law⟩) Fa rfl rfl rfl T.F_law sc_law fun cdv Ar out st H Ex hr hg => ?_
  have hu := units70 hr
  have nd := sc_law.nd
  have tk : Takes (cxOf (L2.CX Pg w) Pg w K mg base ["script", "made", "k", "base", "one", "j", "part"] "law" (defScope t_law) (gm 2) cdv Ar out st H Ex) (fun cls d _ H => Ex cls d H) := takes_of rfl rfl rfl rfl
  exact (pss_cons (ps_set (i := 1) nd rfl (Or.inl rfl) (peG0 (ok_law_made T Fa) (hr.mono (by decide)) hg (by rfl) T.m_law_made T.F_law_made.kp T.b_law_made (fun σ => passAt tk σ))) (pss_cons (ps_for PassesOwn.leaving rfl (pi_range1 (by rfl) T.n_range (pa_cons (pe_callB (cr_bi rfl hg hu .len) (by rfl) T.n_len (by decide +kernel) (pa_cons (pv 1) pa_nil)) pa_nil)) (pg_name (i := 2) nd rfl (Or.inr rfl)) (pss_cons (ps_if (PW.pt (pw_or (pt_not (pt_truth (pe_callB call_isJ (by rfl) T.n_isinstance (by decide +kernel) (pa_cons (pe_ix (ix_all hu) (pv 1) (pv 2) (fun _ _ => rfl)) (pa_cons (pe_glob (by rfl) T.g_HushError (by rfl)) pa_nil))) (by intro _; rfl))) (pw_or1 (pt_not (pt_truth (pe_callB call_isJ (by rfl) T.n_isinstance (by decide +kernel) (pa_cons (pe_ix (ix_all hu) (pv 1) (pv 2) (fun _ _ => rfl)) (pa_cons (pe_bltn (u := .type "ValueError") (by rfl) T.n_ValueError (by decide +kernel) (by rfl)) pa_nil))) (by intro _; rfl)))))) (pss_one (ps_ret pe_bl)) pss_nil) (pss_one (ps_if (pt_cmpR (op_cmp hu .ne) (peG (ok_law_kinds T Fa) (hr.mono (by decide)) hg (by rfl) T.m_law_kinds T.F_law_kinds.kp T.b_law_kinds (fun σ => passAt tk σ) (pa_cons (pe_ix (ix_all hu) (pv 1) (pv 2) (fun _ _ => rfl)) pa_nil)) (pe_lc (own := [("j", 5)]) rfl nd (pi_range1 (by rfl) T.n_range (pa_cons (pe_callB (cr_bi rfl hg hu .len) (by rfl) T.n_len (by decide +kernel) (pa_cons (pv 1) pa_nil)) pa_nil)) (blkOk_by (by kernel_rfl)) (fun _ _ _ _ _ => (pg_name (i := 5) nd rfl (Or.inl rfl))) (fun _ _ _ _ _ => pts_nil) (fun _ _ _ _ _ => (pe_cmpR (op_cmp hu .eq) (pv 5) (pv 2) (nomark _)))) (nomark _)) (pss_one (ps_ret pe_bl)) pss_nil)))) (pss_cons (ps_par (i := 3) (j := 4) rfl nd rfl rfl (by decide) rfl rfl (pa_cons (pe_excV PySem.F.excBase_ValueError T.x_HushError.1 T.g_HushError T.x_HushError.2.1 (by rfl) (pe_strK e_s2)) (pa_cons (pe_supK T.u_ParseError.choose_spec T.n_super T.g_ParseError (hr.mono (by decide)) (by rfl) pe_int) pa_nil)) (by rfl)) (pss_cons (ps_if (PW.pt (pw_or (pt_cmpR (op_cmp hu .in_) pe_bl (peG (ok_law_kinds T Fa) (hr.mono (by decide)) hg (by rfl) T.m_law_kinds T.F_law_kinds.kp T.b_law_kinds (fun σ => passAt tk σ) (pa_cons (pv 3) pa_nil)) (by rfl)) (pw_or (pt_not (pt_truth (pe_callB call_isJ (by rfl) T.n_isinstance (by decide +kernel) (pa_cons (pv 3) (pa_cons (pe_bltn (u := .type "ValueError") (by rfl) T.n_ValueError (by decide +kernel) (by rfl)) pa_nil))) (by intro _; rfl))) (pw_or1 (pt_cmpR (op_cmp hu .ne) (pe_callTy (call_strX (units2 hu)) (by rfl) T.n_str (by decide +kernel) (pa_cons (pv 3) pa_nil)) (pe_strK e_s2) (nomark _)))))) (pss_one (ps_ret pe_bl)) pss_nil) (pss_one (ps_ret (pe_and (pe_cmpR (op_cmp hu .eq) (pe_xfV e_s1 (pv 4)) pe_int (nomark _)) (pe_and (pe_cmpR (op_cmp hu .eq) (pe_xfV e_s1 (pe_ix (ix_all hu) (pv 1) pe_int (fun _ _ => rfl))) pe_int (nomark _)) (pe_one (pe_cmpR (op_cmp hu .eq) (pe_unl (pe_lc (own := [("part", 6)]) rfl nd (pi_poly (pe_slice sl_all (pv 1) po_none (po_some pe_int))) (blkOk_by (by kernel_rfl)) (fun _ _ _ _ _ => (pg_name (i := 6) nd rfl (Or.inl rfl))) (fun _ _ _ _ _ => pts_nil) (fun _ _ _ _ _ => (pe_callTy (call_strX (units2 hu)) (by rfl) T.n_str (by decide +kernel) (pa_cons (pv 6) pa_nil))))) (pe_op (op_bin .mul) (pe_lst (pa_cons (pe_strK e_s0) pa_nil)) pe_int) (nomark _)))))))))))
end
def names : List PySem.Str := (["_law_made", "_law_kinds", "HushError", "ParseError", "InBand", "InvalidBand", "InvalidCoins", "InvalidIndex", "InvalidLine", "InvalidMessages", "InvalidModulus", "InvalidName", "InvalidNumber", "InvalidNumbers", "InvalidOpening"] : List PySem.Str) ++ (["InvalidPeople", "InvalidSayings", "InvalidSeries", "InvalidTies", "InvalidTimetable", "InvalidView", "InvalidWeb", "InvalidWeights", "Mismatch", "NameIsTaken", "NoCoins", "NoTalk", "NoTie", "NoVotes", "NobodyThere"] : List PySem.Str) ++ (["NothingToUndo", "SamePerson", "SmallModulus", "TooMany", "UnknownName", "UnknownPerson"] : List PySem.Str)
abbrev R : PySem.W.OpenRow := PySem.W.OpenLaw.row PySem.Challenge.rw_hushweb_k16_error_classes
abbrev hk : PySem.W.Hook := hookJ 6 said
def ob (s : PySem.W.SharedT) : AlJ := obsJG 6 said (HandSHeadRun.getT s)
theorem ob_eq (s : PySem.W.SharedT) : ob s = hk.obs s.abs := obsJG_eq (HandSHeadRun.getT_eq s)
theorem run (w : World) : HandSHeadRun.RunEq R (PySem.W.view R.prog [38]) hk ob 30000 names w := by
  intro os
  kernel_rfl
end My
open PySem PySem.W PySem.Calls PyProof.Rows in
theorem PySem.Challenge.cw_hushweb_k16_error_classes_holds_of (run : ∀ ns : List Int, ns.length ≤ 63 → (∀ z ∈ ns, Builtin.Int.intBits z ≤ 1048576) → ∀ o, (o = .rol (ns.map J.AV.int) ∨ o = .kol (ns.map J.AV.int)) → ∃ m h', J.callD My.prog m 2 [.ref 0] ⟨1, .node (some o) .nil .nil⟩ = .ok (.bl true) h') : PySem.Challenge.rw_hushweb_k16_error_classes.Holds := by
  w_on; o_law
  refine HandSHeadRun.head_any (r := OpenLaw.row PySem.Challenge.rw_hushweb_k16_error_classes) (q := view (OpenLaw.row PySem.Challenge.rw_hushweb_k16_error_classes).prog [38]) (H := My.hk) (ob := My.ob) (M := 30000) (loose := My.names) (d := HandSHeadRun.topDef (OpenLaw.row PySem.Challenge.rw_hushweb_k16_error_classes).prog 38) (kwd := []) My.ob_eq
    (by kernel_rfl) (fun s => by kernel_rfl) My.run (by kernel_rfl) (by kernel_rfl) (by kernel_rfl) (by rfl) (by first | assumption | decide +kernel) (by decide +kernel) ⟨rfl, rfl, rfl, rfl, rfl, by decide +kernel⟩ ?hw ?hc
  case hw => w_witness2
  case hc =>
    refine J.walkJ (l := PySem.Challenge.rw_hushweb_k16_error_classes) (n := 63) (k := 4) (S := My.said) (M := 6) (x := "script") (P := My.prog) (i := 2) rfl (by decide) (by kernel_rfl) ⟨rfl, by decide, by decide⟩ ?F run
    intro w K mg fa h KX c G hmg0
    have hmg : mg ("law" : PySem.Str) = some (.ref fa) := by
      have e : (HandSHeadRun.topDef (OpenLaw.row PySem.Challenge.rw_hushweb_k16_error_classes).prog 38).name = ("law" : PySem.Str) := by kernel_rfl
      rw [← e]
      exact hmg0
    have T := My.tx_of KX G c
    have Fa := My.facts c T
    have e := hmg.symm.trans T.m_law
    cases e
    exact ⟨_, J.gmJ My.adrs K, fun s u => L2.FunD.bindsA (ps := ["script"]) (c.fun_ 2) (fun _ _ _ _ _ _ us hl => match us, hl with | [_], _ => rfl) s [u] rfl, fun base _ _ => My.ok_law T Fa⟩

theorem PySem.Challenge.cw_hushweb_k16_error_classes_holds : PySem.Challenge.rw_hushweb_k16_error_classes.Holds :=
  PySem.Challenge.cw_hushweb_k16_error_classes_holds_of fun ns hl hb o ho => ⟨3000, J.okT_ok (by kernel_rfl)⟩
