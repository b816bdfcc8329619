import PyProof.Rows.All
import Wide.All
import OpenK.AllK
import Wide.FinOn
import HandS.ForMost
import HandS.Deep
import HandS.Flow
import HandS.Style
import HandS.TupAny
import HandS.StrMore
import HandS.FStr
import HandS.Zip
import HandS.DictComp
import HandS.RaiseMore
import HandS.Conv
import HandS.MakeKwOnly
import HandS.Property
import HandS.IsInst
import HandS.WordsDict
import HandS.WideBits
import HandS.NoneIn
import HandS.Star
import KE.KUnpackStar
import KE.KDictList
import HandS.ExcValue
import PyProof.InstNe
import PyProof.Rows.PlainNe
import HandS.Strs
import PyProof.StrOps2
import HandS.Defaults
import HandS.Head0
import HandS.Head1
import HandS.Head2
import HandS.HeadEnd
import HandS.HeadHook1
import HandS.HeadHook2
import HandS.HeadHook4
import HandS.Iter
import PyProof.ReprRoads
import HandS.Small
import KE.KCallOwn
import KE.GoesMore
import PyProof.ReprLen
import HandS.HeadHook3
import HandS.TupLe
import KE.KDictZip
import HandS.More
import KE.KRevSl
import PyProof.P3In
import PyProof.FitsReplace
import HandS.Text
import PySem.Challenge.RW_basetrees_k52_whole_choices_judged
set_option Elab.async false
set_option linter.all false
set_option maxRecDepth 100000
set_option maxHeartbeats 4000000
namespace F2
open PySem PySem.Spec PyProof.Rows L2
/-! data: what never changes any more -/
inductive D where
  | non | bl (b : Bool) | int (i : Int) | str (x : Str)
  | tup (xs : List D) | lst (xs : List D) | dK (kvs : List (Key × D)) | dT (kvs : List (List Key × D)) | ins (c : Str) (fs : List (Str × D)) | scr (ns : List Int) | tupN (xs : List D)
/-- a value: data, or a cell -/
inductive A where
  | d (x : D) | ref (l : Nat) | tp (xs : List A)
/-- what stands in a cell -/
inductive O where
  | lst (xs : List A) | dK (kvs : List (Key × A)) | dT (kvs : List (List Key × A)) | lK (kvs : List (Key × A)) | lT (kvs : List (List Key × A)) | ins (c : Str) (fs : List (Str × A)) | dead
abbrev Hh := List O
abbrev Mg := Str → Option Value
abbrev Fz := Addr → Option HO
def keyD : Key → D
  | .inl i => .int i
  | .inr x => .str x
mutual
inductive RelD (mg : Mg) (fz : Fz) : D → V → Prop
  | non : RelD mg fz .non .non
  | bl (b : Bool) : RelD mg fz (.bl b) (.bl b)
  | int (i : Int) : RelD mg fz (.int i) (.int i)
  | str (x : Str) : RelD mg fz (.str x) (.str x)
  | tup {a : Addr} {vs : List V} {ds : List D} (h : fz a = some (.tup vs)) (r : RelDs mg fz ds vs) : RelD mg fz (.tup ds) (.ref a)
  | lst {a : Addr} {vs : List V} {ds : List D} (h : fz a = some (.lst vs)) (r : RelDs mg fz ds vs) : RelD mg fz (.lst ds) (.ref a)
  | dK {a : Addr} {ks : List (Key × V)} {kvs : List (Key × D)} (h : fz a = some (.dK ks)) (r : RelDk mg fz kvs ks) : RelD mg fz (.dK kvs) (.ref a)
  | dT {a : Addr} {ks : List (List Key × V)} {kvs : List (List Key × D)} (h : fz a = some (.dT ks)) (r : RelDt mg fz kvs ks) : RelD mg fz (.dT kvs) (.ref a)
  | scr {a : Addr} {ob : Obj} {ns : List Int} (h : fz a = some (.frz ob (.lst (ns.map V.int)))) : RelD mg fz (.scr ns) (.ref a)
  | tupN {a : Addr} {ob : Obj} {vs : List V} {ds : List D} (h : fz a = some (.frz ob (.tup vs))) (hc : ob.cls = .type "tuple") (hd : ob.dict = none) (r : RelDs mg fz ds vs) : RelD mg fz (.tupN ds) (.ref a)
  | ins {a C dx : Addr} {c : Str} {fs : List (Str × D)} {gs : List (Str × V)} (hc : mg c = some (.ref C)) (h : fz a = some (.ins C dx gs)) (r : RelDf mg fz fs gs) : RelD mg fz (.ins c fs) (.ref a)
inductive RelDs (mg : Mg) (fz : Fz) : List D → List V → Prop
  | nil : RelDs mg fz [] []
  | cons {d : D} {v : V} {ds : List D} {vs : List V} (h : RelD mg fz d v) (t : RelDs mg fz ds vs) : RelDs mg fz (d :: ds) (v :: vs)
inductive RelDk (mg : Mg) (fz : Fz) : List (Key × D) → List (Key × V) → Prop
  | nil : RelDk mg fz [] []
  | cons {k : Key} {d : D} {v : V} {ds : List (Key × D)} {vs : List (Key × V)} (h : RelD mg fz d v) (t : RelDk mg fz ds vs) : RelDk mg fz ((k, d) :: ds) ((k, v) :: vs)
inductive RelDt (mg : Mg) (fz : Fz) : List (List Key × D) → List (List Key × V) → Prop
  | nil : RelDt mg fz [] []
  | cons {k : List Key} {d : D} {v : V} {ds : List (List Key × D)} {vs : List (List Key × V)} (h : RelD mg fz d v) (t : RelDt mg fz ds vs) : RelDt mg fz ((k, d) :: ds) ((k, v) :: vs)
inductive RelDf (mg : Mg) (fz : Fz) : List (Str × D) → List (Str × V) → Prop
  | nil : RelDf mg fz [] []
  | cons {f : Str} {d : D} {v : V} {ds : List (Str × D)} {vs : List (Str × V)} (h : RelD mg fz d v) (t : RelDf mg fz ds vs) : RelDf mg fz ((f, d) :: ds) ((f, v) :: vs)
end
def FzLe (f g : Fz) : Prop := ∀ a o, f a = some o → g a = some o
theorem FzLe.rfl {f : Fz} : FzLe f f := fun _ _ h => h
theorem FzLe.trans {f g k : Fz} (a : FzLe f g) (b : FzLe g k) : FzLe f k := fun x o h => b x o (a x o h)
mutual
theorem RelD.mono {mg : Mg} {f g : Fz} (l : FzLe f g) : ∀ {d : D} {v : V}, RelD mg f d v → RelD mg g d v
  | _, _, .non => .non
  | _, _, .bl b => .bl b
  | _, _, .int i => .int i
  | _, _, .str x => .str x
  | _, _, .tup h r => .tup (l _ _ h) (RelDs.mono l r)
  | _, _, .lst h r => .lst (l _ _ h) (RelDs.mono l r)
  | _, _, .dK h r => .dK (l _ _ h) (RelDk.mono l r)
  | _, _, .dT h r => .dT (l _ _ h) (RelDt.mono l r)
  | _, _, .scr h => .scr (l _ _ h)
  | _, _, .tupN h c d r => .tupN (l _ _ h) c d (RelDs.mono l r)
  | _, _, .ins c h r => .ins c (l _ _ h) (RelDf.mono l r)
theorem RelDs.mono {mg : Mg} {f g : Fz} (l : FzLe f g) : ∀ {d : List D} {v : List V}, RelDs mg f d v → RelDs mg g d v
  | _, _, .nil => .nil
  | _, _, .cons h t => .cons (RelD.mono l h) (RelDs.mono l t)
theorem RelDk.mono {mg : Mg} {f g : Fz} (l : FzLe f g) : ∀ {d : List (Key × D)} {v : List (Key × V)}, RelDk mg f d v → RelDk mg g d v
  | _, _, .nil => .nil
  | _, _, .cons h t => .cons (RelD.mono l h) (RelDk.mono l t)
theorem RelDt.mono {mg : Mg} {f g : Fz} (l : FzLe f g) : ∀ {d : List (List Key × D)} {v : List (List Key × V)}, RelDt mg f d v → RelDt mg g d v
  | _, _, .nil => .nil
  | _, _, .cons h t => .cons (RelD.mono l h) (RelDt.mono l t)
theorem RelDf.mono {mg : Mg} {f g : Fz} (l : FzLe f g) : ∀ {d : List (Str × D)} {v : List (Str × V)}, RelDf mg f d v → RelDf mg g d v
  | _, _, .nil => .nil
  | _, _, .cons h t => .cons (RelD.mono l h) (RelDf.mono l t)
end
/-- where data and cells stand -/
structure Wd where
  fz : Fz
  phi_ : List Addr
  /-- ours alone, being made -/
  ow : Addr → Option HO
  /-- locked -/
  lk : Addr → Option HO
structure Wd.le0 (a b : Wd) : Prop where
  fz : FzLe a.fz b.fz
  lk : b.lk = a.lk
  phi_ : ∀ (i : Nat) (x : Addr), a.phi_[i]? = some x → b.phi_[i]? = some x
structure Wd.le00 (a b : Wd) : Prop where
  fz : FzLe a.fz b.fz
  phi_ : ∀ (i : Nat) (x : Addr), a.phi_[i]? = some x → b.phi_[i]? = some x
theorem Wd.le0.to00 {a b : Wd} (l : a.le0 b) : a.le00 b := ⟨l.fz, l.phi_⟩
structure Wd.le (a b : Wd) : Prop extends Wd.le0 a b where
  ow : b.ow = a.ow
theorem Wd.le0.trans {a b c : Wd} (p : a.le0 b) (q : b.le0 c) : a.le0 c := ⟨p.fz.trans q.fz, q.lk.trans p.lk, fun i x h => q.phi_ i x (p.phi_ i x h)⟩
theorem Wd.le.rfl {w : Wd} : w.le w := ⟨⟨FzLe.rfl, Eq.refl _, fun _ _ h => h⟩, Eq.refl _⟩
theorem Wd.le.trans {a b c : Wd} (p : a.le b) (q : b.le c) : a.le c := ⟨p.tole0.trans q.tole0, q.ow.trans p.ow⟩
mutual
inductive RelA (mg : Mg) (w : Wd) : A → V → Prop
  | d {x : D} {v : V} (h : RelD mg w.fz x v) : RelA mg w (.d x) v
  | ref {l : Nat} {a : Addr} (h : w.phi_[l]? = some a) : RelA mg w (.ref l) (.ref a)
  | tp {a : Addr} {xs : List A} {vs : List V} (h : w.fz a = some (.tup vs)) (r : RelAs mg w xs vs) : RelA mg w (.tp xs) (.ref a)
inductive RelAs (mg : Mg) (w : Wd) : List A → List V → Prop
  | nil : RelAs mg w [] []
  | cons {a : A} {v : V} {as : List A} {vs : List V} (h : RelA mg w a v) (t : RelAs mg w as vs) : RelAs mg w (a :: as) (v :: vs)
end
mutual
theorem RelA.mono00 {mg : Mg} {w w' : Wd} (l : w.le00 w') : ∀ {a : A} {v : V}, RelA mg w a v → RelA mg w' a v
  | _, _, .d h => .d (h.mono l.fz)
  | _, _, .ref h => .ref (l.phi_ _ _ h)
  | _, _, .tp h r => .tp (l.fz _ _ h) (RelAs.mono00 l r)
theorem RelAs.mono00 {mg : Mg} {w w' : Wd} (l : w.le00 w') : ∀ {a : List A} {v : List V}, RelAs mg w a v → RelAs mg w' a v
  | _, _, .nil => .nil
  | _, _, .cons h t => .cons (RelA.mono00 l h) (RelAs.mono00 l t)
end
theorem RelA.mono0 {mg : Mg} {w w' : Wd} (l : w.le0 w') {a : A} {v : V} (r : RelA mg w a v) : RelA mg w' a v := r.mono00 l.to00
theorem RelAs.mono0 {mg : Mg} {w w' : Wd} (l : w.le0 w') {a : List A} {v : List V} (r : RelAs mg w a v) : RelAs mg w' a v := r.mono00 l.to00
theorem RelA.mono {mg : Mg} {w w' : Wd} (l : w.le w') {a : A} {v : V} (r : RelA mg w a v) : RelA mg w' a v := r.mono0 l.tole0
theorem RelAs.mono {mg : Mg} {w w' : Wd} (l : w.le w') {a : List A} {v : List V} (r : RelAs mg w a v) : RelAs mg w' a v := r.mono0 l.tole0
inductive RelAk (mg : Mg) (w : Wd) {κ : Type} : List (κ × A) → List (κ × V) → Prop
  | nil : RelAk mg w [] []
  | cons {k : κ} {d : A} {v : V} {ds : List (κ × A)} {vs : List (κ × V)} (h : RelA mg w d v) (t : RelAk mg w ds vs) : RelAk mg w ((k, d) :: ds) ((k, v) :: vs)
theorem RelAk.mono00 {mg : Mg} {w w' : Wd} (l : w.le00 w') {κ : Type} : ∀ {a : List (κ × A)} {v : List (κ × V)}, RelAk mg w a v → RelAk mg w' a v
  | _, _, .nil => .nil
  | _, _, .cons h t => .cons (h.mono00 l) (RelAk.mono00 l t)
theorem RelAk.mono0 {mg : Mg} {w w' : Wd} (l : w.le0 w') {κ : Type} {a : List (κ × A)} {v : List (κ × V)} (r : RelAk mg w a v) : RelAk mg w' a v := r.mono00 l.to00
theorem RelAk.mono {mg : Mg} {w w' : Wd} (l : w.le w') {κ : Type} : ∀ {a : List (κ × A)} {v : List (κ × V)}, RelAk mg w a v → RelAk mg w' a v
  | _, _, .nil => .nil
  | _, _, .cons h t => .cons (h.mono l) (RelAk.mono l t)
theorem RelDk.as {mg : Mg} {w : Wd} : ∀ {d : List (Key × D)} {v : List (Key × V)}, RelDk mg w.fz d v → RelAk mg w (d.map fun p => (p.1, A.d p.2)) v
  | _, _, .nil => .nil
  | _, _, .cons h t => .cons (.d h) (RelDk.as t)
theorem RelDt.as {mg : Mg} {w : Wd} : ∀ {d : List (List Key × D)} {v : List (List Key × V)}, RelDt mg w.fz d v → RelAk mg w (d.map fun p => (p.1, A.d p.2)) v
  | _, _, .nil => .nil
  | _, _, .cons h t => .cons (.d h) (RelDt.as t)
abbrev RelAf (mg : Mg) (w : Wd) : List (Str × A) → List (Str × V) → Prop := RelAk mg w
theorem RelDf.as {mg : Mg} {w : Wd} : ∀ {d : List (Str × D)} {v : List (Str × V)}, RelDf mg w.fz d v → RelAf mg w (d.map fun p => (p.1, A.d p.2)) v
  | _, _, .nil => .nil
  | _, _, .cons h t => .cons (.d h) (RelDf.as t)
theorem RelDs.length {mg : Mg} {f : Fz} : ∀ {d : List D} {v : List V}, RelDs mg f d v → d.length = v.length
  | _, _, .nil => rfl
  | _, _, .cons _ t => by simp [RelDs.length t]
theorem RelAs.length {mg : Mg} {w : Wd} : ∀ {d : List A} {v : List V}, RelAs mg w d v → d.length = v.length
  | _, _, .nil => rfl
  | _, _, .cons _ t => by simp [RelAs.length t]
theorem RelDs.as {mg : Mg} {w : Wd} : ∀ {d : List D} {v : List V}, RelDs mg w.fz d v → RelAs mg w (d.map .d) v
  | _, _, .nil => .nil
  | _, _, .cons h t => .cons (.d h) (RelDs.as t)
/-- a cell holds what stands at its address -/
inductive CellOk (mg : Mg) (w : Wd) (H : Hp) (a : Addr) : O → Prop
  | lst {xs : List A} {vs : List V} (h : H a = some (.lst vs)) (r : RelAs mg w xs vs) : CellOk mg w H a (.lst xs)
  | dK {kvs : List (Key × A)} {ks : List (Key × V)} (h : H a = some (.dK ks)) (r : RelAk mg w kvs ks) : CellOk mg w H a (.dK kvs)
  | lK {kvs : List (Key × A)} {ks : List (Key × V)} {ob : Obj} (h : w.lk a = some (.frz ob (.dK ks))) (r : RelAk mg w kvs ks) : CellOk mg w H a (.lK kvs)
  | dT {kvs : List (List Key × A)} {ks : List (List Key × V)} (h : H a = some (.dT ks)) (r : RelAk mg w kvs ks) : CellOk mg w H a (.dT kvs)
  | lT {kvs : List (List Key × A)} {ks : List (List Key × V)} {ob : Obj} (h : w.lk a = some (.frz ob (.dT ks))) (r : RelAk mg w kvs ks) : CellOk mg w H a (.lT kvs)
  | ins {c : Str} {C dx : Addr} {fs : List (Str × A)} {gs : List (Str × V)} (hc : mg c = some (.ref C)) (h : H a = some (.ins C dx gs)) (r : RelAf mg w fs gs) : CellOk mg w H a (.ins c fs)
  | dead : CellOk mg w H a .dead
theorem rd_eq {H H' : Hp} {a : Addr} {u : HO} (e : H' a = H a) (r : Rd H a u) : Rd H' a u := by
  rcases r with r | ⟨ob, r⟩
  · exact .inl (e.trans r)
  · exact .inr ⟨ob, e.trans r⟩
theorem CellOk.mono0 {mg : Mg} {w w' : Wd} (l : w.le0 w') {H H' : Hp} {a : Addr} (e : H' a = H a) {o : O} (c : CellOk mg w H a o) : CellOk mg w' H' a o := by
  cases c with
  | lst h r => exact .lst (e.trans h) (r.mono0 l)
  | dK h r => exact .dK (e.trans h) (r.mono0 l)
  | dT h r => exact .dT (e.trans h) (r.mono0 l)
  | lK h r => exact .lK (by rw [l.lk]; exact h) (r.mono0 l)
  | lT h r => exact .lT (by rw [l.lk]; exact h) (r.mono0 l)
  | ins hc h r => exact .ins hc (e.trans h) (r.mono0 l)
  | dead => exact .dead
theorem CellOk.mono {mg : Mg} {w w' : Wd} (l : w.le w') {H H' : Hp} {a : Addr} (e : H' a = H a) {o : O} (c : CellOk mg w H a o) : CellOk mg w' H' a o := by
  cases c with
  | lst h r => exact .lst (e.trans h) (r.mono l)
  | dK h r => exact .dK (e.trans h) (r.mono l)
  | dT h r => exact .dT (e.trans h) (r.mono l)
  | lK h r => exact .lK (by rw [l.lk]; exact h) (r.mono l)
  | lT h r => exact .lT (by rw [l.lk]; exact h) (r.mono l)
  | ins hc h r => exact .ins hc (e.trans h) (r.mono l)
  | dead => exact .dead
def Live : O → Prop
  | .dead => False
  | .lK _ => False
  | .lT _ => False
  | _ => True
def Lock : O → Prop
  | .lK _ => True
  | .lT _ => True
  | _ => False
structure Sim (mg : Mg) (w : Wd) (H : Hp) (h : Hh) : Prop where
  fz : ∀ a o, w.fz a = some o → Rd H a o
  len : w.phi_.length = h.length
  nd : ∀ (i j : Nat) (a : Addr), w.phi_[i]? = some a → w.phi_[j]? = some a → i = j
  th : ∀ (i : Nat) (a : Addr), w.phi_[i]? = some a → H a ≠ none
  nf : ∀ (i : Nat) (a : Addr) (o : O), w.phi_[i]? = some a → h[i]? = some o → w.fz a = none ∨ o = .dead
  cell : ∀ (i : Nat) (a : Addr) (o : O), w.phi_[i]? = some a → h[i]? = some o → CellOk mg w H a o
  ow : ∀ a o, w.ow a = some o → H a = some o ∧ w.fz a = none ∧ ∀ i : Nat, w.phi_[i]? ≠ some a
  lk : ∀ a o, w.lk a = some o → H a = some o ∧ ∀ i : Nat, w.phi_[i]? = some a → ∃ u, h[i]? = some u ∧ Lock u
def Wd.cell (w : Wd) (p : Addr) : Wd := { w with phi_ := w.phi_ ++ [p] }
def Wd.pure (w : Wd) (p : Addr) (o : HO) : Wd := { w with fz := fun b => if b = p then some o else w.fz b }
section
variable {mg : Mg} {w : Wd} {H : Hp} {h : Hh} {p : Addr} {o : HO}
theorem Sim.fz_none (S : Sim mg w H h) (e : H p = none) : w.fz p = none := by
  cases q : w.fz p with
  | none => rfl
  | some o =>
    rcases S.fz p o q with z | ⟨_, z⟩
    · rw [e] at z; cases z
    · rw [e] at z; cases z
theorem Sim.phi__ne (S : Sim mg w H h) (e : H p = none) {i : Nat} {a : Addr} (q : w.phi_[i]? = some a) : a ≠ p := fun z => S.th i a q (by rw [z]; exact e)
theorem Sim.fz_ne (S : Sim mg w H h) (e : H p = none) {a : Addr} {u : HO} (q : w.fz a = some u) : a ≠ p := fun z => by
  subst z; rw [S.fz_none e] at q; cases q
theorem Sim.le_cell (S : Sim mg w H h) : w.le (w.cell p) := ⟨⟨FzLe.rfl, Eq.refl _, fun i x q => by
  show (w.phi_ ++ [p])[i]? = some x
  rw [List.getElem?_append_left (List.getElem?_eq_some_iff.mp q).1]; exact q⟩, Eq.refl _⟩
theorem Sim.le_pure (S : Sim mg w H h) (e : H p = none) : w.le (w.pure p o) := ⟨⟨fun a u q => by
  show (if a = p then some o else w.fz a) = some u
  rw [if_neg (S.fz_ne e q)]; exact q, Eq.refl _, fun _ _ q => q⟩, Eq.refl _⟩
theorem rd_upd {a : Addr} {u : HO} (r : Rd H a u) (e : a ≠ p) : Rd (upd H p o) a u := by
  rcases r with r | ⟨ob, r⟩
  · exact .inl (by rw [upd_ne e]; exact r)
  · exact .inr ⟨ob, by rw [upd_ne e]; exact r⟩
/-- a new object, kept as data -/
theorem Sim.pure (S : Sim mg w H h) (e : H p = none) : Sim mg (w.pure p o) (upd H p o) h where
  fz := fun a u q => by
    by_cases z : a = p
    · subst z
      have q' : (if a = a then some o else w.fz a) = some u := q
      rw [if_pos rfl] at q'; cases q'
      exact .inl upd_same
    · have q' : (if a = p then some o else w.fz a) = some u := q
      rw [if_neg z] at q'
      exact rd_upd (S.fz a u q') z
  len := S.len
  nd := S.nd
  th := fun i a q => by rw [upd_ne (S.phi__ne e q)]; exact S.th i a q
  nf := fun i a u q r => by
    rcases S.nf i a u q r with z | z
    · refine .inl ?_
      show (if a = p then some o else w.fz a) = none
      rw [if_neg (S.phi__ne e q)]; exact z
    · exact .inr z
  cell := fun i a u q r => (S.cell i a u q r).mono (S.le_pure e) (upd_ne (S.phi__ne e q))
  ow := fun a u q => by
    obtain ⟨h1, h2, h3⟩ := S.ow a u q
    have ne : a ≠ p := fun z => by rw [z, e] at h1; cases h1
    exact ⟨by rw [upd_ne ne]; exact h1, by show (if a = p then some o else w.fz a) = none; rw [if_neg ne]; exact h2, h3⟩
  lk := fun a u q => by
    obtain ⟨h1, h3⟩ := S.lk a u q
    have ne : a ≠ p := fun z => by rw [z, e] at h1; cases h1
    exact ⟨by rw [upd_ne ne]; exact h1, h3⟩
/-- a new object, kept in a cell -/
theorem Sim.new (S : Sim mg w H h) (e : H p = none) {x : O} (c : CellOk mg (w.cell p) (upd H p o) p x) : Sim mg (w.cell p) (upd H p o) (h ++ [x]) := by
  have at_ : ∀ {i : Nat} {a : Addr}, (w.cell p).phi_[i]? = some a → (w.phi_[i]? = some a ∧ i < h.length) ∨ (i = h.length ∧ a = p) := fun {i a} q => by
    have q' : (w.phi_ ++ [p])[i]? = some a := q
    by_cases hi : i < w.phi_.length
    · rw [List.getElem?_append_left hi] at q'
      exact .inl ⟨q', by rw [← S.len]; exact hi⟩
    · rw [List.getElem?_append_right (by omega)] at q'
      have hz : i - w.phi_.length = 0 := by
        by_cases z : i - w.phi_.length = 0
        · exact z
        · rw [List.getElem?_eq_none (by simp; omega)] at q'; cases q'
      rw [hz] at q'
      simp at q'
      exact .inr ⟨by rw [← S.len]; omega, q'.symm⟩
  refine ⟨fun a u q => rd_upd (S.fz a u q) (S.fz_ne e q), ?_, fun i j a q r => ?_, fun i a q => ?_, fun i a u q r => ?_, fun i a u q r => ?_, fun a u q => ?_, fun a u q => ?_⟩
  · show (w.phi_ ++ [p]).length = _
    rw [List.length_append, List.length_append, S.len]; rfl
  · rcases at_ q with ⟨q, hi⟩ | ⟨hi, rfl⟩ <;> rcases at_ r with ⟨r, hj⟩ | ⟨hj, z⟩
    · exact S.nd i j a q r
    · exact absurd z (S.phi__ne e q)
    · exact absurd rfl (S.phi__ne e r)
    · omega
  · rcases at_ q with ⟨q, hi⟩ | ⟨hi, rfl⟩
    · rw [upd_ne (S.phi__ne e q)]; exact S.th i a q
    · rw [upd_same]; exact fun z => nomatch z
  · rcases at_ q with ⟨q, hi⟩ | ⟨hi, rfl⟩
    · rw [List.getElem?_append_left hi] at r
      exact S.nf i a u q r
    · exact .inl (S.fz_none e)
  · rcases at_ q with ⟨q, hi⟩ | ⟨hi, rfl⟩
    · rw [List.getElem?_append_left hi] at r
      exact (S.cell i a u q r).mono S.le_cell (upd_ne (S.phi__ne e q))
    · subst hi
      rw [List.getElem?_append_right (Nat.le_refl _), Nat.sub_self] at r
      simp at r
      subst r
      exact c
  · obtain ⟨h1, h2, h3⟩ := S.ow a u q
    have ne : a ≠ p := fun z => by rw [z, e] at h1; cases h1
    refine ⟨by rw [upd_ne ne]; exact h1, h2, fun i z => ?_⟩
    rcases at_ z with ⟨z, _⟩ | ⟨_, z⟩
    · exact h3 i z
    · exact ne z
  · obtain ⟨h1, h3⟩ := S.lk a u q
    have ne : a ≠ p := fun z => by rw [z, e] at h1; cases h1
    refine ⟨by rw [upd_ne ne]; exact h1, fun i z => ?_⟩
    rcases at_ z with ⟨z, hi⟩ | ⟨_, z⟩
    · rw [List.getElem?_append_left hi]; exact h3 i z
    · exact absurd z ne
/-- a cell is written -/
theorem Sim.write (S : Sim mg w H h) {i : Nat} (hp : w.phi_[i]? = some p) (live : ∀ u, h[i]? = some u → Live u) {x : O} (c : CellOk mg w (upd H p o) p x) : Sim mg w (upd H p o) (h.set i x) := by
  have hi : i < h.length := by rw [← S.len]; exact (List.getElem?_eq_some_iff.mp hp).1
  have fn : w.fz p = none := by
    have q : h[i]? = some h[i] := List.getElem?_eq_getElem hi
    rcases S.nf i p _ hp q with z | z
    · exact z
    · exact absurd (live _ q) (by rw [z]; exact fun x => x)
  refine ⟨fun a u q => rd_upd (S.fz a u q) (fun z => by subst z; rw [fn] at q; cases q), by rw [List.length_set]; exact S.len, S.nd, fun j a q => ?_, fun j a u q r => ?_, fun j a u q r => ?_, fun a u q => ?_, fun a u q => ?_⟩
  · by_cases z : a = p
    · subst z; rw [upd_same]; exact fun z => nomatch z
    · rw [upd_ne z]; exact S.th j a q
  · by_cases z : j = i
    · subst z
      rw [hp] at q; cases q
      exact .inl fn
    · rw [List.getElem?_set_ne (Ne.symm z)] at r
      exact S.nf j a u q r
  · by_cases z : j = i
    · subst z
      rw [hp] at q; cases q
      rw [List.getElem?_set_self hi] at r; cases r
      exact c
    · rw [List.getElem?_set_ne (Ne.symm z)] at r
      exact (S.cell j a u q r).mono Wd.le.rfl (upd_ne fun e => z (S.nd j i a q (by rw [e]; exact hp)))
  · obtain ⟨h1, h2, h3⟩ := S.ow a u q
    exact ⟨by rw [upd_ne (fun z => h3 i (by rw [z]; exact hp))]; exact h1, h2, h3⟩
  · obtain ⟨h1, h3⟩ := S.lk a u q
    have ni : ∀ j : Nat, w.phi_[j]? = some a → j ≠ i := fun j z y => by
      subst y
      obtain ⟨o, ho, hl⟩ := h3 j z
      have := live o ho
      cases o <;> first | exact hl | exact this
    refine ⟨by rw [upd_ne (fun z => ni i (by rw [z]; exact hp) rfl)]; exact h1, fun j z => ?_⟩
    rw [List.getElem?_set_ne (Ne.symm (ni j z))]; exact h3 j z
end
/-! the frame's slots -/
abbrev En := List (Option A)
structure EnvOk (mg : Mg) (w : Wd) (ρ : En) (σ : L2.St) : Prop where
  len : ρ.length = σ.length
  get : ∀ (i : Nat) (a : A), ρ[i]? = some (some a) → ∃ v, σ[i]? = some (some v) ∧ RelA mg w a v
theorem EnvOk.mono0 {mg : Mg} {w w' : Wd} {ρ : En} {σ : L2.St} (E : EnvOk mg w ρ σ) (l : w.le0 w') : EnvOk mg w' ρ σ := ⟨E.len, fun i a e => let ⟨v, h, r⟩ := E.get i a e; ⟨v, h, r.mono0 l⟩⟩
theorem EnvOk.mono {mg : Mg} {w w' : Wd} {ρ : En} {σ : L2.St} (E : EnvOk mg w ρ σ) (l : w.le w') : EnvOk mg w' ρ σ := ⟨E.len, fun i a e => let ⟨v, h, r⟩ := E.get i a e; ⟨v, h, r.mono l⟩⟩
theorem EnvOk.set {mg : Mg} {w : Wd} {ρ : En} {σ : L2.St} (E : EnvOk mg w ρ σ) {i : Nat} {a : A} {v : V} (r : RelA mg w a v) : EnvOk mg w (ρ.set i (some a)) (σ.set i (some v)) := by
  refine ⟨by rw [List.length_set, List.length_set]; exact E.len, fun j b e => ?_⟩
  by_cases hj : i = j
  · subst hj
    have hi : i < ρ.length := by
      have := (List.getElem?_eq_some_iff.mp e).1
      rwa [List.length_set] at this
    rw [List.getElem?_set_self hi] at e
    cases e
    exact ⟨v, List.getElem?_set_self (by rw [← E.len]; exact hi), r⟩
  · rw [List.getElem?_set_ne hj] at e
    obtain ⟨u, h, q⟩ := E.get j b e
    exact ⟨u, by rw [List.getElem?_set_ne hj]; exact h, q⟩
/-! what a piece of text does -/
abbrev EI := En → Hh → Option (A × Hh)
abbrev AI := En → Hh → Option (List A × Hh)
abbrev TI' := En → Hh → Option (Bool × Hh)
end F2
set_option Elab.async false
set_option linter.all false
set_option maxRecDepth 100000
set_option maxHeartbeats 4000000
namespace F2
open PySem PySem.Spec PyProof.Rows L2
/-- the most that a list, a text holds here -/
abbrev LIM : Nat := 1000000
theorem lim_size {n : Nat} (h : n ≤ LIM) : n ≤ sizeLine := by rw [sizeLine_eq]; unfold LIM at h; omega
theorem lim_size1 {n : Nat} (h : n ≤ LIM) : n < sizeLine := by rw [sizeLine_eq]; unfold LIM at h; omega
/-! ### what is read of a value -/
def allD : List A → Option (List D)
  | [] => some []
  | .d x :: r => (allD r).map (x :: ·)
  | .ref _ :: _ => none
  | .tp _ :: _ => none
theorem allD_rel {mg : Mg} {w : Wd} : ∀ {as : List A} {ds : List D} {vs : List V}, allD as = some ds → RelAs mg w as vs → RelDs mg w.fz ds vs
  | [], _, _, h, r => by cases h; cases r; exact .nil
  | .d x :: as, ds, _, h, r => by
    cases r with
    | cons hr t =>
      cases hr with
      | d hd =>
        simp only [allD, Option.map_eq_some_iff] at h
        obtain ⟨es, h, rfl⟩ := h
        exact .cons hd (allD_rel h t)
  | .ref _ :: _, _, _, h, _ => by cases h
  | .tp _ :: _, _, _, h, _ => by cases h
@[simp] theorem allD_map : ∀ (ds : List D), allD (ds.map A.d) = some ds
  | [] => rfl
  | d :: ds => by simp [allD, allD_map ds]
/-- the items of a list -/
def itemsL : A → Hh → Option (List A)
  | .d (.lst xs), _ => some (xs.map .d)
  | .ref l, h => match h[l]? with
    | some (.lst xs) => some xs
    | _ => none
  | _, _ => none
def itemsT : A → Option (List A)
  | .d (.tup xs) => some (xs.map .d)
  | .d (.tupN xs) => some (xs.map .d)
  | .tp xs => some xs
  | _ => none
section
variable {mg : Mg} {w : Wd} {H : Hp} {h : Hh}
/-- data that is no dict is read as it stands -/
def NotD : HO → Prop
  | .dK _ => False
  | .dT _ => False
  | _ => True
end
/-- the state, with what is locked left aside -/
structure Sm (mg : Mg) (w : Wd) (H : Hp) (h : Hh) : Prop extends Sim mg w H h where
  st : ∀ a o, w.fz a = some o → NotD o → H a = some o
section
variable {mg : Mg} {w : Wd} {H : Hp} {h : Hh}
theorem Sm.pure {p : Addr} {o : HO} (S : Sm mg w H h) (e : H p = none) : Sm mg (w.pure p o) (upd H p o) h :=
  ⟨S.toSim.pure e, fun a u q n => by
    by_cases z : a = p
    · subst z
      have q' : (if a = a then some o else w.fz a) = some u := q
      rw [if_pos rfl] at q'; cases q'
      exact upd_same
    · have q' : (if a = p then some o else w.fz a) = some u := q
      rw [if_neg z] at q'
      rw [upd_ne z]; exact S.st a u q' n⟩
theorem Sm.new {p : Addr} {o : HO} (S : Sm mg w H h) (e : H p = none) {x : O} (c : CellOk mg (w.cell p) (upd H p o) p x) : Sm mg (w.cell p) (upd H p o) (h ++ [x]) :=
  ⟨S.toSim.new e c, fun a u q n => by rw [upd_ne (S.toSim.fz_ne e q)]; exact S.st a u q n⟩
theorem Sm.live (S : Sm mg w H h) {i : Nat} {p : Addr} (hp : w.phi_[i]? = some p) (live : ∀ u, h[i]? = some u → Live u) : w.fz p = none := by
  have hi : i < h.length := by rw [← S.len]; exact (List.getElem?_eq_some_iff.mp hp).1
  have q : h[i]? = some h[i] := List.getElem?_eq_getElem hi
  rcases S.nf i p _ hp q with z | z
  · exact z
  · exact absurd (live _ q) (by rw [z]; exact fun x => x)
theorem Sm.write {p : Addr} {o : HO} (S : Sm mg w H h) {i : Nat} (hp : w.phi_[i]? = some p) (live : ∀ u, h[i]? = some u → Live u) {x : O} (c : CellOk mg w (upd H p o) p x) : Sm mg w (upd H p o) (h.set i x) :=
  ⟨S.toSim.write hp live c, fun a u q n => by
    rw [upd_ne (fun z => by subst z; rw [S.live hp live] at q; cases q)]; exact S.st a u q n⟩
theorem itemsL_rel (S : Sm mg w H h) {x : A} {v : V} {xs : List A} (r : RelA mg w x v) (e : itemsL x h = some xs) : ∃ a vs, v = .ref a ∧ H a = some (.lst vs) ∧ RelAs mg w xs vs := by
  cases r with
  | d hd =>
    cases hd with
    | lst q r => cases e; exact ⟨_, _, rfl, S.st _ _ q True.intro, r.as⟩
    | _ => cases e
  | @ref l a hl =>
    simp only [itemsL] at e
    split at e
    · rename_i ys q
      cases e
      cases S.cell l a _ hl q with
      | lst h1 h2 => exact ⟨_, _, rfl, h1, h2⟩
    · cases e
  | tp _ _ => cases e
theorem itemsT_rel (S : Sm mg w H h) {x : A} {v : V} {xs : List A} (r : RelA mg w x v) (e : itemsT x = some xs) : ∃ a vs, v = .ref a ∧ Rd H a (.tup vs) ∧ RelAs mg w xs vs := by
  cases r with
  | d hd =>
    cases hd with
    | tup q r => cases e; exact ⟨_, _, rfl, .inl (S.st _ _ q True.intro), r.as⟩
    | tupN q _ _ r => cases e; exact ⟨_, _, rfl, .inr ⟨_, S.st _ _ q True.intro⟩, r.as⟩
    | _ => cases e
  | ref _ => cases e
  | tp q r => cases e; exact ⟨_, _, rfl, .inl (S.st _ _ q True.intro), r⟩
theorem sqT_rd {K : PySem.W.Frag} {a : Addr} {vs : List V} (h : Rd H a (.tup vs)) : SqT K H a vs := .inl h
/-! ### the wish behind, with the state -/
def Bh (mg : Mg) (w : Wd) (h' : Hh) (a : A) (Q : VK) : Prop := ∀ w' H' v, w.le w' → Sm mg w' H' h' → RelA mg w' a v → Q v H'
theorem Bh.le {w' : Wd} {h' : Hh} {a : A} {Q : VK} (b : Bh mg w h' a Q) (l : w.le w') : Bh mg w' h' a Q := fun w2 H2 v l2 => b w2 H2 v (l.trans l2)
/-! ### new objects -/
def mkL (cell : Bool) (xs : List A) (h : Hh) : Option (A × Hh) :=
  if xs.length ≤ LIM then
    if cell then some (.ref h.length, h ++ [.lst xs]) else (allD xs).map fun ds => (.d (.lst ds), h)
  else none
theorem mkL_ok (S : Sm mg w H h) {cell : Bool} {xs : List A} {vs : List V} (r : RelAs mg w xs vs) {a : A} {h' : Hh} (e : mkL cell xs h = some (a, h')) {Q : VK} (b : Bh mg w h' a Q) :
    vs.length ≤ sizeLine ∧ ∀ p, H p = none → Q (.ref p) (upd H p (.lst vs)) := by
  unfold mkL at e
  split at e
  · rename_i hz
    refine ⟨lim_size (by rw [← r.length]; exact hz), fun p hp => ?_⟩
    split at e
    · cases e
      refine b (w.cell p) _ _ S.le_cell (S.new hp (.lst upd_same (r.mono S.le_cell))) (.ref ?_)
      show (w.phi_ ++ [p])[h.length]? = some p
      rw [← S.len]; simp
    · obtain ⟨ds, hd, q⟩ := Option.map_eq_some_iff.mp e
      cases q
      refine b (w.pure p _) _ _ (S.le_pure hp) (S.pure hp) (.d (.lst (vs := vs) ?_ ((allD_rel hd r).mono (S.le_pure hp).fz)))
      show (if p = p then _ else _) = _
      rw [if_pos rfl]
  · cases e
def mkT (xs : List A) (h : Hh) : Option (A × Hh) :=
  if xs.length ≤ LIM then match allD xs with
    | some ds => some (.d (.tup ds), h)
    | none => some (.tp xs, h)
  else none
theorem mkT_ok (S : Sm mg w H h) {xs : List A} {vs : List V} (r : RelAs mg w xs vs) {a : A} {h' : Hh} (e : mkT xs h = some (a, h')) {Q : VK} (b : Bh mg w h' a Q) :
    vs.length ≤ sizeLine ∧ ∀ p, H p = none → Q (.ref p) (upd H p (.tup vs)) := by
  unfold mkT at e
  split at e
  · rename_i hz
    refine ⟨lim_size (by rw [← r.length]; exact hz), fun p hp => ?_⟩
    split at e
    · rename_i ds hd
      cases e
      refine b (w.pure p _) _ _ (S.le_pure hp) (S.pure hp) (.d (.tup (vs := vs) ?_ ((allD_rel hd r).mono (S.le_pure hp).fz)))
      show (if p = p then _ else _) = _
      rw [if_pos rfl]
    · cases e
      refine b (w.pure p _) _ _ (S.le_pure hp) (S.pure hp) (.tp (vs := vs) ?_ (r.mono (S.le_pure hp)))
      show (if p = p then _ else _) = _
      rw [if_pos rfl]
  · cases e
end
/-! ### readings -/
def rE (mg : Mg) (m : EI) : TE := fun σ H Q => ∃ w ρ h a h', Sm mg w H h ∧ EnvOk mg w ρ σ ∧ m ρ h = some (a, h') ∧ Bh mg w h' a Q
def rA (mg : Mg) (m : AI) : TA := fun σ H Q => ∃ w ρ h as h', Sm mg w H h ∧ EnvOk mg w ρ σ ∧ m ρ h = some (as, h') ∧ ∀ w' H' vs, w.le w' → Sm mg w' H' h' → RelAs mg w' as vs → Q vs H'
def rT (mg : Mg) (m : TI') : TT := fun σ H Q => ∃ w ρ h b h', Sm mg w H h ∧ EnvOk mg w ρ σ ∧ m ρ h = some (b, h') ∧ ∀ w' H', w.le w' → Sm mg w' H' h' → Q b H'
theorem PE.imp {X : Cx} {e : Expr} {t t' : TE} (p : PE X e t) (h : ∀ σ H Q, t' σ H Q → t σ H Q) : PE X e t' := ⟨fun pins s σ H Q I q => p.run pins s σ H Q I (h σ H Q q)⟩
theorem PT.imp {X : Cx} {e : Expr} {t t' : TT} (p : PT X e t) (h : ∀ σ H Q, t' σ H Q → t σ H Q) : PT X e t' := ⟨fun pins s σ H Q I q => p.run pins s σ H Q I (h σ H Q q)⟩
theorem PA.imp {X : Cx} {e : List Expr} {t t' : TA} (p : PA X e t) (h : ∀ σ H Q, t' σ H Q → t σ H Q) : PA X e t' := ⟨fun pos pins s σ H Q I q => p.run pos pins s σ H Q I (h σ H Q q)⟩
/-! ### combinators -/
def mVar (i : Nat) : EI := fun ρ h => match ρ[i]? with
  | some (some a) => some (a, h)
  | _ => none
def mC (x : D) : EI := fun _ h => some (.d x, h)
def mBin (f : A → A → Hh → Option (A × Hh)) (a b : EI) : EI := fun ρ h => match a ρ h with
  | some (x, h1) => match b ρ h1 with
    | some (y, h2) => f x y h2
    | none => none
  | none => none
def mUn (f : A → Hh → Option (A × Hh)) (a : EI) : EI := fun ρ h => match a ρ h with
  | some (x, h1) => f x h1
  | none => none
def mNil : AI := fun _ h => some ([], h)
def mCons (a : EI) (r : AI) : AI := fun ρ h => match a ρ h with
  | some (x, h1) => match r ρ h1 with
    | some (xs, h2) => some (x :: xs, h2)
    | none => none
  | none => none
def mOn (f : List A → Hh → Option (A × Hh)) (r : AI) : EI := fun ρ h => match r ρ h with
  | some (xs, h1) => f xs h1
  | none => none
def mIf (c : TI') (a b : EI) : EI := fun ρ h => match c ρ h with
  | some (true, h1) => a ρ h1
  | some (false, h1) => b ρ h1
  | none => none
section
variable {X : Cx}
/-- two parts, then an operation on values -/
theorem bin_split {f : A → A → Hh → Option (A × Hh)} {ma mb : EI} {σ : L2.St} {H : Hp} {Q : VK} (q : rE X.mg (mBin f ma mb) σ H Q) :
    rE X.mg ma σ H fun vx H1 => rE X.mg mb σ H1 fun vy H2 => ∃ w h x y a h', Sm X.mg w H2 h ∧ RelA X.mg w x vx ∧ RelA X.mg w y vy ∧ f x y h = some (a, h') ∧ Bh X.mg w h' a Q := by
  obtain ⟨w, ρ, h, a, h', S, E, e, b⟩ := q
  unfold mBin at e
  split at e
  · rename_i x h1 e1
    split at e
    · rename_i y h2 e2
      refine ⟨w, ρ, h, x, h1, S, E, e1, fun w1 H1 vx l1 S1 r1 => ⟨w1, ρ, h1, y, h2, S1, E.mono l1, e2, fun w2 H2 vy l2 S2 r2 => ⟨w2, h2, x, y, a, h', S2, r1.mono l2, r2, e, b.le (l1.trans l2)⟩⟩⟩
    · cases e
  · cases e
theorem un_split {f : A → Hh → Option (A × Hh)} {ma : EI} {σ : L2.St} {H : Hp} {Q : VK} (q : rE X.mg (mUn f ma) σ H Q) :
    rE X.mg ma σ H fun vx H1 => ∃ w h x a h', Sm X.mg w H1 h ∧ RelA X.mg w x vx ∧ f x h = some (a, h') ∧ Bh X.mg w h' a Q := by
  obtain ⟨w, ρ, h, a, h', S, E, e, b⟩ := q
  unfold mUn at e
  split at e
  · rename_i x h1 e1
    exact ⟨w, ρ, h, x, h1, S, E, e1, fun w1 H1 vx l1 S1 r1 => ⟨w1, h1, x, a, h', S1, r1, e, b.le l1⟩⟩
  · cases e
theorem on_split {f : List A → Hh → Option (A × Hh)} {ma : AI} {σ : L2.St} {H : Hp} {Q : VK} (q : rE X.mg (mOn f ma) σ H Q) :
    rA X.mg ma σ H fun vs H1 => ∃ w h xs a h', Sm X.mg w H1 h ∧ RelAs X.mg w xs vs ∧ f xs h = some (a, h') ∧ Bh X.mg w h' a Q := by
  obtain ⟨w, ρ, h, a, h', S, E, e, b⟩ := q
  unfold mOn at e
  split at e
  · rename_i x h1 e1
    exact ⟨w, ρ, h, x, h1, S, E, e1, fun w1 H1 vx l1 S1 r1 => ⟨w1, h1, x, a, h', S1, r1, e, b.le l1⟩⟩
  · cases e
theorem e_var (i : Nat) {x : Str} {pos : Pos} (hN : X.N[i]? = some x := by rfl) (hv : Vis X.env.scope x := by first | exact Or.inl rfl | exact Or.inr (Or.inl rfl) | exact Or.inr (Or.inr rfl)) (hd : (x == ("__debug__" : Str)) = false := by decide)
    (hcd : (x == ("__classdict__" : Str)) = false := by decide) : PE X (.Name x pos) (rE X.mg (mVar i)) :=
  PE.imp (pe_var hN hv hd hcd) fun σ H Q ⟨w, ρ, h, a, h', S, E, e, b⟩ => by
    unfold mVar at e
    split at e
    · rename_i a' q
      cases e
      obtain ⟨v, hv, r⟩ := E.get i _ q
      exact ⟨v, hv, b w H v .rfl S r⟩
    · cases e
theorem c_imp {e : Expr} {x : D} {v : V} (p : PE X e (tC v)) (r : ∀ fz, RelD X.mg fz x v) : PE X e (rE X.mg (mC x)) := PE.imp p fun σ H Q ⟨w, ρ, h, a, h', S, E, e, b⟩ => by
  cases e
  exact b w H v .rfl S (.d (r _))
theorem e_int {i j pos} : PE X (.Constant (.int i) j pos) (rE X.mg (mC (.int i))) := c_imp pe_int fun _ => .int _
theorem e_bl {b j pos} : PE X (.Constant (.bool b) j pos) (rE X.mg (mC (.bl b))) := c_imp pe_bl fun _ => .bl _
theorem e_non {j pos} : PE X (.Constant .none j pos) (rE X.mg (mC .non)) := c_imp pe_non fun _ => .non
theorem e_str {x j pos} : PE X (.Constant (.str x) j pos) (rE X.mg (mC (.str x))) := c_imp pe_str fun _ => .str _
/-- a module's int -/
theorem e_gint {x : Str} {i : Int} {t : Tok} {pos : Pos} (hm : X.mg x = some (.int i t)) (hg : Gl X x := by rfl) (hd : (x == ("__debug__" : Str)) = false := by decide) : PE X (.Name x pos) (rE X.mg (mC (.int i))) :=
  c_imp (pe_glob (v := .int i) hg hm ⟨_, rfl⟩ hd) fun _ => .int _
/-! ### operators -/
def OpI (X : Cx) (r : Value → Value → Sem Value) (f : A → A → Hh → Option (A × Hh)) : Prop :=
  OpR X r fun vx vy H Q => ∃ w h x y a h', Sm X.mg w H h ∧ RelA X.mg w x vx ∧ RelA X.mg w y vy ∧ f x y h = some (a, h') ∧ Bh X.mg w h' a Q
theorem OpI.of {sem : Value → Value → Sem Value} {r : R2} {f : A → A → Hh → Option (A × Hh)} (o : OpR X sem r)
    (h : ∀ (w : Wd) (H : Hp) (h : Hh) (x y a : A) (vx vy : V) (h' : Hh) (Q : VK), Sm X.mg w H h → RelA X.mg w x vx → RelA X.mg w y vy → f x y h = some (a, h') → Bh X.mg w h' a Q → r vx vy H Q) : OpI X sem f := by
  intro pins s σ H vx vy v u Q I rx ry ⟨w, hh, x, y, a, h', S, r1, r2, e, b⟩
  exact o pins s σ H vx vy v u Q I rx ry (h w H hh x y a vx vy h' Q S r1 r2 e b)
def orF (f g : A → A → Hh → Option (A × Hh)) : A → A → Hh → Option (A × Hh) := fun x y h => match f x y h with
  | some r => some r
  | none => g x y h
theorem OpI.or {sem : Value → Value → Sem Value} {f g : A → A → Hh → Option (A × Hh)} (o : OpI X sem f) (p : OpI X sem g) : OpI X sem (orF f g) := by
  intro pins s σ H vx vy v u Q I rx ry ⟨w, hh, x, y, a, h', S, r1, r2, e, b⟩
  unfold orF at e
  split at e
  · rename_i r q
    cases e
    exact o pins s σ H vx vy v u Q I rx ry ⟨w, hh, x, y, a, h', S, r1, r2, q, b⟩
  · exact p pins s σ H vx vy v u Q I rx ry ⟨w, hh, x, y, a, h', S, r1, r2, e, b⟩
theorem e_bin {op : Operator} {f : A → A → Hh → Option (A × Hh)} {a b : Expr} {ma mb : EI} {pos : Pos} (o : OpI X (binaryOp op) f) (ha : PE X a (rE X.mg ma)) (hb : PE X b (rE X.mg mb)) : PE X (.BinOp a op b pos) (rE X.mg (mBin f ma mb)) :=
  PE.imp (pe_op o ha hb) fun σ H Q q => bin_split q
theorem e_cmp {op : CmpOp} {f : A → A → Hh → Option (A × Hh)} {a b : Expr} {ma mb : EI} {pos : Pos} (o : OpI X (compareOp op) f) (ha : PE X a (rE X.mg ma)) (hb : PE X b (rE X.mg mb)) (hm : behindInMarks op b = false := by first | exact nomark _ | with_unfolding_all rfl) :
    PE X (.Compare a [op] [b] pos) (rE X.mg (mBin f ma mb)) := PE.imp (pe_cmpR o ha hb hm) fun σ H Q q => bin_split q
/-- two ints -/
def int2 (C : Int → Int → Bool) (g : Int → Int → D) : A → A → Hh → Option (A × Hh)
  | .d (.int i), .d (.int j), h => if C i j then some (.d (g i j), h) else none
  | _, _, _ => none
theorem int2_ok {sem : Value → Value → Sem Value} {C : Int → Int → Bool} {g : Int → Int → D} {P : Int → Int → Prop} {gv : Int → Int → V} (o : OpR X sem (rI P gv)) (hC : ∀ i j, C i j = true → P i j) (hg : ∀ fz i j, RelD X.mg fz (g i j) (gv i j)) : OpI X sem (int2 C g) :=
  OpI.of o fun w H h x y a vx vy h' Q S r1 r2 e b => by
    unfold int2 at e
    split at e
    · rename_i i j
      split at e
      · rename_i c
        cases e
        cases r1 with
        | d r1 =>
          cases r1
          cases r2 with
          | d r2 =>
            cases r2
            exact ⟨i, j, rfl, rfl, hC i j c, b w H _ .rfl S (.d (hg _ i j))⟩
      · cases e
    · cases e
theorem int20_ok {sem : Value → Value → Sem Value} {g : Int → Int → D} {gv : Int → Int → V} (o : OpR X sem (rI0 gv)) (hg : ∀ fz i j, RelD X.mg fz (g i j) (gv i j)) : OpI X sem (int2 (fun _ _ => true) g) :=
  OpI.of o fun w H h x y a vx vy h' Q S r1 r2 e b => by
    unfold int2 at e
    split at e
    · rename_i i j
      rw [if_pos rfl] at e
      cases e
      cases r1 with
      | d r1 =>
        cases r1
        cases r2 with
        | d r2 =>
          cases r2
          exact ⟨i, j, rfl, rfl, b w H _ .rfl S (.d (hg _ i j))⟩
    · cases e
def str2 (C : Str → Str → Bool) (g : Str → Str → D) : A → A → Hh → Option (A × Hh)
  | .d (.str i), .d (.str j), h => if C i j then some (.d (g i j), h) else none
  | _, _, _ => none
def fSub : A → A → Hh → Option (A × Hh) := int2 (fun _ _ => true) fun i j => .int (i - j)
theorem o_sub : OpI X (binaryOp .Sub) fSub := int20_ok op_sub fun _ _ _ => .int _
def fLst (cell : Bool) : A → A → Hh → Option (A × Hh) := fun x y h => match itemsL x h with
  | some xs => match itemsL y h with
    | some ys => if xs.length + ys.length ≤ LIM then mkL cell (xs ++ ys) h else none
    | none => none
  | none => none
theorem RelAs.append {mg : Mg} {w : Wd} : ∀ {as bs : List A} {vs us : List V}, RelAs mg w as vs → RelAs mg w bs us → RelAs mg w (as ++ bs) (vs ++ us)
  | _, _, _, _, .nil, r => r
  | _, _, _, _, .cons h t, r => .cons h (RelAs.append t r)
theorem o_catL {cell : Bool} : OpI X (binaryOp .Add) (fLst cell) := OpI.of op_cat fun w H h x y a vx vy h' Q S r1 r2 e b => by
  unfold fLst at e
  split at e
  · rename_i xs ex
    split at e
    · rename_i ys ey
      split at e
      · rename_i hz
        obtain ⟨p, vs, rfl, hp, rp⟩ := itemsL_rel S r1 ex
        obtain ⟨q, us, rfl, hq, rq⟩ := itemsL_rel S r2 ey
        exact ⟨p, q, vs, us, rfl, rfl, hp, hq, lim_size (by rw [← rp.length, ← rq.length]; exact hz), (mkL_ok S (rp.append rq) e b).2⟩
      · cases e
    · cases e
  · cases e
def fAddS : A → A → Hh → Option (A × Hh) := str2 (fun i j => decide (i.length + j.length ≤ LIM)) fun i j => .str (i ++ j)
theorem o_addS : OpI X (binaryOp .Add) fAddS := OpI.of op_add_str fun w H h x y a vx vy h' Q S r1 r2 e b => by
  unfold fAddS str2 at e
  split at e
  · rename_i i j
    split at e
    · rename_i c
      cases e
      cases r1 with
      | d r1 =>
        cases r1
        cases r2 with
        | d r2 =>
          cases r2
          exact ⟨i, j, rfl, rfl, lim_size (of_decide_eq_true c), b w H _ .rfl S (.d (.str _))⟩
    · cases e
  · cases e
def fAddI : A → A → Hh → Option (A × Hh) := int2 (fun _ _ => true) fun i j => .int (i + j)
theorem o_addI : OpI X (binaryOp .Add) fAddI := int20_ok op_add fun _ _ _ => .int _
/-- + -/
def fAdd (cell : Bool) : A → A → Hh → Option (A × Hh) := orF fAddI (orF fAddS (fLst cell))
theorem o_add {cell : Bool} : OpI X (binaryOp .Add) (fAdd cell) := o_addI.or (o_addS.or o_catL)
def fLt := int2 (fun _ _ => true) fun i j => .bl (decide (i < j))
theorem o_lt : OpI X (compareOp .Lt) fLt := int20_ok op_lt fun _ _ _ => .bl _
def fLe := int2 (fun _ _ => true) fun i j => .bl (decide (i ≤ j))
theorem o_le : OpI X (compareOp .LtE) fLe := int20_ok op_le fun _ _ _ => .bl _
def fGt := int2 (fun _ _ => true) fun i j => .bl (decide (j < i))
theorem o_gt : OpI X (compareOp .Gt) fGt := int20_ok op_gt fun _ _ _ => .bl _
def fGe := int2 (fun _ _ => true) fun i j => .bl (decide (j ≤ i))
theorem o_ge : OpI X (compareOp .GtE) fGe := int20_ok op_ge fun _ _ _ => .bl _
end
end F2
set_option Elab.async false
set_option linter.all false
set_option maxRecDepth 100000
set_option maxHeartbeats 4000000
namespace F2
open PySem PySem.Spec PyProof.Rows L2
/-! data as the library's data -/
mutual
def toPy : D → Option PyData
  | .non => some .none
  | .bl b => some (.bool b)
  | .int i => some (.int i)
  | .str x => some (.str x)
  | .tup xs => (toPys xs).map .tuple
  | .lst xs => (toPys xs).map .list
  | .dK _ => none
  | .dT _ => none
  | .ins _ _ => none
  | .scr _ => none
  | .tupN xs => (toPys xs).map .tuple
def toPys : List D → Option (List PyData)
  | [] => some []
  | x :: xs => match toPy x with
    | some p => (toPys xs).map (p :: ·)
    | none => none
end
def pyOf (x : A) (h : Hh) : Option PyData := match x with
  | .d d => toPy d
  | .ref l => match itemsL (.ref l) h with
    | some xs => match allD xs with
      | some ds => (toPys ds).map .list
      | none => none
    | none => none
  | .tp _ => none
section
variable {mg : Mg} {w : Wd} {H : Hp} {h : Hh} {K : PySem.W.Frag}
mutual
theorem toPy_dp (st : ∀ a o, w.fz a = some o → NotD o → H a = some o) : ∀ {d : D} {v : V} {p : PyData}, toPy d = some p → RelD mg w.fz d v → Dp K H v p
  | .non, _, _, e, r => by cases e; cases r; exact .non
  | .bl _, _, _, e, r => by cases e; cases r; exact .bl _
  | .int _, _, _, e, r => by cases e; cases r; exact .int _
  | .str _, _, _, e, r => by cases e; cases r; exact .str _
  | .tup xs, _, _, e, r => by
    obtain ⟨ps, h1, h2⟩ := Option.map_eq_some_iff.mp (show (toPys xs).map PyData.tuple = _ from e)
    cases r with
    | tup q r =>
      subst h2
      exact .tup (SqT.of (st _ _ q True.intro)) (toPys_dp st h1 r)
  | .lst xs, _, _, e, r => by
    obtain ⟨ps, h1, h2⟩ := Option.map_eq_some_iff.mp (show (toPys xs).map PyData.list = _ from e)
    cases r with
    | lst q r =>
      subst h2
      exact .lst (SqL.of (st _ _ q True.intro)) (toPys_dp st h1 r)
  | .dK _, _, _, e, _ => by cases e
  | .dT _, _, _, e, _ => by cases e
  | .ins _ _, _, _, e, _ => by cases e
  | .scr _, _, _, e, _ => by cases e
  | .tupN xs, _, _, e, r => by
    obtain ⟨ps, h1, h2⟩ := Option.map_eq_some_iff.mp (show (toPys xs).map PyData.tuple = _ from e)
    cases r with
    | tupN q _ _ r =>
      subst h2
      exact .tup (.inl (.inr ⟨_, st _ _ q True.intro⟩)) (toPys_dp st h1 r)
theorem toPys_dp (st : ∀ a o, w.fz a = some o → NotD o → H a = some o) : ∀ {ds : List D} {vs : List V} {ps : List PyData}, toPys ds = some ps → RelDs mg w.fz ds vs → DpAll K H vs ps
  | [], _, _, e, r => by cases e; cases r; exact .nil
  | d :: ds, _, ps, e, r => by
    cases r with
    | cons hr tr =>
      have e' : (match toPy d with
        | some p => (toPys ds).map (p :: ·)
        | none => none) = some ps := e
      split at e'
      · rename_i p q
        obtain ⟨qs, h1, h2⟩ := Option.map_eq_some_iff.mp e'
        subst h2
        exact .cons (toPy_dp st q hr) (toPys_dp st h1 tr)
      · cases e'
end
theorem pyOf_dp (S : Sm mg w H h) {x : A} {v : V} {p : PyData} (r : RelA mg w x v) (e : pyOf x h = some p) : Dp K H v p := by
  cases r with
  | d r => exact toPy_dp S.st e r
  | @ref l a hl =>
    simp only [pyOf] at e
    split at e
    · rename_i xs ex
      split at e
      · rename_i ds ed
        obtain ⟨ps, h1, h2⟩ := Option.map_eq_some_iff.mp e
        subst h2
        obtain ⟨b, vs, eb, hb, rb⟩ := itemsL_rel S (.ref hl) ex
        cases eb
        exact .lst (SqL.of hb) (toPys_dp S.st h1 (allD_rel ed rb))
      · cases e
    · cases e
  | tp _ _ => cases e
end
section
variable {X : Cx}
def fEqD (neg : Bool) : A → A → Hh → Option (A × Hh) := fun x y h => match pyOf x h with
  | some p => match pyOf y h with
    | some q => if SeqAt.shaped p && SeqAt.shaped q then some (.d (.bl (neg ^^ PyData.eqv p q)), h) else none
    | none => none
  | none => none
theorem o_eqD (hu : X.A.units + 64 < cLine) : OpI X (compareOp .Eq) (fEqD false) := OpI.of (op_eqD hu) fun w H h x y a vx vy h' Q S r1 r2 e b => by
  unfold fEqD at e
  split at e
  · rename_i p ep
    split at e
    · rename_i q eq
      split at e
      · rename_i c
        cases e
        rw [Bool.and_eq_true] at c
        exact ⟨p, q, pyOf_dp S r1 ep, pyOf_dp S r2 eq, c.1, c.2, b w H _ .rfl S (.d (by rw [Bool.false_xor]; exact .bl _))⟩
      · cases e
    · cases e
  · cases e
theorem o_neD (hu : X.A.units + 64 < cLine) : OpI X (compareOp .NotEq) (fEqD true) := OpI.of (op_neD hu) fun w H h x y a vx vy h' Q S r1 r2 e b => by
  unfold fEqD at e
  split at e
  · rename_i p ep
    split at e
    · rename_i q eq
      split at e
      · rename_i c
        cases e
        rw [Bool.and_eq_true] at c
        exact ⟨p, q, pyOf_dp S r1 ep, pyOf_dp S r2 eq, c.1, c.2, b w H _ .rfl S (.d (by rw [Bool.true_xor]; exact .bl _))⟩
      · cases e
    · cases e
  · cases e
/-! in -/
/-- flat data -/
def fv : D → Option V
  | .non => some .non
  | .bl b => some (.bl b)
  | .int i => some (.int i)
  | .str x => some (.str x)
  | _ => none
theorem fv_rel {mg : Mg} {fz : Fz} {d : D} {v u : V} (r : RelD mg fz d v) (e : fv d = some u) : v = u ∧ flatV v = true := by
  cases r <;> first | (cases e; exact ⟨rfl, rfl⟩) | cases e
def fvs : List A → Option (List V)
  | [] => some []
  | .d x :: r => match fv x with
    | some v => (fvs r).map (v :: ·)
    | none => none
  | .ref _ :: _ => none
  | .tp _ :: _ => none
theorem fvs_rel {mg : Mg} {w : Wd} : ∀ {as : List A} {vs us : List V}, RelAs mg w as vs → fvs as = some us → vs = us ∧ vs.all flatV = true
  | _, _, _, .nil, e => by cases e; exact ⟨rfl, rfl⟩
  | _, _, us, .cons (a := a) h t, e => by
    cases h with
    | @d x v hd =>
      rename_i as vs
      have e' : (match fv x with
        | some v => (fvs as).map (v :: ·)
        | none => none) = some us := e
      split at e'
      · rename_i y q
        obtain ⟨qs, h1, h2⟩ := Option.map_eq_some_iff.mp e'
        subst h2
        obtain ⟨rfl, f1⟩ := fv_rel hd q
        obtain ⟨rfl, f2⟩ := fvs_rel t h1
        exact ⟨rfl, by rw [List.all_cons, f1, f2]; rfl⟩
      · cases e'
    | ref _ => cases e
    | tp _ _ => cases e
/-- in a list or tuple of flat items -/
def fInF (neg : Bool) : A → A → Hh → Option (A × Hh) := fun x y h => match fvs [x] with
  | some [v] => match itemsL y h with
    | some ys => (fvs ys).map fun us => (.d (.bl (neg ^^ inV v us)), h)
    | none => match itemsT y with
      | some ys => (fvs ys).map fun us => (.d (.bl (neg ^^ inV v us)), h)
      | none => none
  | _ => none
theorem fInF_ok {neg : Bool} {sem : Value → Value → Sem Value} (o : OpR X sem (rIn X.K neg)) : OpI X sem (fInF neg) := OpI.of o fun w H h x y a vx vy h' Q S r1 r2 e b => by
  have key : ∀ v us, (if neg = true then !inV v us else inV v us) = (neg ^^ inV v us) := fun v us => by cases neg <;> simp
  unfold fInF at e
  split at e
  · rename_i v ev
    obtain ⟨e1, f1⟩ := fvs_rel (.cons r1 .nil) ev
    cases e1
    rw [List.all_cons, List.all_nil, Bool.and_true] at f1
    split at e
    · rename_i ys ey
      obtain ⟨us, e2, e3⟩ := Option.map_eq_some_iff.mp e
      cases e3
      obtain ⟨p, vs, rfl, hp, rp⟩ := itemsL_rel S r2 ey
      obtain ⟨rfl, f2⟩ := fvs_rel rp e2
      exact ⟨p, vs, rfl, .inl (SqL.of hp), f1, f2, b w H _ .rfl S (.d (by rw [key]; exact .bl _))⟩
    · split at e
      · rename_i ys ey
        obtain ⟨us, e2, e3⟩ := Option.map_eq_some_iff.mp e
        cases e3
        obtain ⟨p, vs, rfl, hp, rp⟩ := itemsT_rel S r2 ey
        obtain ⟨rfl, f2⟩ := fvs_rel rp e2
        exact ⟨p, vs, rfl, .inr (sqT_rd hp), f1, f2, b w H _ .rfl S (.d (by rw [key]; exact .bl _))⟩
      · cases e
  · cases e
/-- in a list of data -/
def fInD (neg : Bool) : A → A → Hh → Option (A × Hh) := fun x y h => match pyOf x h with
  | some p => match pyOf y h with
    | some (.list qs) => if SeqAt.shaped p && SeqAt.shaped (.list qs) then some (.d (.bl (neg ^^ qs.any fun z => PyData.eqv z p)), h) else none
    | _ => none
  | none => none
theorem o_inD (hu : X.A.units + 65 < cLine) : OpI X (compareOp .In) (fInD false) := OpI.of (op_inD hu) fun w H h x y a vx vy h' Q S r1 r2 e b => by
  unfold fInD at e
  split at e
  · rename_i p ep
    split at e
    · rename_i qs eq
      split at e
      · rename_i c
        cases e
        rw [Bool.and_eq_true] at c
        exact ⟨p, qs, pyOf_dp S r1 ep, pyOf_dp S r2 eq, c.1, c.2, b w H _ .rfl S (.d (by rw [Bool.false_xor]; exact .bl _))⟩
      · cases e
    · cases e
  · cases e
theorem o_notInD (hu : X.A.units + 65 < cLine) : OpI X (compareOp .NotIn) (fInD true) := OpI.of (op_notInD hu) fun w H h x y a vx vy h' Q S r1 r2 e b => by
  unfold fInD at e
  split at e
  · rename_i p ep
    split at e
    · rename_i qs eq
      split at e
      · rename_i c
        cases e
        rw [Bool.and_eq_true] at c
        exact ⟨p, qs, pyOf_dp S r1 ep, pyOf_dp S r2 eq, c.1, c.2, b w H _ .rfl S (.d (by rw [Bool.true_xor]; exact .bl _))⟩
      · cases e
    · cases e
  · cases e
/-! dicts -/
def lookG {κ α : Type} [DecidableEq κ] (kvs : List (κ × α)) (k : κ) : Option α := (kvs.find? fun kv => decide (kv.1 = k)).map (·.2)
theorem look_rel {mg : Mg} {w : Wd} {κ : Type} [DecidableEq κ] {k : κ} : ∀ {as : List (κ × A)} {vs : List (κ × V)}, RelAk mg w as vs →
    (lookG as k = none ∧ valV vs k = none) ∨ ∃ a v, lookG as k = some a ∧ valV vs k = some v ∧ RelA mg w a v
  | _, _, .nil => .inl ⟨rfl, rfl⟩
  | _, _, .cons (k := j) (d := d) (v := v) (ds := ds) (vs := vs) h t => by
    by_cases e : j = k
    · refine .inr ⟨d, v, ?_, valV_pos e, h⟩
      simp [lookG, List.find?_cons, e]
    · have e1 : lookG ((j, d) :: ds) k = lookG ds k := by simp [lookG, List.find?_cons, e]
      rw [e1, valV_neg (p := (j, v)) e]
      exact look_rel t
def keyOf : D → Option Key
  | .int i => some (.inl i)
  | .str x => some (.inr x)
  | _ => none
theorem keyOf_rel {mg : Mg} {fz : Fz} {d : D} {v : V} {k : Key} (r : RelD mg fz d v) (e : keyOf d = some k) : v = kV k := by
  cases r <;> first | (cases e; rfl) | cases e
def keysOf : List D → Option (List Key)
  | [] => some []
  | d :: r => match keyOf d with
    | some k => (keysOf r).map (k :: ·)
    | none => none
theorem keysOf_rel {mg : Mg} {fz : Fz} : ∀ {ds : List D} {vs : List V} {ks : List Key}, RelDs mg fz ds vs → keysOf ds = some ks → vs = ks.map kV
  | _, _, _, .nil, e => by cases e; rfl
  | d :: ds, _, ks, .cons h t, e => by
    have e' : (match keyOf d with
      | some k => (keysOf ds).map (k :: ·)
      | none => none) = some ks := e
    split at e'
    · rename_i k q
      obtain ⟨qs, h1, h2⟩ := Option.map_eq_some_iff.mp e'
      subst h2
      rw [keyOf_rel h q, keysOf_rel t h1]; rfl
    · cases e'
/-- a dict, its table -/
inductive Tab where
  | k (kvs : List (Key × A)) | t (kvs : List (List Key × A))
def tabOf : A → Hh → Option Tab
  | .d (.dK kvs), _ => some (.k (kvs.map fun p => (p.1, A.d p.2)))
  | .d (.dT kvs), _ => some (.t (kvs.map fun p => (p.1, A.d p.2)))
  | .ref l, h => match h[l]? with
    | some (.dK kvs) => some (.k kvs)
    | some (.lK kvs) => some (.k kvs)
    | some (.dT kvs) => some (.t kvs)
    | some (.lT kvs) => some (.t kvs)
    | _ => none
  | _, _ => none
inductive TabRel (mg : Mg) (w : Wd) (H : Hp) (a : Addr) : Tab → Prop
  | k {kvs : List (Key × A)} {ks : List (Key × V)} (h : Rd H a (.dK ks)) (r : RelAk mg w kvs ks) : TabRel mg w H a (.k kvs)
  | t {kvs : List (List Key × A)} {ks : List (List Key × V)} (h : Rd H a (.dT ks)) (r : RelAk mg w kvs ks) : TabRel mg w H a (.t kvs)
theorem tabOf_rel {mg : Mg} {w : Wd} {H : Hp} {h : Hh} (S : Sm mg w H h) {x : A} {v : V} {T : Tab} (r : RelA mg w x v) (e : tabOf x h = some T) : ∃ a, v = .ref a ∧ TabRel mg w H a T := by
  cases r with
  | d hd =>
    cases hd with
    | dK q r => cases e; exact ⟨_, rfl, .k (S.fz _ _ q) r.as⟩
    | dT q r => cases e; exact ⟨_, rfl, .t (S.fz _ _ q) r.as⟩
    | _ => cases e
  | @ref l a hl =>
    simp only [tabOf] at e
    split at e
    · rename_i ys q
      cases e
      cases S.cell l a _ hl q with
      | dK h1 h2 => exact ⟨_, rfl, .k (.inl h1) h2⟩
    · rename_i ys q
      cases e
      cases S.cell l a _ hl q with
      | lK h1 h2 => exact ⟨_, rfl, .k (.inr ⟨_, (S.lk _ _ h1).1⟩) h2⟩
    · rename_i ys q
      cases e
      cases S.cell l a _ hl q with
      | dT h1 h2 => exact ⟨_, rfl, .t (.inl h1) h2⟩
    · rename_i ys q
      cases e
      cases S.cell l a _ hl q with
      | lT h1 h2 => exact ⟨_, rfl, .t (.inr ⟨_, (S.lk _ _ h1).1⟩) h2⟩
    · cases e
  | tp _ _ => cases e
/-- d[k], whether it is there -/
def dget (T : Tab) (y : A) : Option (Option A) := match T, y with
  | .k kvs, .d y => (keyOf y).map fun k => lookG kvs k
  | .t kvs, .d (.tup ys) => (keysOf ys).map fun k => lookG kvs k
  | _, _ => none
theorem dget_rel {mg : Mg} {w : Wd} {H : Hp} {h : Hh} (S : Sm mg w H h) {a : Addr} {T : Tab} {y : A} {vy : V} {o : Option A} (t : TabRel mg w H a T) (r : RelA mg w y vy) (e : dget T y = some o) :
    ∃ ov, DGet H a vy ov ∧ ((o = none ∧ ov = none) ∨ ∃ x v, o = some x ∧ ov = some v ∧ RelA mg w x v) := by
  unfold dget at e
  split at e
  · rename_i kvs y
    obtain ⟨k, h1, h2⟩ := Option.map_eq_some_iff.mp e
    cases r with
    | d r =>
      have hv := keyOf_rel r h1
      subst hv
      cases t with
      | k q rr =>
        refine ⟨_, .inl ⟨_, k, q, rfl, rfl⟩, ?_⟩
        rcases look_rel (k := k) rr with ⟨z1, z2⟩ | ⟨x, v, z1, z2, z3⟩
        · exact .inl ⟨h2.symm.trans z1, z2⟩
        · exact .inr ⟨x, v, h2.symm.trans z1, z2, z3⟩
  · rename_i kvs ys
    obtain ⟨k, h1, h2⟩ := Option.map_eq_some_iff.mp e
    cases r with
    | d r =>
      cases r with
      | @tup b vs _ q0 rs =>
        have hv := keysOf_rel rs h1
        subst hv
        cases t with
        | t q rr =>
          refine ⟨_, .inr ⟨_, k, b, q, rfl, S.st _ _ q0 True.intro, rfl⟩, ?_⟩
          rcases look_rel (k := k) rr with ⟨z1, z2⟩ | ⟨x, v, z1, z2, z3⟩
          · exact .inl ⟨h2.symm.trans z1, z2⟩
          · exact .inr ⟨x, v, h2.symm.trans z1, z2, z3⟩
  · cases e
end
end F2
set_option Elab.async false
set_option linter.all false
set_option maxRecDepth 100000
set_option maxHeartbeats 4000000
namespace F2
open PySem PySem.Spec PyProof.Rows L2
section
variable {X : Cx}
/-! in, not in -/
def fInK (neg : Bool) : A → A → Hh → Option (A × Hh) := fun x y h => match tabOf y h with
  | some T => (dget T x).map fun o => (.d (.bl (neg ^^ o.isSome)), h)
  | none => none
theorem o_inK (hu : X.A.units + 1 < cLine) : OpI X (compareOp .In) (fInK false) := by
  intro pins s σ H vx vy v u Q I rx ry ⟨w, hh, x, y, a, h', S, r1, r2, e, b⟩
  unfold fInK at e
  split at e
  · rename_i T et
    obtain ⟨o, h1, h2⟩ := Option.map_eq_some_iff.mp e
    cases h2
    obtain ⟨p, rfl, tr⟩ := tabOf_rel S r2 et
    obtain ⟨ov, g, hov⟩ := dget_rel S tr r1 h1
    cases ry
    refine d_in hu I g rx fun s' I' => ⟨.bl ov.isSome, H, I', rfl, b w H _ .rfl S (.d ?_)⟩
    have : o.isSome = ov.isSome := by rcases hov with ⟨rfl, rfl⟩ | ⟨_, _, rfl, rfl, _⟩ <;> rfl
    rw [Bool.false_xor, this]
    exact .bl _
  · cases e
theorem o_notInK (hu : X.A.units + 1 < cLine) : OpI X (compareOp .NotIn) (fInK true) := by
  intro pins s σ H vx vy v u Q I rx ry ⟨w, hh, x, y, a, h', S, r1, r2, e, b⟩
  unfold fInK at e
  split at e
  · rename_i T et
    obtain ⟨o, h1, h2⟩ := Option.map_eq_some_iff.mp e
    cases h2
    obtain ⟨p, rfl, tr⟩ := tabOf_rel S r2 et
    obtain ⟨ov, g, hov⟩ := dget_rel S tr r1 h1
    cases ry
    refine d_notIn hu I g rx fun s' I' => ⟨.bl (!ov.isSome), H, I', rfl, b w H _ .rfl S (.d ?_)⟩
    have : o.isSome = ov.isSome := by rcases hov with ⟨rfl, rfl⟩ | ⟨_, _, rfl, rfl, _⟩ <;> rfl
    rw [Bool.true_xor, this]
    exact .bl _
  · cases e
def fIn (neg : Bool) : A → A → Hh → Option (A × Hh) := orF (fInK neg) (orF (fInF neg) (fInD neg))
theorem o_in (hu : X.A.units + 65 < cLine) : OpI X (compareOp .In) (fIn false) := (o_inK (by omega)).or ((fInF_ok op_in_seq).or (o_inD hu))
theorem o_notIn (hu : X.A.units + 65 < cLine) : OpI X (compareOp .NotIn) (fIn true) := (o_notInK (by omega)).or ((fInF_ok op_notIn_seq).or (o_notInD hu))
/-! is None -/
def isNon : A → Bool
  | .d .non => true
  | _ => false
def fIs (neg : Bool) : A → A → Hh → Option (A × Hh)
  | x, .d .non, h => some (.d (.bl (neg ^^ isNon x)), h)
  | _, _, _ => none
theorem isNon_rel {mg : Mg} {w : Wd} {x : A} {v : V} (r : RelA mg w x v) : decide (v = .non) = isNon x := by
  cases r with
  | d r => cases r <;> rfl
  | ref _ => rfl
  | tp _ _ => rfl
theorem o_is : OpI X (compareOp .Is) (fIs false) := OpI.of op_isN fun w H h x y a vx vy h' Q S r1 r2 e b => by
  unfold fIs at e
  split at e
  · cases e
    cases r2 with
    | d r2 => cases r2; exact ⟨rfl, b w H _ .rfl S (.d (by rw [isNon_rel r1, Bool.false_xor]; exact .bl _))⟩
  · cases e
theorem o_isNot : OpI X (compareOp .IsNot) (fIs true) := OpI.of op_notN fun w H h x y a vx vy h' Q S r1 r2 e b => by
  unfold fIs at e
  split at e
  · cases e
    cases r2 with
    | d r2 => cases r2; exact ⟨rfl, b w H _ .rfl S (.d (by rw [isNon_rel r1, Bool.true_xor]; exact .bl _))⟩
  · cases e
/-! arithmetic -/
def smallI (i : Int) : Bool := decide (-(2 ^ 64) < i ∧ i < 2 ^ 64)
def fMulI : A → A → Hh → Option (A × Hh) := int2 (fun i j => smallI i || smallI j) fun i j => .int (i * j)
theorem o_mulI : OpI X (binaryOp .Mult) fMulI := int2_ok op_mul (fun i j h => by
  rw [Bool.or_eq_true] at h
  rcases h with h | h
  · exact .inl (of_decide_eq_true h)
  · exact .inr (of_decide_eq_true h)) fun _ _ _ => .int _
def fMod : A → A → Hh → Option (A × Hh) := int2 (fun _ j => decide (0 < j)) fun i j => .int (i % j)
theorem o_mod : OpI X (binaryOp .Mod) fMod := int2_ok op_mod (fun _ _ h => of_decide_eq_true h) fun _ _ _ => .int _
def fDiv : A → A → Hh → Option (A × Hh) := int2 (fun _ j => decide (0 < j ∧ j < 1073741824)) fun i j => .int (i / j)
theorem o_div : OpI X (binaryOp .FloorDiv) fDiv := int2_ok (P := CDiv) op_fdiv (fun _ j h => of_decide_eq_true (p := 0 < j ∧ j < 1073741824) h) fun _ _ _ => .int _
def fPow : A → A → Hh → Option (A × Hh) := int2 (fun i j => decide (0 ≤ j ∧ j ≤ 1000 ∧ i.natAbs < 2 ^ 64)) fun i j => .int (i ^ j.toNat)
theorem o_pow : OpI X (binaryOp .Pow) fPow := int2_ok op_pow (fun i j h => by
  obtain ⟨h1, h2, h3⟩ := of_decide_eq_true h
  exact ⟨h1, by omega, h3⟩) fun _ _ _ => .int _
/-- -x -/
def fNeg : A → Hh → Option (A × Hh)
  | .d (.int i), h => some (.d (.int (-i)), h)
  | _, _ => none
theorem e_neg {a : Expr} {ma : EI} {pos : Pos} (ha : PE X a (rE X.mg ma)) : PE X (.UnaryOp .USub a pos) (rE X.mg (mUn fNeg ma)) := PE.imp (pe_un un_neg ha) fun σ H Q q => by
  obtain ⟨w, ρ, h, x, h1, S, E, e1, k⟩ := un_split q
  refine ⟨w, ρ, h, x, h1, S, E, e1, fun w1 H1 v l1 S1 r1 => ?_⟩
  obtain ⟨w2, h2, y, a, h', S2, r2, e2, b⟩ := k w1 H1 v l1 S1 r1
  unfold fNeg at e2
  split at e2
  · cases e2
    cases r2 with
    | d r2 => cases r2; exact ⟨_, rfl, b w2 H1 _ .rfl S2 (.d (.int _))⟩
  · cases e2
/-! truth -/
def truthA : A → Hh → Option Bool := fun x h => match x with
  | .d .non => some false
  | .d (.bl b) => some b
  | .d (.int i) => some (i != 0)
  | .d (.str y) => if y.length ≤ LIM then some ((y.length : Int) != 0) else none
  | .d (.tup ys) => some !ys.isEmpty
  | .d (.tupN ys) => some !ys.isEmpty
  | .d (.lst ys) => some !ys.isEmpty
  | .ref l => match h[l]? with
    | some (.lst xs) => some !xs.isEmpty
    | some (.dK xs) => some !xs.isEmpty
    | _ => none
  | _ => none
theorem RelDs.isEmpty {mg : Mg} {f : Fz} {d : List D} {v : List V} (r : RelDs mg f d v) : v.isEmpty = d.isEmpty := by cases r <;> rfl
theorem RelAs.isEmpty {mg : Mg} {w : Wd} {d : List A} {v : List V} (r : RelAs mg w d v) : v.isEmpty = d.isEmpty := by cases r <;> rfl
theorem truthA_rel {mg : Mg} {w : Wd} {H : Hp} {h : Hh} {K : PySem.W.Frag} (S : Sm mg w H h) {x : A} {v : V} {k : Bool} (r : RelA mg w x v) (e : truthA x h = some k) : TruV K v H k := by
  cases r with
  | d hd =>
    cases hd with
    | non => cases e; exact rfl
    | bl b => cases e; exact rfl
    | int i => cases e; exact rfl
    | str y =>
      simp only [truthA] at e
      split at e
      · rename_i hz
        cases e
        exact ⟨lim_size hz, rfl⟩
      · cases e
    | tup q r => cases e; exact (.inr (.inl ⟨_, SqT.of (S.st _ _ q True.intro), by rw [r.isEmpty]⟩))
    | tupN q _ _ r => cases e; exact (.inr (.inl ⟨_, .inl (.inr ⟨_, S.st _ _ q True.intro⟩), by rw [r.isEmpty]⟩))
    | lst q r => cases e; exact (.inl ⟨_, SqL.of (S.st _ _ q True.intro), by rw [r.isEmpty]⟩)
    | _ => cases e
  | @ref l a hl =>
    simp only [truthA] at e
    split at e
    · rename_i ys q
      cases e
      cases S.cell l a _ hl q with
      | lst h1 h2 => exact (.inl ⟨_, SqL.of h1, by rw [h2.isEmpty]⟩)
    · rename_i ys q
      cases e
      cases S.cell l a _ hl q with
      | dK h1 h2 =>
        refine (.inr (.inr ⟨_, h1, ?_⟩))
        cases h2 <;> rfl
    · cases e
  | tp _ _ => cases e
/-! tests -/
def mTru (m : EI) : TI' := fun ρ h => match m ρ h with
  | some (x, h1) => (truthA x h1).map fun k => (k, h1)
  | none => none
/-- the value of an expression that is a bool, as a test -/
theorem t_val {e : Expr} {m : EI} (p : PE X e (rE X.mg m)) (he : ∀ whole, isTrue e X.env whole = (do let v ← whole; standAt e.pos; holding [v] (truthy v)) := by intro _; rfl) : PT X e (rT X.mg (mTru m)) := PT.imp (pt_truth p he) fun σ H Q ⟨w, ρ, h, k, h', S, E, e, b⟩ => by
  unfold mTru at e
  split at e
  · rename_i x h1 e1
    obtain ⟨k', h2, h3⟩ := Option.map_eq_some_iff.mp e
    cases h3
    exact ⟨w, ρ, h, x, h', S, E, e1, fun w1 H1 v l1 S1 r1 => ⟨k, truthA_rel S1 r1 h2, b w1 H1 l1 S1⟩⟩
  · cases e
/-- what gives a bool -/
def mBl (m : EI) : TI' := fun ρ h => match m ρ h with
  | some (.d (.bl k), h1) => some (k, h1)
  | _ => none
theorem mBl_split {mg : Mg} {m : EI} {σ : L2.St} {H : Hp} {Q : Bool → Hp → Prop} (q : rT mg (mBl m) σ H Q) : rE mg m σ H fun v H1 => ∃ k, v = .bl k ∧ Q k H1 := by
  obtain ⟨w, ρ, h, k, h', S, E, e, b⟩ := q
  unfold mBl at e
  split at e
  · rename_i k' h1 e1
    cases e
    refine ⟨w, ρ, h, _, h', S, E, e1, fun w1 H1 v l1 S1 r1 => ?_⟩
    cases r1 with
    | d r1 => cases r1; exact ⟨k, rfl, b w1 H1 l1 S1⟩
  · cases e
theorem t_cmp {op : CmpOp} {f : A → A → Hh → Option (A × Hh)} {a b : Expr} {ma mb : EI} {pos : Pos} (o : OpI X (compareOp op) f) (ha : PE X a (rE X.mg ma)) (hb : PE X b (rE X.mg mb)) (hm : behindInMarks op b = false := by first | exact nomark _ | with_unfolding_all rfl) :
    PT X (.Compare a [op] [b] pos) (rT X.mg (mBl (mBin f ma mb))) := PT.imp (pt_cmpR o ha hb hm) fun σ H Q q => by
  obtain ⟨w, ρ, h, x, h1, S, E, e1, k⟩ := bin_split (X := X) (mBl_split q)
  exact ⟨w, ρ, h, x, h1, S, E, e1, k⟩
def mNotT (m : TI') : TI' := fun ρ h => (m ρ h).map fun p => (!p.1, p.2)
theorem t_not {a : Expr} {m : TI'} {pos : Pos} (h : PT X a (rT X.mg m)) : PT X (.UnaryOp .Not a pos) (rT X.mg (mNotT m)) := PT.imp (pt_not h) fun σ H Q ⟨w, ρ, h, k, h', S, E, e, b⟩ => by
  obtain ⟨⟨k1, h1⟩, e1, e2⟩ := Option.map_eq_some_iff.mp e
  cases e2
  exact ⟨w, ρ, h, k1, h1, S, E, e1, b⟩
def mAndT (m n : TI') : TI' := fun ρ h => match m ρ h with
  | some (true, h1) => n ρ h1
  | r => r
def mOrT (m n : TI') : TI' := fun ρ h => match m ρ h with
  | some (false, h1) => n ρ h1
  | r => r
theorem PW.imp {e : Expr} {t t' : TT} (p : PW X e t) (h : ∀ σ H Q, t' σ H Q → t σ H Q) : PW X e t' := ⟨fun wh pins s σ H Q I q => p.run wh pins s σ H Q I (h σ H Q q)⟩
theorem t_and1 {a : Expr} {m : TI'} {pos : Pos} (h : PT X a (rT X.mg m)) : PW X (.BoolOp .And [a] pos) (rT X.mg m) := pw_and1 h
theorem t_or1 {a : Expr} {m : TI'} {pos : Pos} (h : PT X a (rT X.mg m)) : PW X (.BoolOp .Or [a] pos) (rT X.mg m) := pw_or1 h
theorem t_and {a b : Expr} {rest : List Expr} {m n : TI'} {pos : Pos} (ha : PT X a (rT X.mg m)) (hb : PW X (.BoolOp .And (b :: rest) pos) (rT X.mg n)) : PW X (.BoolOp .And (a :: b :: rest) pos) (rT X.mg (mAndT m n)) :=
  PW.imp (pw_and ha hb) fun σ H Q ⟨w, ρ, h, k, h', S, E, e, b⟩ => by
    unfold mAndT at e
    split at e
    · rename_i h1 e1
      exact ⟨w, ρ, h, true, h1, S, E, e1, fun w1 H1 l1 S1 => iteT ⟨w1, ρ, h1, k, h', S1, E.mono l1, e, fun w2 H2 l2 S2 => b w2 H2 (l1.trans l2) S2⟩⟩
    · rename_i ne
      refine ⟨w, ρ, h, k, h', S, E, e, fun w1 H1 l1 S1 => ?_⟩
      cases k with
      | true => exact absurd e (ne h')
      | false => exact iteF (b w1 H1 l1 S1)
theorem t_or {a b : Expr} {rest : List Expr} {m n : TI'} {pos : Pos} (ha : PT X a (rT X.mg m)) (hb : PW X (.BoolOp .Or (b :: rest) pos) (rT X.mg n)) : PW X (.BoolOp .Or (a :: b :: rest) pos) (rT X.mg (mOrT m n)) :=
  PW.imp (pw_or ha hb) fun σ H Q ⟨w, ρ, h, k, h', S, E, e, b⟩ => by
    unfold mOrT at e
    split at e
    · rename_i h1 e1
      exact ⟨w, ρ, h, false, h1, S, E, e1, fun w1 H1 l1 S1 => iteF ⟨w1, ρ, h1, k, h', S1, E.mono l1, e, fun w2 H2 l2 S2 => b w2 H2 (l1.trans l2) S2⟩⟩
    · rename_i ne
      refine ⟨w, ρ, h, k, h', S, E, e, fun w1 H1 l1 S1 => ?_⟩
      cases k with
      | false => exact absurd e (ne h')
      | true => exact iteT (b w1 H1 l1 S1)
/-- and, or, not as values -/
def mAnd (m n : EI) : EI := fun ρ h => match m ρ h with
  | some (x, h1) => match truthA x h1 with
    | some true => n ρ h1
    | some false => some (x, h1)
    | none => none
  | none => none
def mOr (m n : EI) : EI := fun ρ h => match m ρ h with
  | some (x, h1) => match truthA x h1 with
    | some false => n ρ h1
    | some true => some (x, h1)
    | none => none
  | none => none
theorem e_one {op} {a : Expr} {m : EI} {pos : Pos} (h : PE X a (rE X.mg m)) : PE X (.BoolOp op [a] pos) (rE X.mg m) := pe_one h
theorem e_and {a b : Expr} {rest : List Expr} {m n : EI} {pos : Pos} (ha : PE X a (rE X.mg m)) (hb : PE X (.BoolOp .And (b :: rest) pos) (rE X.mg n)) : PE X (.BoolOp .And (a :: b :: rest) pos) (rE X.mg (mAnd m n)) :=
  PE.imp (pe_andT ha hb) fun σ H Q ⟨w, ρ, h, k, h', S, E, e, b⟩ => by
    unfold mAnd at e
    split at e
    · rename_i x h1 e1
      split at e
      · rename_i et
        exact ⟨w, ρ, h, x, h1, S, E, e1, fun w1 H1 v l1 S1 r1 => ⟨true, truthA_rel S1 r1 et, iteT ⟨w1, ρ, h1, k, h', S1, E.mono l1, e, b.le l1⟩⟩⟩
      · rename_i et
        cases e
        exact ⟨w, ρ, h, k, h', S, E, e1, fun w1 H1 v l1 S1 r1 => ⟨false, truthA_rel S1 r1 et, iteF (b w1 H1 v l1 S1 r1)⟩⟩
      · cases e
    · cases e
theorem e_or {a b : Expr} {rest : List Expr} {m n : EI} {pos : Pos} (ha : PE X a (rE X.mg m)) (hb : PE X (.BoolOp .Or (b :: rest) pos) (rE X.mg n)) : PE X (.BoolOp .Or (a :: b :: rest) pos) (rE X.mg (mOr m n)) :=
  PE.imp (pe_orT ha hb) fun σ H Q ⟨w, ρ, h, k, h', S, E, e, b⟩ => by
    unfold mOr at e
    split at e
    · rename_i x h1 e1
      split at e
      · rename_i et
        exact ⟨w, ρ, h, x, h1, S, E, e1, fun w1 H1 v l1 S1 r1 => ⟨false, truthA_rel S1 r1 et, iteF ⟨w1, ρ, h1, k, h', S1, E.mono l1, e, b.le l1⟩⟩⟩
      · rename_i et
        cases e
        exact ⟨w, ρ, h, k, h', S, E, e1, fun w1 H1 v l1 S1 r1 => ⟨true, truthA_rel S1 r1 et, iteT (b w1 H1 v l1 S1 r1)⟩⟩
      · cases e
    · cases e
def mNot (m : EI) : EI := fun ρ h => match m ρ h with
  | some (x, h1) => (truthA x h1).map fun k => (.d (.bl !k), h1)
  | none => none
theorem e_not {a : Expr} {m : EI} {pos : Pos} (h : PE X a (rE X.mg m)) : PE X (.UnaryOp .Not a pos) (rE X.mg (mNot m)) := PE.imp (pe_notT h) fun σ H Q ⟨w, ρ, h, k, h', S, E, e, b⟩ => by
  unfold mNot at e
  split at e
  · rename_i x h1 e1
    obtain ⟨k', h2, h3⟩ := Option.map_eq_some_iff.mp e
    cases h3
    exact ⟨w, ρ, h, x, h', S, E, e1, fun w1 H1 v l1 S1 r1 => ⟨k', truthA_rel S1 r1 h2, b w1 H1 _ l1 S1 (.d (.bl _))⟩⟩
  · cases e
theorem e_if {c a b : Expr} {mc : TI'} {ma mb : EI} {pos : Pos} (hc : PT X c (rT X.mg mc)) (ha : PE X a (rE X.mg ma)) (hb : PE X b (rE X.mg mb)) : PE X (.IfExp c a b pos) (rE X.mg (mIf mc ma mb)) :=
  PE.imp (pe_ifExp hc ha hb) fun σ H Q ⟨w, ρ, h, k, h', S, E, e, b⟩ => by
    unfold mIf at e
    split at e
    · rename_i h1 e1
      exact ⟨w, ρ, h, true, h1, S, E, e1, fun w1 H1 l1 S1 => iteT ⟨w1, ρ, h1, k, h', S1, E.mono l1, e, b.le l1⟩⟩
    · rename_i h1 e1
      exact ⟨w, ρ, h, false, h1, S, E, e1, fun w1 H1 l1 S1 => iteF ⟨w1, ρ, h1, k, h', S1, E.mono l1, e, b.le l1⟩⟩
    · cases e
/-! arguments, displays -/
theorem a_nil : PA X [] (rA X.mg mNil) := PA.imp pa_nil fun σ H Q ⟨w, ρ, h, k, h', S, E, e, b⟩ => by
  cases e
  exact b w H [] .rfl S .nil
theorem a_cons {e : Expr} {es : List Expr} {m : EI} {r : AI} (ha : PE X e (rE X.mg m)) (hr : PA X es (rA X.mg r)) (hs : starEach (e :: es) X.env = (false, eval e X.env) :: starEach es X.env := by rfl) : PA X (e :: es) (rA X.mg (mCons m r)) :=
  PA.imp (pa_cons ha hr hs) fun σ H Q ⟨w, ρ, h, k, h', S, E, e, b⟩ => by
    unfold mCons at e
    split at e
    · rename_i x h1 e1
      split at e
      · rename_i xs h2 e2
        cases e
        exact ⟨w, ρ, h, x, h1, S, E, e1, fun w1 H1 v l1 S1 r1 => ⟨w1, ρ, h1, xs, h', S1, E.mono l1, e2, fun w2 H2 vs l2 S2 r2 => b w2 H2 _ (l1.trans l2) S2 (.cons (r1.mono l2) r2)⟩⟩
      · cases e
    · cases e
theorem e_lst (cell : Bool) {es : List Expr} {m : AI} {pos : Pos} (h : PA X es (rA X.mg m)) : PE X (.List es pos) (rE X.mg (mOn (mkL cell) m)) := PE.imp (pe_lst h) fun σ H Q q => by
  obtain ⟨w, ρ, h, as, h', S, E, e, k⟩ := on_split (X := X) q
  refine ⟨w, ρ, h, as, h', S, E, e, fun w1 H1 vs l1 S1 r1 => ?_⟩
  obtain ⟨w2, h2, xs, a, h3, S2, r2, e2, b⟩ := k w1 H1 vs l1 S1 r1
  exact mkL_ok S2 r2 e2 b
theorem e_tup {es : List Expr} {m : AI} {x1} {pos : Pos} (h : PA X es (rA X.mg m)) : PE X (.Tuple es x1 pos) (rE X.mg (mOn mkT m)) := PE.imp (pe_tup h) fun σ H Q q => by
  obtain ⟨w, ρ, h, as, h', S, E, e, k⟩ := on_split (X := X) q
  refine ⟨w, ρ, h, as, h', S, E, e, fun w1 H1 vs l1 S1 r1 => ?_⟩
  obtain ⟨w2, h2, xs, a, h3, S2, r2, e2, b⟩ := k w1 H1 vs l1 S1 r1
  exact mkT_ok S2 r2 e2 b
/-- {} -/
def mDnewK (cell : Bool) : EI := fun _ h => if cell then some (.ref h.length, h ++ [.dK []]) else some (.d (.dK []), h)
theorem e_dnewK (cell : Bool) {pos : Pos} : PE X (.Dict [] [] pos) (rE X.mg (mDnewK cell)) := PE.imp pe_dnewK fun σ H Q ⟨w, ρ, h, k, h', S, E, e, b⟩ p hp => by
  unfold mDnewK at e
  cases cell with
  | true =>
    cases e
    refine b (w.cell p) _ _ S.le_cell (S.new hp (.dK upd_same .nil)) (.ref ?_)
    show (w.phi_ ++ [p])[h.length]? = some p
    rw [← S.len]; simp
  | false =>
    cases e
    refine b (w.pure p _) _ _ (S.le_pure hp) (S.pure hp) (.d (.dK (ks := []) ?_ .nil))
    show (if p = p then _ else _) = _
    rw [if_pos rfl]
def mDnewT : EI := fun _ h => some (.ref h.length, h ++ [.dT []])
theorem e_dnewT {pos : Pos} : PE X (.Dict [] [] pos) (rE X.mg mDnewT) := PE.imp pe_dnewT fun σ H Q ⟨w, ρ, h, k, h', S, E, e, b⟩ p hp => by
  cases e
  refine b (w.cell p) _ _ S.le_cell (S.new hp (.dT upd_same .nil)) (.ref ?_)
  show (w.phi_ ++ [p])[h.length]? = some p
  rw [← S.len]; simp
/-! subscripts -/
theorem RelAs.get {mg : Mg} {w : Wd} : ∀ {as : List A} {vs : List V}, RelAs mg w as vs → ∀ {i : Nat} {a : A}, as[i]? = some a → ∃ v, vs[i]? = some v ∧ RelA mg w a v
  | _, _, .nil, i, a, e => by simp at e
  | _, _, .cons h t, 0, a, e => by simp at e; subst e; exact ⟨_, rfl, h⟩
  | _, _, .cons h t, i + 1, a, e => by simpa using RelAs.get t (i := i) (by simpa using e)
theorem RelAs.atI {mg : Mg} {w : Wd} {as : List A} {vs : List V} (r : RelAs mg w as vs) {i : Int} {a : A} (e : L2.atI as i = some a) : ∃ v, L2.atI vs i = some v ∧ RelA mg w a v := by
  unfold L2.atI at e ⊢
  rw [r.length] at e
  cases q : ixN vs.length i with
  | none => rw [q] at e; cases e
  | some j => rw [q] at e; exact r.get e
def fIxS : A → A → Hh → Option (A × Hh) := fun x y h => match y with
  | .d (.int i) => match itemsL x h with
    | some xs => (L2.atI xs i).map fun a => (a, h)
    | none => match x with
      | .d (.tup xs) => (L2.atI (xs.map A.d) i).map fun a => (a, h)
      | .d (.tupN xs) => (L2.atI (xs.map A.d) i).map fun a => (a, h)
      | .d (.scr ns) => (L2.atI ns i).map fun n => (.d (.int n), h)
      | .d (.str z) => if z.length ≤ LIM then (L2.atI z.cps.toList i).map fun c => (.d (.str ⟨#[c]⟩), h) else none
      | _ => none
  | _ => none
theorem atI_map {α β : Type} (f : α → β) (xs : List α) (i : Int) : L2.atI (xs.map f) i = (L2.atI xs i).map f := by
  unfold L2.atI
  rw [List.length_map]
  cases ixN xs.length i with
  | none => rfl
  | some j => simp
theorem ix_seqI : IxR X fun vx vy H Q => ∃ w h x y a h', Sm X.mg w H h ∧ RelA X.mg w x vx ∧ RelA X.mg w y vy ∧ fIxS x y h = some (a, h') ∧ Bh X.mg w h' a Q := by
  intro value slice pins s σ H vx vy v u Q I rx ry ⟨w, h, x, y, a, h', S, r1, r2, e, b⟩ hs
  refine ix_seq value slice pins s σ H vx vy v u Q I rx ry ?_ hs
  unfold fIxS at e
  split at e
  · rename_i i
    cases r2 with
    | d r2 =>
      cases r2
      split at e
      · rename_i xs ex
        obtain ⟨a', e1, e2⟩ := Option.map_eq_some_iff.mp e
        cases e2
        obtain ⟨p, vs, rfl, hp, rp⟩ := itemsL_rel S r1 ex
        obtain ⟨v, hv, rv⟩ := rp.atI e1
        exact .inl ⟨p, vs, i, v, rfl, rfl, SqL.of hp, hv, b w H v .rfl S rv⟩
      · split at e
        · rename_i _ xs _
          obtain ⟨a', e1, e2⟩ := Option.map_eq_some_iff.mp e
          cases e2
          obtain ⟨p, vs, rfl, hp, rp⟩ := itemsT_rel S r1 (xs := xs.map A.d) rfl
          obtain ⟨v, hv, rv⟩ := rp.atI e1
          exact .inr (.inl ⟨p, vs, i, v, rfl, rfl, sqT_rd hp, hv, b w H v .rfl S rv⟩)
        · rename_i _ xs _
          obtain ⟨a', e1, e2⟩ := Option.map_eq_some_iff.mp e
          cases e2
          obtain ⟨p, vs, rfl, hp, rp⟩ := itemsT_rel S r1 (xs := xs.map A.d) rfl
          obtain ⟨v, hv, rv⟩ := rp.atI e1
          exact .inr (.inl ⟨p, vs, i, v, rfl, rfl, sqT_rd hp, hv, b w H v .rfl S rv⟩)
        · rename_i ns
          obtain ⟨n, e1, e2⟩ := Option.map_eq_some_iff.mp e
          cases e2
          cases r1 with
          | d r1 =>
            cases r1 with
            | scr q => exact .inl ⟨_, _, i, .int n, rfl, rfl, .inl (.inr ⟨_, by
                rcases S.fz _ _ q with z | ⟨ob, z⟩
                · exact z
                · exact (S.st _ _ q True.intro)⟩), by rw [atI_map, e1]; rfl, b w H _ .rfl S (.d (.int n))⟩
        · rename_i _ z _
          split at e
          · rename_i hz
            obtain ⟨c, e1, e2⟩ := Option.map_eq_some_iff.mp e
            cases e2
            cases r1 with
            | d r1 => cases r1; exact .inr (.inr ⟨z, i, c, rfl, rfl, lim_size hz, e1, b w H _ .rfl S (.d (.str _))⟩)
          · cases e
        · cases e
  · cases e
def fIxK : A → A → Hh → Option (A × Hh) := fun x y h => match tabOf x h with
  | some T => match dget T y with
    | some (some a) => some (a, h)
    | _ => none
  | none => none
theorem ix_dictI (hu : X.A.units + 1 < cLine) : IxR X fun vx vy H Q => ∃ w h x y a h', Sm X.mg w H h ∧ RelA X.mg w x vx ∧ RelA X.mg w y vy ∧ fIxK x y h = some (a, h') ∧ Bh X.mg w h' a Q := by
  intro value slice pins s σ H vx vy v u Q I rx ry ⟨w, h, x, y, a, h', S, r1, r2, e, b⟩ hs
  unfold fIxK at e
  split at e
  · rename_i T et
    split at e
    · rename_i a' ea
      cases e
      obtain ⟨p, rfl, tr⟩ := tabOf_rel S r1 et
      obtain ⟨ov, g, hov⟩ := dget_rel S tr r2 ea
      rcases hov with ⟨z, _⟩ | ⟨x', v', z, rfl, rv⟩
      · cases z
      · cases z
        cases rx
        refine tail_any (dict_typeIs I g) PySem.F.slot_dict_getitem.lookup ?_ hs
        exact d_getItem hu I g ry fun w' s3 I3 rw' => ⟨v', H, I3, rw', b w H v' .rfl S rv⟩
    · cases e
  · cases e
def fIx : A → A → Hh → Option (A × Hh) := orF fIxS fIxK
theorem ixI (hu : X.A.units + 1 < cLine) : IxR X fun vx vy H Q => ∃ w h x y a h', Sm X.mg w H h ∧ RelA X.mg w x vx ∧ RelA X.mg w y vy ∧ fIx x y h = some (a, h') ∧ Bh X.mg w h' a Q := by
  intro value slice pins s σ H vx vy v u Q I rx ry ⟨w, h, x, y, a, h', S, r1, r2, e, b⟩ hs
  unfold fIx orF at e
  split at e
  · rename_i r q
    cases e
    exact ix_seqI value slice pins s σ H vx vy v u Q I rx ry ⟨w, h, x, y, a, h', S, r1, r2, q, b⟩ hs
  · exact ix_dictI hu value slice pins s σ H vx vy v u Q I rx ry ⟨w, h, x, y, a, h', S, r1, r2, e, b⟩ hs
theorem e_ix (hu : X.A.units + 1 < cLine) {a b : Expr} {ma mb : EI} {pos : Pos} (ha : PE X a (rE X.mg ma)) (hb : PE X b (rE X.mg mb)) (hs : PlainIx b := by exact fun _ _ => rfl) : PE X (.Subscript a b pos) (rE X.mg (mBin fIx ma mb)) :=
  PE.imp (pe_ix (ixI hu) ha hb hs) fun σ H Q q => bin_split q
end
end F2
set_option Elab.async false
set_option linter.all false
set_option maxRecDepth 100000
set_option maxHeartbeats 4000000
namespace F2
open PySem PySem.Spec PyProof.Rows L2
/-! ### what a def does -/
abbrev FnI := List A → Hh → Option (A × Hh)
def spI (mg : Mg) (n : Nat) (F : FnI) : Sp := fun vs H Q _ => vs.length = n ∧ ∃ w h as a h', Sm mg w H h ∧ RelAs mg w as vs ∧ F as h = some (a, h') ∧ Bh mg w h' a Q
abbrev Ok (P : Program) (w : World) (K : PySem.W.Frag) (mg : Mg) (base : Heap) (k : Nat) (f : Addr) (fd : FuncData) (ps : List Str) (F : FnI) : Prop := FnOk P w K mg base CX0 k f fd ps (spI mg ps.length F)
inductive Out where
  | nx (ρ : En) (h : Hh) | rt (a : A) (h : Hh) | bk (ρ : En) (h : Hh) | ct (ρ : En) (h : Hh)
abbrev SI := En → Hh → Option Out
def BhE (mg : Mg) (w : Wd) (ρ' : En) (h' : Hh) (Q : L2.St → Hp → Prop) : Prop := ∀ w' H' σ', w.le w' → Sm mg w' H' h' → EnvOk mg w' ρ' σ' → Q σ' H'
def BhS (mg : Mg) (w : Wd) (D : Ends) : Out → Prop
  | .nx ρ h => BhE mg w ρ h D.nx
  | .rt a h => Bh mg w h a D.rt
  | .bk ρ h => BhE mg w ρ h D.bk
  | .ct ρ h => BhE mg w ρ h D.ct
theorem BhE.le {mg : Mg} {w w1 : Wd} {ρ' : En} {h' : Hh} {Q : L2.St → Hp → Prop} (b : BhE mg w ρ' h' Q) (l : w.le w1) : BhE mg w1 ρ' h' Q := fun w2 H2 σ2 l2 => b w2 H2 σ2 (l.trans l2)
theorem BhS.le {mg : Mg} {w w1 : Wd} {D : Ends} {o : Out} (b : BhS mg w D o) (l : w.le w1) : BhS mg w1 D o := by
  cases o with
  | nx _ _ => exact BhE.le b l
  | rt _ _ => exact Bh.le b l
  | bk _ _ => exact BhE.le b l
  | ct _ _ => exact BhE.le b l
def rS (mg : Mg) (m : SI) : TS := fun D σ H => ∃ w ρ h o, Sm mg w H h ∧ EnvOk mg w ρ σ ∧ m ρ h = some o ∧ BhS mg w D o
theorem PS.imp {X : Cx} {e : Stmt} {t t' : TS} (p : PS X e t) (h : ∀ D σ H, t' D σ H → t D σ H) : PS X e t' := ⟨fun pins s σ H D I q => p.run pins s σ H D I (h D σ H q)⟩
theorem PSs.imp {X : Cx} {e : List Stmt} {t t' : TS} (p : PSs X e t) (h : ∀ D σ H, t' D σ H → t D σ H) : PSs X e t' := ⟨fun pins s σ H D I q => p.run pins s σ H D I (h D σ H q)⟩
def mSkip : SI := fun ρ h => some (.nx ρ h)
def mSeq (m n : SI) : SI := fun ρ h => match m ρ h with
  | some (.nx ρ1 h1) => n ρ1 h1
  | r => r
def mStuck : SI := fun _ _ => none
def mRet (m : EI) : SI := fun ρ h => match m ρ h with
  | some (a, h1) => some (.rt a h1)
  | none => none
def mRetN : SI := fun _ h => some (.rt (.d .non) h)
def mDrop (m : EI) : SI := fun ρ h => match m ρ h with
  | some (_, h1) => some (.nx ρ h1)
  | none => none
def mIfS (c : TI') (a b : SI) : SI := fun ρ h => match c ρ h with
  | some (true, h1) => a ρ h1
  | some (false, h1) => b ρ h1
  | none => none
def mBrk : SI := fun ρ h => some (.bk ρ h)
def mCnt : SI := fun ρ h => some (.ct ρ h)
/-! targets -/
abbrev GI := A → En → Hh → Option (En × Hh)
def rG (mg : Mg) (g : GI) : TG := fun v σ H Q => ∃ w ρ h a ρ' h', Sm mg w H h ∧ EnvOk mg w ρ σ ∧ RelA mg w a v ∧ g a ρ h = some (ρ', h') ∧ BhE mg w ρ' h' Q
def gN (i : Nat) : GI := fun a ρ h => some (ρ.set i (some a), h)
abbrev GsI := List A → En → Hh → Option (En × Hh)
def rGs (mg : Mg) (g : GsI) : TGs := fun vs σ H Q => ∃ w ρ h as ρ' h', Sm mg w H h ∧ EnvOk mg w ρ σ ∧ RelAs mg w as vs ∧ g as ρ h = some (ρ', h') ∧ BhE mg w ρ' h' Q
def gsNil : GsI := fun as ρ h => match as with
  | [] => some (ρ, h)
  | _ => none
def gsCons (g : GI) (r : GsI) : GsI := fun as ρ h => match as with
  | a :: as => match g a ρ h with
    | some (ρ1, h1) => r as ρ1 h1
    | none => none
  | [] => none
def gT (n : Nat) (g : GsI) : GI := fun a ρ h => match itemsT a with
  | some xs => if xs.length = n then g xs ρ h else none
  | none => none
def mAsg (m : EI) (g : GI) : SI := fun ρ h => match m ρ h with
  | some (a, h1) => match g a ρ h1 with
    | some (ρ2, h2) => some (.nx ρ2 h2)
    | none => none
  | none => none
section
variable {X : Cx}
theorem s_nil : PSs X [] (rS X.mg mSkip) := PSs.imp pss_nil fun D σ H ⟨w, ρ, h, o, S, E, e, b⟩ => by
  cases e
  exact b w H σ .rfl S E
theorem s_cons {st : Stmt} {rest : List Stmt} {m n : SI} (h1 : PS X st (rS X.mg m)) (h2 : PSs X rest (rS X.mg n)) : PSs X (st :: rest) (rS X.mg (mSeq m n)) := PSs.imp (pss_cons h1 h2) fun D σ H ⟨w, ρ, h, o, S, E, e, b⟩ => by
  unfold mSeq at e
  split at e
  · rename_i ρ1 hh1 e1
    exact ⟨w, ρ, h, _, S, E, e1, fun w1 H1 σ1 l1 S1 E1 => ⟨w1, ρ1, hh1, o, S1, E1, e, b.le l1⟩⟩
  · rename_i ne
    refine ⟨w, ρ, h, o, S, E, e, ?_⟩
    cases o with
    | nx ρ1 hh1 => exact absurd e (ne ρ1 hh1)
    | rt _ _ => exact b
    | bk _ _ => exact b
    | ct _ _ => exact b
theorem s_one {st : Stmt} {m : SI} (h1 : PS X st (rS X.mg m)) : PSs X [st] (rS X.mg m) := pss_one h1
theorem s_stuck {st : Stmt} : PS X st (rS X.mg mStuck) := PS.imp ps_never fun D σ H ⟨w, ρ, h, o, S, E, e, b⟩ => by cases e
theorem s_pass {pos : Pos} : PS X (.Pass pos) (rS X.mg mSkip) := PS.imp ps_pass fun D σ H ⟨w, ρ, h, o, S, E, e, b⟩ => by
  cases e
  exact b w H σ .rfl S E
theorem s_brk {pos : Pos} : PS X (.Break pos) (rS X.mg mBrk) := PS.imp ps_break fun D σ H ⟨w, ρ, h, o, S, E, e, b⟩ => by
  cases e
  exact b w H σ .rfl S E
theorem s_cnt {pos : Pos} : PS X (.Continue pos) (rS X.mg mCnt) := PS.imp ps_continue fun D σ H ⟨w, ρ, h, o, S, E, e, b⟩ => by
  cases e
  exact b w H σ .rfl S E
theorem s_ret {e : Expr} {m : EI} {pos : Pos} (he : PE X e (rE X.mg m)) : PS X (.Return (some e) pos) (rS X.mg (mRet m)) := PS.imp (ps_ret he) fun D σ H ⟨w, ρ, h, o, S, E, e, b⟩ => by
  unfold mRet at e
  split at e
  · rename_i a h1 e1
    cases e
    exact ⟨w, ρ, h, a, h1, S, E, e1, b⟩
  · cases e
theorem s_retN {pos : Pos} : PS X (.Return none pos) (rS X.mg mRetN) := PS.imp ps_retN fun D σ H ⟨w, ρ, h, o, S, E, e, b⟩ => by
  cases e
  exact b w H _ .rfl S (.d .non)
theorem s_expr {e : Expr} {m : EI} {pos : Pos} (he : PE X e (rE X.mg m)) (hs : swapsWith e none pos.line X.env = pure false := by rfl) : PS X (.Expr e pos) (rS X.mg (mDrop m)) := PS.imp (ps_expr he hs) fun D σ H ⟨w, ρ, h, o, S, E, e, b⟩ => by
  unfold mDrop at e
  split at e
  · rename_i a h1 e1
    cases e
    exact ⟨w, ρ, h, a, h1, S, E, e1, fun w1 H1 v l1 S1 r1 => b w1 H1 σ l1 S1 (E.mono l1)⟩
  · cases e
theorem s_if {c : Expr} {a b : List Stmt} {mc : TI'} {ma mb : SI} {pos : Pos} (hc : PT X c (rT X.mg mc)) (ha : PSs X a (rS X.mg ma)) (hb : PSs X b (rS X.mg mb)) : PS X (.If c a b pos) (rS X.mg (mIfS mc ma mb)) :=
  PS.imp (ps_if hc ha hb) fun D σ H ⟨w, ρ, h, o, S, E, e, b⟩ => by
    unfold mIfS at e
    split at e
    · rename_i h1 e1
      exact ⟨w, ρ, h, true, h1, S, E, e1, fun w1 H1 l1 S1 => iteT ⟨w1, ρ, h1, o, S1, E.mono l1, e, b.le l1⟩⟩
    · rename_i h1 e1
      exact ⟨w, ρ, h, false, h1, S, E, e1, fun w1 H1 l1 S1 => iteF ⟨w1, ρ, h1, o, S1, E.mono l1, e, b.le l1⟩⟩
    · cases e
/-! targets -/
theorem PG.imp {e : Expr} {t t' : TG} (p : PG X e t) (h : ∀ v σ H Q, t' v σ H Q → t v σ H Q) : PG X e t' := ⟨fun pins s σ H v u Q I r q => p.run pins s σ H v u Q I r (h v σ H Q q)⟩
theorem PGs.imp {e : List Expr} {t t' : TGs} (p : PGs X e t) (h : ∀ v σ H Q, t' v σ H Q → t v σ H Q) : PGs X e t' := ⟨fun pins s σ H v u Q I r q => p.run pins s σ H v u Q I r (h v σ H Q q)⟩
theorem g_name (i : Nat) {x : Str} {pos : Pos} (hN : X.N.Nodup) (hi : X.N[i]? = some x := by rfl) (hx : Loc X.env.scope x := by first | exact Or.inl rfl | exact Or.inr rfl)
    (hf : X.fn x = true ∨ X.env.scope.names.lookup x = some .local := by first | exact .inl rfl | exact .inr rfl | assumption) : PG X (.Name x pos) (rG X.mg (gN i)) :=
  PG.imp (pg_name hN hi hx hf) fun v σ H Q ⟨w, ρ, h, a, ρ', h', S, E, r, e, b⟩ => by
    cases e
    exact b w H _ .rfl S (E.set r)
theorem gs_nil : PGs X [] (rGs X.mg gsNil) := PGs.imp pgs_nil fun v σ H Q ⟨w, ρ, h, a, ρ', h', S, E, r, e, b⟩ => by
  unfold gsNil at e
  split at e
  · cases e
    cases r
    exact ⟨rfl, b w H _ .rfl S E⟩
  · cases e
theorem gs_cons {e : Expr} {es : List Expr} {g : GI} {gs : GsI} (h1 : PG X e (rG X.mg g)) (h2 : PGs X es (rGs X.mg gs))
    (hs : (assignEach (e :: es) X.env).map (·.2) = assign e X.env :: (assignEach es X.env).map (·.2) := by rfl) : PGs X (e :: es) (rGs X.mg (gsCons g gs)) :=
  PGs.imp (pgs_cons h1 h2 hs) fun v σ H Q ⟨w, ρ, h, a, ρ', h', S, E, r, e, b⟩ => by
    unfold gsCons at e
    split at e
    · rename_i x as
      split at e
      · rename_i ρ1 h1 e1
        cases r with
        | cons r t => exact ⟨_, _, rfl, w, ρ, h, x, ρ1, h1, S, E, r, e1, fun w1 H1 σ1 l1 S1 E1 => ⟨w1, ρ1, h1, as, ρ', h', S1, E1, t.mono l1, e, b.le l1⟩⟩
      · cases e
    · cases e
theorem g_tup {es : List Expr} {k : Nat} {pos : Pos} {gs : GsI} {n : Nat} (hc : X.calm = true) (h : PGs X es (rGs X.mg gs)) (hn : (assignEach es X.env).length = n := by rfl) (hst : (assignEach es X.env).findIdx? (·.1) = none := by rfl) :
    PG X (.Tuple es k pos) (rG X.mg (gT n gs)) := PG.imp (pg_tup hc h hn hst) fun v σ H Q ⟨w, ρ, h, a, ρ', h', S, E, r, e, b⟩ => by
  unfold gT at e
  split at e
  · rename_i xs ex
    split at e
    · rename_i hl
      obtain ⟨p, vs, rfl, hp, rp⟩ := itemsT_rel S r ex
      exact ⟨p, vs, rfl, sqT_rd hp, by rw [← rp.length]; exact hl, w, ρ, h, xs, ρ', h', S, E, rp, e, b⟩
    · cases e
  · cases e
theorem asg_split {m : EI} {g : GI} {D : Ends} {σ : L2.St} {H : Hp} (q : rS X.mg (mAsg m g) D σ H) : rE X.mg m σ H fun v H1 => rG X.mg g v σ H1 D.nx := by
  obtain ⟨w, ρ, h, o, S, E, e, b⟩ := q
  unfold mAsg at e
  split at e
  · rename_i a h1 e1
    split at e
    · rename_i ρ2 h2 e2
      cases e
      exact ⟨w, ρ, h, a, h1, S, E, e1, fun w1 H1 v l1 S1 r1 => ⟨w1, ρ, h1, a, ρ2, h2, S1, E.mono l1, r1, e2, BhE.le b l1⟩⟩
    · cases e
  · cases e
theorem s_asg {tg e : Expr} {m : EI} {g : GI} {pos : Pos} (he : PE X e (rE X.mg m)) (hg : PG X tg (rG X.mg g)) (hs : swapsWithSole [tg] e pos.line X.env = pure false := by rfl) (hw : swappedStores [tg] e X.env = pure none := by rfl)
    (h1 : (assignEach [tg] X.env).map (·.2) = [assign tg X.env] := by rfl) : PS X (.Assign [tg] e pos) (rS X.mg (mAsg m g)) := PS.imp (ps_asg he hg hs hw h1) fun D σ H q => asg_split q
theorem s_set (i : Nat) {x : Str} {e : Expr} {m : EI} {pos pos' : Pos} (hN : X.N.Nodup) (he : PE X e (rE X.mg m)) (hi : X.N[i]? = some x := by rfl) (hx : Loc X.env.scope x := by first | exact Or.inl rfl | exact Or.inr rfl) (hs : swapsWith e (some (.Name x pos')) pos.line X.env = pure false := by rfl)
    (hf : X.fn x = true ∨ X.env.scope.names.lookup x = some .local := by first | exact .inl rfl | exact .inr rfl | assumption) : PS X (.Assign [.Name x pos'] e pos) (rS X.mg (mAsg m (gN i))) := PS.imp (ps_set hN hi hx he hs hf) fun D σ H q => by
  obtain ⟨w, ρ, h, a, h1, S, E, e1, k⟩ := asg_split (X := X) q
  refine ⟨w, ρ, h, a, h1, S, E, e1, fun w1 H1 v l1 S1 r1 => ?_⟩
  obtain ⟨w2, ρ2, h2, a2, ρ3, h3, S2, E2, r2, e2, b⟩ := k w1 H1 v l1 S1 r1
  cases e2
  exact b w2 H1 _ .rfl S2 (E2.set r2)
/-! a def by its body -/
mutual
def low (n : Nat) : A → Bool
  | .d _ => true
  | .ref l => decide (l < n)
  | .tp xs => lows n xs
def lows (n : Nat) : List A → Bool
  | [] => true
  | x :: xs => low n x && lows n xs
end
def lowO (n : Nat) : O → Bool
  | .lst xs => lows n xs
  | .dK kvs => kvs.all fun p => low n p.2
  | .dT kvs => kvs.all fun p => low n p.2
  | .lK kvs => kvs.all fun p => low n p.2
  | .lT kvs => kvs.all fun p => low n p.2
  | .ins _ fs => fs.all fun p => low n p.2
  | .dead => true
def cut (n : Nat) (a : A) (h : Hh) : A × Hh := if low n a && (h.take n).all (lowO n) then (a, h.take n) else (a, h)
def Wd.take (w : Wd) (n : Nat) : Wd := { w with phi_ := w.phi_.take n }
mutual
theorem low_rel {mg : Mg} {w : Wd} {n : Nat} : ∀ {a : A} {v : V}, low n a = true → RelA mg w a v → RelA mg (w.take n) a v
  | _, _, _, .d h => .d h
  | .ref l, _, e, .ref h => .ref (by
    have e' : decide (l < n) = true := by simpa [low] using e
    show (w.phi_.take n)[_]? = _; rw [List.getElem?_take_of_lt (of_decide_eq_true e')]; exact h)
  | .tp xs, _, e, .tp h r => .tp h (low_rels (by simpa [low] using e) r)
theorem low_rels {mg : Mg} {w : Wd} {n : Nat} : ∀ {a : List A} {v : List V}, lows n a = true → RelAs mg w a v → RelAs mg (w.take n) a v
  | _, _, _, .nil => .nil
  | x :: xs, _, e, .cons h t => by
    have e' : low n x = true ∧ lows n xs = true := by simpa [lows] using e
    exact .cons (low_rel e'.1 h) (low_rels e'.2 t)
end
theorem low_relk {mg : Mg} {w : Wd} {n : Nat} {κ : Type} : ∀ {a : List (κ × A)} {v : List (κ × V)}, (a.all fun p => low n p.2) = true → RelAk mg w a v → RelAk mg (w.take n) a v
  | _, _, _, .nil => .nil
  | _, _, l, .cons h t => by
    rw [List.all_cons, Bool.and_eq_true] at l
    exact .cons (low_rel l.1 h) (low_relk l.2 t)
theorem low_cell {mg : Mg} {w : Wd} {H : Hp} {a : Addr} {n : Nat} {o : O} (l : lowO n o = true) (c : CellOk mg w H a o) : CellOk mg (w.take n) H a o := by
  cases c with
  | lst h r => exact .lst h (low_rels l r)
  | dK h r => exact .dK h (low_relk l r)
  | dT h r => exact .dT h (low_relk l r)
  | lK h r => exact .lK h (low_relk l r)
  | lT h r => exact .lT h (low_relk l r)
  | ins hc h r => exact .ins hc h (low_relk l r)
  | dead => exact .dead
theorem take_get {α : Type} {l : List α} {n i : Nat} {x : α} (e : (l.take n)[i]? = some x) : l[i]? = some x ∧ i < n := by
  have hi := (List.getElem?_eq_some_iff.mp e).1
  rw [List.length_take] at hi
  rw [List.getElem?_take_of_lt (by omega)] at e
  exact ⟨e, by omega⟩
theorem Sm.take {mg : Mg} {w : Wd} {H : Hp} {h : Hh} (S : Sm mg w H h) {n : Nat} (l : (h.take n).all (lowO n) = true) : Sm mg (w.take n) H (h.take n) where
  fz := S.fz
  len := by show (w.phi_.take n).length = _; rw [List.length_take, List.length_take, S.len]
  nd := fun i j a q r => S.nd i j a (take_get q).1 (take_get r).1
  th := fun i a q => S.th i a (take_get q).1
  nf := fun i a o q r => S.nf i a o (take_get q).1 (take_get r).1
  cell := fun i a o q r => low_cell (List.all_eq_true.mp l o (List.mem_of_getElem? r)) (S.cell i a o (take_get q).1 (take_get r).1)
  ow := fun a o q => ⟨(S.ow a o q).1, (S.ow a o q).2.1, fun i z => (S.ow a o q).2.2 i (take_get z).1⟩
  lk := fun a o q => ⟨(S.lk a o q).1, fun i z => by rw [List.getElem?_take_of_lt (take_get z).2]; exact (S.lk a o q).2 i (take_get z).1⟩
  st := S.st
theorem cut_ok {mg : Mg} {w : Wd} {h h' : Hh} {H : Hp} (S : Sm mg w H h) {a : A} {Q : VK} (b : Bh mg w (cut h.length a h').2 (cut h.length a h').1 Q) : Bh mg w h' a Q := fun w1 H1 v l1 S1 r1 => by
  unfold cut at b
  split at b
  · rename_i c
    rw [Bool.and_eq_true] at c
    refine b (w1.take h.length) H1 v ⟨⟨l1.fz, l1.lk, fun i x q => ?_⟩, l1.ow⟩ (S1.take c.2) (low_rel c.1 r1)
    have hi : i < h.length := by rw [← S.len]; exact (List.getElem?_eq_some_iff.mp q).1
    show (w1.phi_.take h.length)[i]? = some x
    rw [List.getElem?_take_of_lt hi]; exact l1.phi_ i x q
  · exact b w1 H1 v l1 S1 r1
/-- a def: so many parameters, so many slots, its body -/
def mkFn (np ns : Nat) (body : SI) : FnI := fun as h => if as.length = np then
    match body (as.map some ++ List.replicate (ns - np) none) h with
    | some (.nx _ h') => some (cut h.length (.d .non) h')
    | some (.rt a h') => some (cut h.length a h')
    | _ => none
  else none
theorem RelAs.some_get {mg : Mg} {w : Wd} {as : List A} {vs : List V} (r : RelAs mg w as vs) {n : Nat} : EnvOk mg w (as.map some ++ List.replicate n none) (vs.map some ++ List.replicate n none) := by
  refine ⟨by simp [r.length], fun i a e => ?_⟩
  by_cases hi : i < as.length
  · rw [List.getElem?_append_left (by simpa using hi), List.getElem?_map] at e
    cases q : as[i]? with
    | none => rw [q] at e; cases e
    | some x =>
      rw [q] at e
      cases e
      obtain ⟨v, h1, h2⟩ := r.get q
      exact ⟨v, by rw [List.getElem?_append_left (by rw [List.length_map, ← r.length]; exact hi), List.getElem?_map, h1]; rfl, h2⟩
  · rw [List.getElem?_append_right (by simp; omega), List.getElem?_replicate] at e
    split at e <;> cases e
theorem fn_body {mg : Mg} {np ns : Nat} {N ps : List Str} (hp : ps.length = np) (hN : N.length = ns) {m : SI} {vs : List V} {H : Hp} {Q : VK} {E : XK} (q : spI mg ps.length (mkFn np ns m) vs H Q E) :
    rS mg m { nx := fun _ H' => Q .non H', rt := Q } (L2.start N vs) H := by
  obtain ⟨hl, w, h, as, a, h', S, r, e, b⟩ := q
  unfold mkFn at e
  have hla : as.length = np := by rw [r.length, hl, hp]
  rw [if_pos hla] at e
  have Eo : EnvOk mg w (as.map some ++ List.replicate (ns - np) none) (L2.start N vs) := by
    unfold L2.start
    rw [hN, hl, hp]
    exact r.some_get
  split at e
  · rename_i ρ' h2 e2
    refine ⟨w, _, h, _, S, Eo, e2, fun w1 H1 σ1 l1 S1 E1 => ?_⟩
    have q : Bh mg w h2 (.d .non) Q := cut_ok S (by injection e with e; rw [e]; exact b)
    exact q w1 H1 _ l1 S1 (.d .non)
  · rename_i a2 h2 e2
    refine ⟨w, _, h, _, S, Eo, e2, ?_⟩
    exact cut_ok S (by injection e with e; rw [e]; exact b)
  · cases e
end
section
variable {P : Program} {w : World} {K : PySem.W.Frag} {mg : Str → Option Value} {base : Heap}
abbrev bx (P : Program) (w : World) (K : PySem.W.Frag) (mg : Str → Option Value) (base : Heap) (N : List Str) (qual : Str) (sc : Scope) (f : Addr) (cdv : Value) (A : Around) (outer : List Env) (s : Shared) (H : Hp) (E : XK) : Cx :=
  (cxOf CX0 P w K mg base N qual sc f cdv A outer s H E).nox
/-- the rule for a def of the text -/
theorem fn_ok {x qual : Str} {st : Stmt} {f : Addr} {fd : FuncData} {N ps : List Str} {k : Nat} {m : SI} (np ns : Nat) (F : Fun K x qual st f fd) (S : FnScope N ps (defScope st)) (hp : ps.length = np) (hN : N.length = ns)
    (hbody : ∀ (cdv : Value) (A : Around) (outer : List Env) (s : Shared) (H : Hp) (E : XK), Room k (bx P w K mg base N qual (defScope st) f cdv A outer s H E).A → PSs (bx P w K mg base N qual (defScope st) f cdv A outer s H E) (defBody st) (rS mg m)) :
    Ok P w K mg base (k + 1) f fd ps (mkFn np ns m) := by
  refine F.ok S (fun vs H Q E q => q.1) fun cdv A outer s H vs Q E hr q => ⟨rS mg m, ?_, fn_body hp hN q⟩
  exact hbody cdv A outer s H E hr
end
end F2
set_option Elab.async false
set_option linter.all false
set_option maxRecDepth 100000
set_option maxHeartbeats 4000000
namespace F2
open PySem PySem.Spec PyProof.Rows L2
/-! ### what is walked: at each place stuck, the end, or an item -/
structure Src where
  nxt : Nat → Hh → Option (Option A)
  fuel : Nat
abbrev SrcI := En → Hh → Option (Src × Hh)
def SrcOk (mg : Mg) (w : Wd) (s : Src) (J : It) : Prop := ∀ (i : Nat) (w' : Wd) (H' : Hp) (h' : Hh), w.le0 w' → Sm mg w' H' h' →
  (s.nxt i h' = some none → J.stop i H') ∧ ∀ a, s.nxt i h' = some (some a) → J.go i H' ∧ ∀ x H'', J.yld i H' x H'' → ∃ w'', w'.le w'' ∧ Sm mg w'' H'' h' ∧ RelA mg w'' a x
theorem SrcOk.mono {mg : Mg} {w w' : Wd} {s : Src} {J : It} (k : SrcOk mg w s J) (l : w.le w') : SrcOk mg w' s J := fun i w2 H2 h2 l2 => k i w2 H2 h2 (l.tole0.trans l2)
def iS (mg : Mg) (m : SrcI) : TI := fun σ H R => ∃ w ρ h s h', Sm mg w H h ∧ EnvOk mg w ρ σ ∧ m ρ h = some (s, h') ∧ ∀ w' H' J, w.le w' → Sm mg w' H' h' → SrcOk mg w' s J → R J H'
theorem PI.imp {X : Cx} {tg e : Expr} {t t' : TI} (p : PI X tg e t) (h : ∀ σ H R, t' σ H R → t σ H R) : PI X tg e t' := ⟨fun pins s σ H R I q => p.run pins s σ H R I (h σ H R q)⟩
/-! lists, tuples -/
def listN (x : A) : Nat → Hh → Option (Option A) := fun i h => (itemsL x h).map fun xs => xs[i]?
def scrN (ns : List Int) : Nat → Hh → Option (Option A) := fun i _ => some ((ns[i]?).map fun n => .d (.int n))
def tupN (xs : List A) : Nat → Hh → Option (Option A) := fun i _ => some xs[i]?
def srcL (m : EI) : SrcI := fun ρ h => match m ρ h with
  | some (.d (.scr ns), h1) => some (⟨scrN ns, ns.length⟩, h1)
  | some (x, h1) => match itemsL x h1 with
    | some xs => some (⟨listN x, xs.length⟩, h1)
    | none => none
  | none => none
def srcT (m : EI) : SrcI := fun ρ h => match m ρ h with
  | some (x, h1) => match itemsT x with
    | some xs => some (⟨tupN xs, xs.length⟩, h1)
    | none => none
  | none => none
section
variable {X : Cx} {tg : Expr}
theorem Itl_ok {mg : Mg} {K : PySem.W.Frag} {w : Wd} {x : A} {p : Addr} (r : RelA mg w x (.ref p)) (n : Nat) : SrcOk mg w ⟨listN x, n⟩ (Itl K p) := fun i w' H' h' l S => by
  refine ⟨fun e => ?_, fun a e => ?_⟩
  · obtain ⟨xs, h1, h2⟩ := Option.map_eq_some_iff.mp e
    obtain ⟨q, vs, eq, hq, rq⟩ := itemsL_rel S (r.mono0 l) h1
    cases eq
    exact ⟨vs, SqL.of hq, by rw [← rq.length]; exact List.getElem?_eq_none_iff.mp h2⟩
  · obtain ⟨xs, h1, h2⟩ := Option.map_eq_some_iff.mp e
    obtain ⟨q, vs, eq, hq, rq⟩ := itemsL_rel S (r.mono0 l) h1
    cases eq
    obtain ⟨v, hv, rv⟩ := rq.get h2
    refine ⟨⟨vs, v, SqL.of hq, hv⟩, fun y H'' ⟨e1, e2⟩ => ?_⟩
    subst e1
    have := e2 vs (SqL.of hq)
    rw [hv] at this
    cases this
    exact ⟨w', .rfl, S, rv⟩
theorem i_list {l : Expr} {m : EI} (hl : PE X l (rE X.mg m)) : PI X tg l (iS X.mg (srcL m)) := PI.imp (pi_list hl) fun σ H R ⟨w, ρ, h, s, h', S, E, e, b⟩ => by
  unfold srcL at e
  split at e
  · rename_i ns h1 e1
    cases e
    refine ⟨w, ρ, h, _, h', S, E, e1, fun w1 H1 v l1 S1 r1 => ?_⟩
    cases r1 with
    | d r1 =>
      cases r1 with
      | @scr p ob _ q =>
        have hq : ∀ w2 H2 h2, w1.le0 w2 → Sm X.mg w2 H2 h2 → SqL X.K H2 p (ns.map V.int) := fun w2 H2 h2 l2 S2 => .inl (.inr ⟨ob, S2.st _ _ (l2.fz _ _ q) True.intro⟩)
        refine ⟨p, rfl, ⟨_, hq w1 H1 h' Wd.le.rfl.tole0 S1⟩, b w1 H1 _ l1 S1 fun i w' H' h'' l S' => ⟨fun e2 => ?_, fun a e2 => ?_⟩⟩
        · simp only [scrN, Option.some.injEq, Option.map_eq_none_iff] at e2
          exact ⟨_, hq w' H' h'' l S', by rw [List.length_map]; exact List.getElem?_eq_none_iff.mp e2⟩
        · simp only [scrN, Option.some.injEq, Option.map_eq_some_iff] at e2
          obtain ⟨n, e3, rfl⟩ := e2
          have hn : (ns.map V.int)[i]? = some (V.int n) := by rw [List.getElem?_map, e3]; rfl
          refine ⟨⟨_, _, hq w' H' h'' l S', hn⟩, fun y H'' ⟨e1, e2⟩ => ?_⟩
          subst e1
          have := e2 _ (hq w' _ h'' l S')
          rw [hn] at this
          cases this
          exact ⟨w', .rfl, S', .d (.int _)⟩
  · rename_i x h1 _ e1
    split at e
    · rename_i xs ex
      cases e
      refine ⟨w, ρ, h, x, h', S, E, e1, fun w1 H1 v l1 S1 r1 => ?_⟩
      obtain ⟨p, vs, rfl, hp, rp⟩ := itemsL_rel S1 r1 ex
      exact ⟨p, rfl, ⟨vs, SqL.of hp⟩, b w1 H1 _ l1 S1 (Itl_ok r1 _)⟩
    · cases e
  · cases e
theorem i_tup {l : Expr} {m : EI} (hl : PE X l (rE X.mg m)) : PI X tg l (iS X.mg (srcT m)) := PI.imp (pi_tup hl) fun σ H R ⟨w, ρ, h, s, h', S, E, e, b⟩ => by
  unfold srcT at e
  split at e
  · rename_i x h1 e1
    split at e
    · rename_i xs ex
      cases e
      refine ⟨w, ρ, h, x, h', S, E, e1, fun w1 H1 v l1 S1 r1 => ?_⟩
      obtain ⟨p, vs, rfl, hp, rp⟩ := itemsT_rel S1 r1 ex
      refine ⟨p, rfl, ⟨vs, sqT_rd hp⟩, b w1 H1 _ l1 S1 fun i w' H' h'' l S' => ?_⟩
      obtain ⟨q, us, eq, hq, rq⟩ := itemsT_rel S' (r1.mono0 l) ex
      cases eq
      refine ⟨fun e2 => ?_, fun a e2 => ?_⟩
      · exact ⟨us, sqT_rd hq, by rw [← rq.length]; exact List.getElem?_eq_none_iff.mp (Option.some.inj e2)⟩
      · obtain ⟨v, hv, rv⟩ := rq.get (Option.some.inj e2)
        refine ⟨⟨us, v, sqT_rd hq, hv⟩, fun y H'' ⟨e1, e2⟩ => ?_⟩
        subst e1
        have := e2 us (sqT_rd hq)
        rw [hv] at this
        cases this
        exact ⟨w', .rfl, S', rv⟩
    · cases e
  · cases e
/-! ranges -/
def rngN (lo : Int) (n : Nat) : Nat → Hh → Option (Option A) := fun i _ => some (if i < n then some (.d (.int (lo + i))) else none)
def srcR1 (m : AI) : SrcI := fun ρ h => match m ρ h with
  | some ([.d (.int j)], h1) => if -(2 ^ 62) ≤ j ∧ j < 2 ^ 62 then some (⟨rngN 0 j.toNat, j.toNat⟩, h1) else none
  | _ => none
def srcR2 (m : AI) : SrcI := fun ρ h => match m ρ h with
  | some ([.d (.int i), .d (.int j)], h1) => if -(2 ^ 62) ≤ i ∧ i < 2 ^ 62 ∧ -(2 ^ 62) ≤ j ∧ j < 2 ^ 62 then some (⟨rngN i (j - i).toNat, (j - i).toNat⟩, h1) else none
  | _ => none
theorem rng_ok {mg : Mg} {w : Wd} {lo : Int} {n : Nat} : SrcOk mg w ⟨rngN lo n, n⟩ (Itr lo n) := fun i w' H' h' l S => by
  refine ⟨fun e => ?_, fun a e => ?_⟩
  · have e' := Option.some.inj e
    split at e'
    · cases e'
    · show n ≤ i; omega
  · have e' := Option.some.inj e
    split at e'
    · rename_i hi
      cases e'
      refine ⟨hi, fun y H'' ⟨e1, e2⟩ => ?_⟩
      subst e1 e2
      exact ⟨w', .rfl, S, .d (.int _)⟩
    · cases e'
theorem i_r1 {a : Expr} {m : AI} {p pos : Pos} (hm : X.mg "range" = none) (ha : PA X [a] (rA X.mg m)) (hg : Gl X "range" := by rfl) (hs : starEach [a] X.env = [(false, eval a X.env)] := by rfl) : PI X tg (.Call (.Name "range" p) [a] [] pos) (iS X.mg (srcR1 m)) :=
  PI.imp (pi_range1 hg hm ha hs) fun σ H R ⟨w, ρ, h, s, h', S, E, e, b⟩ => by
    unfold srcR1 at e
    split at e
    · rename_i j h1 e1
      split at e
      · rename_i c
        cases e
        refine ⟨w, ρ, h, _, h', S, E, e1, fun w1 H1 vs l1 S1 r1 => ?_⟩
        cases r1 with
        | cons r t =>
          cases t
          cases r with
          | d r => cases r; exact ⟨j, rfl, c.1, c.2, b w1 H1 _ l1 S1 rng_ok⟩
      · cases e
    · cases e
theorem i_r2 {a c : Expr} {m : AI} {p pos : Pos} (hm : X.mg "range" = none) (ha : PA X [a, c] (rA X.mg m)) (hg : Gl X "range" := by rfl) (hs : starEach [a, c] X.env = [(false, eval a X.env), (false, eval c X.env)] := by rfl) (hs2 : starEach [c] X.env = [(false, eval c X.env)] := by rfl) : PI X tg (.Call (.Name "range" p) [a, c] [] pos) (iS X.mg (srcR2 m)) :=
  PI.imp (pi_range2 hg hm ha hs hs2) fun σ H R ⟨w, ρ, h, s, h', S, E, e, b⟩ => by
    unfold srcR2 at e
    split at e
    · rename_i i j h1 e1
      split at e
      · rename_i c
        cases e
        refine ⟨w, ρ, h, _, h', S, E, e1, fun w1 H1 vs l1 S1 r1 => ?_⟩
        cases r1 with
        | cons r t =>
          cases t with
          | cons r2 t =>
            cases t
            cases r with
            | d r =>
              cases r
              cases r2 with
              | d r2 => cases r2; exact ⟨i, j, rfl, c, b w1 H1 _ l1 S1 rng_ok⟩
      · cases e
    · cases e
/-! a text's signs -/
def strN (x : Str) : Nat → Hh → Option (Option A) := fun i _ => some ((x.cps[i]?).map fun c => .d (.str ⟨#[c]⟩))
def srcS (m : EI) : SrcI := fun ρ h => match m ρ h with
  | some (.d (.str x), h1) => some (⟨strN x, x.cps.size⟩, h1)
  | _ => none
theorem i_str {l : Expr} {m : EI} (hl : PE X l (rE X.mg m)) : PI X tg l (iS X.mg (srcS m)) := PI.imp (pi_str hl) fun σ H R ⟨w, ρ, h, s, h', S, E, e, b⟩ => by
  unfold srcS at e
  split at e
  · rename_i x h1 e1
    cases e
    refine ⟨w, ρ, h, _, h', S, E, e1, fun w1 H1 v l1 S1 r1 => ?_⟩
    cases r1 with
    | d r1 =>
      cases r1
      refine ⟨x, rfl, b w1 H1 _ l1 S1 fun i w' H' h'' l S' => ⟨fun e2 => ?_, fun a e2 => ?_⟩⟩
      · have e3 := Option.map_eq_none_iff.mp (Option.some.inj e2)
        exact Array.getElem?_eq_none_iff.mp e3
      · obtain ⟨c, e3, rfl⟩ := Option.map_eq_some_iff.mp (Option.some.inj e2)
        refine ⟨(Array.getElem?_eq_some_iff.mp e3).1, fun y H'' ⟨e1, c', e4, e5⟩ => ?_⟩
        subst e1 e5
        rw [e3] at e4; cases e4
        exact ⟨w', .rfl, S', .d (.str _)⟩
  · cases e
/-! zip of two lists, two tuples -/
def zipN (x y : A) : Nat → Hh → Option (Option A) := fun i h => match itemsL x h with
  | some xs => match itemsL y h with
    | some ys => match xs[i]?, ys[i]? with
      | some (.d a), some (.d b) => some (some (.d (.tup [a, b])))
      | none, _ => some none
      | _, none => some none
      | _, _ => none
    | none => none
  | none => none
def zipTN (xs ys : List D) : Nat → Hh → Option (Option A) := fun i _ => match xs[i]?, ys[i]? with
  | some a, some b => some (some (.d (.tup [a, b])))
  | _, _ => some none
def srcZ (m : AI) : SrcI := fun ρ h => match m ρ h with
  | some ([.d (.tup xs), .d (.tup ys)], h1) => some (⟨zipTN xs ys, xs.length⟩, h1)
  | some ([x, y], h1) => match itemsL x h1 with
    | some xs => match itemsL y h1 with
      | some _ => some (⟨zipN x y, xs.length⟩, h1)
      | none => none
    | none => none
  | _ => none
theorem pair_new {mg : Mg} {w : Wd} {H : Hp} {h : Hh} (S : Sm mg w H h) {a b : D} {x y : V} (rx : RelD mg w.fz a x) (ry : RelD mg w.fz b y) {T : Addr} (hT : H T = none) :
    ∃ w'', w.le w'' ∧ Sm mg w'' (upd H T (.tup [x, y])) h ∧ RelA mg w'' (.d (.tup [a, b])) (.ref T) :=
  ⟨w.pure T _, S.le_pure hT, S.pure hT, .d (.tup (vs := [x, y]) (by show (if T = T then _ else _) = _; rw [if_pos rfl]) (.cons (rx.mono (S.le_pure hT).fz) (.cons (ry.mono (S.le_pure hT).fz) .nil)))⟩
theorem RelDs.get {mg : Mg} {f : Fz} : ∀ {as : List D} {vs : List V}, RelDs mg f as vs → ∀ {i : Nat} {a : D}, as[i]? = some a → ∃ v, vs[i]? = some v ∧ RelD mg f a v
  | _, _, .nil, i, a, e => by simp at e
  | _, _, .cons h t, 0, a, e => by simp at e; subst e; exact ⟨_, rfl, h⟩
  | _, _, .cons h t, i + 1, a, e => by simpa using RelDs.get t (i := i) (by simpa using e)
theorem i_zip {e1 e2 : Expr} {m : AI} {p pos tpos : Pos} {elts : List Expr} {kk : Nat} (hm : X.mg "zip" = none) (ha : PA X [e1, e2] (rA X.mg m)) (hg : Gl X "zip" := by rfl)
    (hs : starEach [e1, e2] X.env = (false, eval e1 X.env) :: starEach [e2] X.env := by rfl) (hpl : (backTo pos (starEach [e2] X.env)).any (·.1) = false := by rfl) : PI X (.Tuple elts kk tpos) (.Call (.Name "zip" p) [e1, e2] [] pos) (iS X.mg (srcZ m)) :=
  PI.imp (RZ.pi_zipA hg hm ha hs hpl) fun σ H R ⟨w, ρ, h, s, h', S, E, e, b⟩ => by
    unfold srcZ at e
    split at e
    · rename_i xs ys h1 q1
      cases e
      refine ⟨w, ρ, h, _, h', S, E, q1, fun w1 H1 vs l1 S1 r1 => ?_⟩
      cases r1 with
      | cons rx t =>
        cases t with
        | cons ry t =>
          cases t
          obtain ⟨a, us, rfl, ha, ra⟩ := itemsT_rel S1 rx (xs := xs.map A.d) rfl
          obtain ⟨c, vs, rfl, hc, rc⟩ := itemsT_rel S1 ry (xs := ys.map A.d) rfl
          refine ⟨a, c, us, vs, rfl, .inr ⟨sqT_rd ha, sqT_rd hc, b w1 H1 _ l1 S1 fun i w' H' h'' l S' => ?_⟩⟩
          obtain ⟨a', us', ea, ha', ra'⟩ := itemsT_rel S' (rx.mono0 l) (xs := xs.map A.d) rfl
          obtain ⟨c', vs', ec, hc', rc'⟩ := itemsT_rel S' (ry.mono0 l) (xs := ys.map A.d) rfl
          cases ea; cases ec
          have lx := ra'.length
          have ly := rc'.length
          rw [List.length_map] at lx ly
          refine ⟨fun e2 => ⟨us', vs', sqT_rd ha', sqT_rd hc', ?_⟩, fun z e2 => ?_⟩
          · simp only [zipTN] at e2
            split at e2
            · cases e2
            · rename_i ne
              by_cases c1 : i < xs.length
              · by_cases c2 : i < ys.length
                · exact absurd (List.getElem?_eq_getElem c2) (ne _ _ (List.getElem?_eq_getElem c1))
                · exact .inr (by omega)
              · exact .inl (by omega)
          · simp only [zipTN] at e2
            split at e2
            · rename_i d1 d2 q1 q2
              cases e2
              obtain ⟨v1, hv1, r1⟩ := ra'.get (i := i) (a := .d d1) (by rw [List.getElem?_map, q1]; rfl)
              obtain ⟨v2, hv2, r2⟩ := rc'.get (i := i) (a := .d d2) (by rw [List.getElem?_map, q2]; rfl)
              refine ⟨⟨us', vs', v1, v2, sqT_rd ha', sqT_rd hc', hv1, hv2⟩, fun y H'' ⟨T, x1, x2, e3, hT, e4, k1, k2⟩ => ?_⟩
              subst e3 e4
              have z1 := k1 _ (sqT_rd ha')
              have z2 := k2 _ (sqT_rd hc')
              rw [hv1] at z1; cases z1
              rw [hv2] at z2; cases z2
              cases r1 with
              | d r1 => cases r2 with
                | d r2 => exact pair_new S' r1 r2 hT
            · cases e2
    · rename_i x y h1 _ q1
      split at e
      · rename_i xs ex
        split at e
        · rename_i ys ey
          cases e
          refine ⟨w, ρ, h, _, h', S, E, q1, fun w1 H1 vs l1 S1 r1 => ?_⟩
          cases r1 with
          | cons rx t =>
            cases t with
            | cons ry t =>
              cases t
              obtain ⟨a, us, rfl, ha, ra⟩ := itemsL_rel S1 rx ex
              obtain ⟨c, vs, rfl, hc, rc⟩ := itemsL_rel S1 ry ey
              refine ⟨a, c, us, vs, rfl, .inl ⟨SqL.of ha, SqL.of hc, b w1 H1 _ l1 S1 fun i w' H' h'' l S' => ?_⟩⟩
              refine ⟨fun e2 => ?_, fun z e2 => ?_⟩
              · simp only [zipN] at e2
                split at e2
                · rename_i xs' ex'
                  split at e2
                  · rename_i ys' ey'
                    obtain ⟨a', us', ea, ha', ra'⟩ := itemsL_rel S' (rx.mono0 l) ex'
                    obtain ⟨c', vs', ec, hc', rc'⟩ := itemsL_rel S' (ry.mono0 l) ey'
                    cases ea; cases ec
                    refine ⟨us', vs', SqL.of ha', SqL.of hc', ?_⟩
                    have lx := ra'.length
                    have ly := rc'.length
                    split at e2
                    · cases e2
                    · rename_i z1
                      exact .inl (by rw [← lx]; exact List.getElem?_eq_none_iff.mp z1)
                    · rename_i za zb
                      exact .inr (by rw [← ly]; first | exact List.getElem?_eq_none_iff.mp za | exact List.getElem?_eq_none_iff.mp zb)
                    · cases e2
                  · cases e2
                · cases e2
              · simp only [zipN] at e2
                split at e2
                · rename_i xs' ex'
                  split at e2
                  · rename_i ys' ey'
                    obtain ⟨a', us', ea, ha', ra'⟩ := itemsL_rel S' (rx.mono0 l) ex'
                    obtain ⟨c', vs', ec, hc', rc'⟩ := itemsL_rel S' (ry.mono0 l) ey'
                    cases ea; cases ec
                    split at e2
                    · rename_i d1 d2 q1 q2
                      cases e2
                      obtain ⟨v1, hv1, r1⟩ := ra'.get q1
                      obtain ⟨v2, hv2, r2⟩ := rc'.get q2
                      refine ⟨⟨us', vs', v1, v2, SqL.of ha', SqL.of hc', hv1, hv2⟩, fun y H'' ⟨T, x1, x2, e3, hT, e4, k1, k2⟩ => ?_⟩
                      subst e3 e4
                      have z1 := k1 _ (SqL.of ha')
                      have z2 := k2 _ (SqL.of hc')
                      rw [hv1] at z1; cases z1
                      rw [hv2] at z2; cases z2
                      cases r1 with
                      | d r1 => cases r2 with
                        | d r2 => exact pair_new S' r1 r2 hT
                    · cases e2
                    · cases e2
                    · cases e2
                  · cases e2
                · cases e2
        · cases e
      · cases e
    · cases e
/-! ### for -/
/-- the loop: so many turns at most, the place, the slots -/
def forGo (s : Src) (turn : A → En → Hh → Option Out) : Nat → Nat → En → Hh → Option Out
  | 0, i, ρ, h => match s.nxt i h with
    | some none => some (.nx ρ h)
    | _ => none
  | n + 1, i, ρ, h => match s.nxt i h with
    | some none => some (.nx ρ h)
    | some (some a) => match turn a ρ h with
      | some (.nx ρ1 h1) => forGo s turn n (i + 1) ρ1 h1
      | some (.ct ρ1 h1) => forGo s turn n (i + 1) ρ1 h1
      | some (.bk ρ1 h1) => some (.nx ρ1 h1)
      | some (.rt a h1) => some (.rt a h1)
      | none => none
    | none => none
def mTurn (g : GI) (b : SI) : A → En → Hh → Option Out := fun a ρ h => match g a ρ h with
  | some (ρ1, h1) => b ρ1 h1
  | none => none
def mFor (it : SrcI) (g : GI) (b : SI) : SI := fun ρ h => match it ρ h with
  | some (s, h1) => forGo s (mTurn g b) s.fuel 0 ρ h1
  | none => none
theorem s_for {iter : Expr} {body : List Stmt} {it : SrcI} {g : GI} {b : SI} {pos : Pos} (hp : PassesOwn (model X.prog X.w) X.A X.env X.xe) (hc : X.calm = true) (hi : PI X tg iter (iS X.mg it)) (hg : PG X tg (rG X.mg g)) (hb : PSs X body (rS X.mg b))
    (hs : ∀ x, foldedSetIterable iter X.env x = pure x := by intro _; rfl) : PS X (.For tg iter body [] pos) (rS X.mg (mFor it g b)) :=
  PS.imp (ps_for hp hc hi hg hb hs) fun D σ H ⟨w, ρ, h, o, S, E, e, bb⟩ => by
    unfold mFor at e
    split at e
    · rename_i s h1 e1
      refine ⟨w, ρ, h, s, h1, S, E, e1, fun w1 H1 J l1 S1 k => ?_⟩
      refine ⟨fun i m σ H => ∃ w2 ρ2 h2, w1.le w2 ∧ Sm X.mg w2 H h2 ∧ EnvOk X.mg w2 ρ2 σ ∧ forGo s (mTurn g b) m i ρ2 h2 = some o, ⟨s.fuel, w1, ρ, h1, .rfl, S1, E.mono l1, e⟩, ?_⟩
      rintro i m σ2 H2 ⟨w2, ρ2, h2, l2, S2, E2, e2⟩
      obtain ⟨k1, k2⟩ := k i w2 H2 h2 l2.tole0 S2
      cases m with
      | zero =>
        unfold forGo at e2
        split at e2
        · rename_i q
          cases e2
          exact .inl ⟨k1 q, bb w2 H2 σ2 (l1.trans l2) S2 E2⟩
        · cases e2
      | succ m =>
        unfold forGo at e2
        split at e2
        · rename_i q
          cases e2
          exact .inl ⟨k1 q, bb w2 H2 σ2 (l1.trans l2) S2 E2⟩
        · rename_i a q
          obtain ⟨k3, k4⟩ := k2 a q
          refine .inr ⟨k3, fun σ' H' => ∃ w3 ρ3 h3, w1.le w3 ∧ Sm X.mg w3 H' h3 ∧ EnvOk X.mg w3 ρ3 σ' ∧ forGo s (mTurn g b) m (i + 1) ρ3 h3 = some o, fun σ' H' q' => ⟨m, Nat.lt_succ_self m, q'⟩, fun x H' y => ?_⟩
          obtain ⟨w3, l3, S3, r3⟩ := k4 x H' y
          unfold mTurn at e2
          split at e2
          · rename_i ρt ht et
            split at et
            · rename_i ρ4 h4 e4
              refine ⟨w3, ρ2, h2, a, ρ4, h4, S3, E2.mono l3, r3, e4, fun w4 H4 σ4 l4 S4 E4 => ⟨w4, ρ4, h4, _, S4, E4, et, fun w5 H5 σ5 l5 S5 E5 => ⟨w5, ρt, ht, ((l2.trans l3).trans l4).trans l5, S5, E5, ?_⟩⟩⟩
              exact e2
            · cases et
          · rename_i ρt ht et
            split at et
            · rename_i ρ4 h4 e4
              refine ⟨w3, ρ2, h2, a, ρ4, h4, S3, E2.mono l3, r3, e4, fun w4 H4 σ4 l4 S4 E4 => ⟨w4, ρ4, h4, _, S4, E4, et, fun w5 H5 σ5 l5 S5 E5 => ⟨w5, ρt, ht, ((l2.trans l3).trans l4).trans l5, S5, E5, ?_⟩⟩⟩
              exact e2
            · cases et
          · rename_i ρt ht et
            split at et
            · rename_i ρ4 h4 e4
              cases e2
              refine ⟨w3, ρ2, h2, a, ρ4, h4, S3, E2.mono l3, r3, e4, fun w4 H4 σ4 l4 S4 E4 => ⟨w4, ρ4, h4, _, S4, E4, et, fun w5 H5 σ5 l5 S5 E5 => bb w5 H5 σ5 ((((l1.trans l2).trans l3).trans l4).trans l5) S5 E5⟩⟩
            · cases et
          · rename_i at_ ht et
            split at et
            · rename_i ρ4 h4 e4
              cases e2
              refine ⟨w3, ρ2, h2, a, ρ4, h4, S3, E2.mono l3, r3, e4, fun w4 H4 σ4 l4 S4 E4 => ⟨w4, ρ4, h4, _, S4, E4, et, fun w5 H5 v l5 S5 r5 => bb w5 H5 v ((((l1.trans l2).trans l3).trans l4).trans l5) S5 r5⟩⟩
            · cases et
          · cases e2
        · cases e2
    · cases e
end
end F2
set_option Elab.async false
set_option linter.all false
set_option maxRecDepth 100000
set_option maxHeartbeats 4000000
namespace F2
open PySem PySem.Spec PyProof.Rows L2
/-! ### comprehensions -/
def wipeE (ρ : En) : List Nat → En
  | [] => ρ
  | v :: vs => (wipeE ρ vs).set v none
theorem EnvOk.none {mg : Mg} {w : Wd} {ρ : En} {σ : L2.St} (E : EnvOk mg w ρ σ) (i : Nat) : EnvOk mg w (ρ.set i none) (σ.set i none) := by
  refine ⟨by rw [List.length_set, List.length_set]; exact E.len, fun j b e => ?_⟩
  by_cases hj : i = j
  · subst hj
    have hi : i < ρ.length := by
      have := (List.getElem?_eq_some_iff.mp e).1
      rwa [List.length_set] at this
    rw [List.getElem?_set_self hi] at e
    cases e
  · rw [List.getElem?_set_ne hj] at e
    obtain ⟨u, h, q⟩ := E.get j b e
    exact ⟨u, by rw [List.getElem?_set_ne hj]; exact h, q⟩
theorem EnvOk.wipe {mg : Mg} {w : Wd} {ρ : En} {σ : L2.St} (E : EnvOk mg w ρ σ) : ∀ vs : List Nat, EnvOk mg w (wipeE ρ vs) (L2.wipe σ vs)
  | [] => E
  | v :: vs => (EnvOk.wipe E vs).none v
theorem wipe_set {σ : L2.St} {i : Nat} {x : Option V} : ∀ {vs : List Nat}, i ∈ vs → L2.wipe (σ.set i x) vs = L2.wipe σ vs
  | [], h => by simp at h
  | v :: vs, h => by
    by_cases e : i ∈ vs
    · show (L2.wipe (σ.set i x) vs).set v none = (L2.wipe σ vs).set v none
      rw [wipe_set e]
    · have hv : i = v := by
        rcases List.mem_cons.mp h with z | z
        · exact z
        · exact absurd z e
      subst hv
      have comm : ∀ (ws : List Nat), i ∉ ws → L2.wipe (σ.set i x) ws = (L2.wipe σ ws).set i x := by
        intro ws
        induction ws with
        | nil => intro _; rfl
        | cons u us ih =>
          intro hn
          show (L2.wipe (σ.set i x) us).set u none = ((L2.wipe σ us).set u none).set i x
          rw [ih (fun z => hn (List.mem_cons_of_mem _ z)), List.set_comm _ _ (fun z => hn (by rw [z]; exact List.mem_cons_self))]
      show (L2.wipe (σ.set i x) vs).set i none = (L2.wipe σ vs).set i none
      rw [comm vs e, List.set_set]
theorem wipe_wipe {σ : L2.St} : ∀ {vs : List Nat}, L2.wipe (L2.wipe σ vs) vs = L2.wipe σ vs := by
  have key : ∀ (us : List Nat) (τ : L2.St) (vs : List Nat), (∀ u ∈ us, u ∈ vs) → L2.wipe (L2.wipe τ us) vs = L2.wipe τ vs := by
    intro us
    induction us with
    | nil => intro _ _ _; rfl
    | cons u us ih =>
      intro τ vs h
      show L2.wipe ((L2.wipe τ us).set u none) vs = _
      rw [wipe_set (h u List.mem_cons_self), ih τ vs fun x hx => h x (List.mem_cons_of_mem _ hx)]
  intro vs
  exact key vs σ vs fun _ h => h
/-- a target of a comprehension: its own slots alone are set -/
def rGw (mg : Mg) (vs : List Nat) (g : GI) : TG := fun v σ H Q => ∃ w ρ h a ρ' h', Sm mg w H h ∧ EnvOk mg w ρ σ ∧ RelA mg w a v ∧ g a ρ h = some (ρ', h') ∧ BhE mg w ρ' h' fun σ' H' => L2.wipe σ' vs = L2.wipe σ vs → Q σ' H'
def rGsw (mg : Mg) (vs : List Nat) (g : GsI) : TGs := fun us σ H Q => ∃ w ρ h as ρ' h', Sm mg w H h ∧ EnvOk mg w ρ σ ∧ RelAs mg w as us ∧ g as ρ h = some (ρ', h') ∧ BhE mg w ρ' h' fun σ' H' => L2.wipe σ' vs = L2.wipe σ vs → Q σ' H'
section
variable {X : Cx} {tg : Expr}
theorem gw_name (vs : List Nat) (i : Nat) {x : Str} {pos : Pos} (hN : X.N.Nodup) (hv : i ∈ vs := by decide) (hi : X.N[i]? = some x := by rfl) (hx : Loc X.env.scope x := by first | exact Or.inl rfl | exact Or.inr rfl)
    (hf : X.fn x = true ∨ X.env.scope.names.lookup x = some .local := by first | exact .inl rfl | exact .inr rfl | assumption) : PG X (.Name x pos) (rGw X.mg vs (gN i)) :=
  PG.imp (pg_name hN hi hx hf) fun v σ H Q ⟨w, ρ, h, a, ρ', h', S, E, r, e, b⟩ => by
    cases e
    exact b w H _ .rfl S (E.set r) (wipe_set hv)
theorem gsw_nil (vs : List Nat) : PGs X [] (rGsw X.mg vs gsNil) := PGs.imp pgs_nil fun v σ H Q ⟨w, ρ, h, a, ρ', h', S, E, r, e, b⟩ => by
  unfold gsNil at e
  split at e
  · cases e
    cases r
    exact ⟨rfl, b w H _ .rfl S E rfl⟩
  · cases e
theorem gsw_cons {vs : List Nat} {e : Expr} {es : List Expr} {g : GI} {gs : GsI} (h1 : PG X e (rGw X.mg vs g)) (h2 : PGs X es (rGsw X.mg vs gs))
    (hs : (assignEach (e :: es) X.env).map (·.2) = assign e X.env :: (assignEach es X.env).map (·.2) := by rfl) : PGs X (e :: es) (rGsw X.mg vs (gsCons g gs)) :=
  PGs.imp (pgs_cons h1 h2 hs) fun v σ H Q ⟨w, ρ, h, a, ρ', h', S, E, r, e, b⟩ => by
    unfold gsCons at e
    split at e
    · rename_i x as
      split at e
      · rename_i ρ1 h1 e1
        cases r with
        | cons r t => exact ⟨_, _, rfl, w, ρ, h, x, ρ1, h1, S, E, r, e1, fun w1 H1 σ1 l1 S1 E1 z1 => ⟨w1, ρ1, h1, as, ρ', h', S1, E1, t.mono l1, e, fun w2 H2 σ2 l2 S2 E2 z2 => b w2 H2 σ2 (l1.trans l2) S2 E2 (z2.trans z1)⟩⟩
      · cases e
    · cases e
theorem gw_tup {vs : List Nat} {es : List Expr} {k : Nat} {pos : Pos} {gs : GsI} {n : Nat} (hc : X.calm = true) (h : PGs X es (rGsw X.mg vs gs)) (hn : (assignEach es X.env).length = n := by rfl) (hst : (assignEach es X.env).findIdx? (·.1) = none := by rfl) :
    PG X (.Tuple es k pos) (rGw X.mg vs (gT n gs)) := PG.imp (pg_tup hc h hn hst) fun v σ H Q ⟨w, ρ, h, a, ρ', h', S, E, r, e, b⟩ => by
  unfold gT at e
  split at e
  · rename_i xs ex
    split at e
    · rename_i hl
      obtain ⟨p, vs, rfl, hp, rp⟩ := itemsT_rel S r ex
      exact ⟨p, vs, rfl, sqT_rd hp, by rw [← rp.length]; exact hl, w, ρ, h, xs, ρ', h', S, E, rp, e, b⟩
    · cases e
  · cases e
/-! tests of a comprehension -/
def mYes : TI' := fun _ h => some (true, h)
theorem PTs.imp {e : List Expr} {t t' : TT} (p : PTs X e t) (h : ∀ σ H Q, t' σ H Q → t σ H Q) : PTs X e t' := ⟨fun pins s σ H Q I q => p.run pins s σ H Q I (h σ H Q q)⟩
theorem ts_nil : PTs X [] (rT X.mg mYes) := PTs.imp pts_nil fun σ H Q ⟨w, ρ, h, k, h', S, E, e, b⟩ => by
  cases e
  exact b w H .rfl S
theorem ts_one {c : Expr} {m : TI'} (h : PT X c (rT X.mg m)) : PTs X [c] (rT X.mg m) := pts_one h
/-! the list that is made -/
def Wd.own (w : Wd) (D : Addr) (o : HO) : Wd := { w with ow := fun b => if b = D then some o else w.ow b }
theorem own_le0 {w : Wd} {D : Addr} {o : HO} : w.le0 (w.own D o) := ⟨FzLe.rfl, Eq.refl _, fun _ _ h => h⟩
theorem own_le0' {w w' : Wd} {D : Addr} {o : HO} (l : (w.own D o).le0 w') : w.le0 w' := ⟨l.fz, l.lk, l.phi_⟩
theorem own_lift {w w' : Wd} {D : Addr} {o : HO} (l : w.le0 w') : (w.own D o).le0 w' := ⟨l.fz, l.lk, l.phi_⟩
theorem Sm.own {mg : Mg} {w : Wd} {H : Hp} {h : Hh} {D : Addr} {o : HO} (S : Sm mg w H h) (hD : H D = none) : Sm mg (w.own D o) (upd H D o) h where
  fz := fun a u q => rd_upd (S.fz a u q) (S.toSim.fz_ne hD q)
  len := S.len
  nd := S.nd
  th := fun i a q => by rw [upd_ne (S.toSim.phi__ne hD q)]; exact S.th i a q
  nf := S.nf
  cell := fun i a u q r => (S.cell i a u q r).mono0 own_le0 (upd_ne (S.toSim.phi__ne hD q))
  ow := fun a u q => by
    by_cases z : a = D
    · subst z
      have q' : (if a = a then some o else w.ow a) = some u := q
      rw [if_pos rfl] at q'; cases q'
      exact ⟨upd_same, S.toSim.fz_none hD, fun i z => S.toSim.phi__ne hD z rfl⟩
    · have q' : (if a = D then some o else w.ow a) = some u := q
      rw [if_neg z] at q'
      obtain ⟨h1, h2, h3⟩ := S.ow a u q'
      exact ⟨by rw [upd_ne z]; exact h1, h2, h3⟩
  lk := fun a u q => by
    obtain ⟨h1, h3⟩ := S.lk a u q
    exact ⟨by rw [upd_ne (fun z => by rw [z, hD] at h1; cases h1)]; exact h1, h3⟩
  st := fun a u q n => by rw [upd_ne (S.toSim.fz_ne hD q)]; exact S.st a u q n
/-- what we own is written -/
theorem Sm.rewrite {mg : Mg} {w : Wd} {H : Hp} {h : Hh} {D : Addr} {o o' : HO} (S : Sm mg w H h) (hD : w.ow D = some o) (dl : ∀ u, w.lk D ≠ some u) : Sm mg (w.own D o') (upd H D o') h := by
  obtain ⟨d1, d2, d3⟩ := S.ow D o hD
  have nz : ∀ {a : Addr} {u : HO}, w.fz a = some u → a ≠ D := fun q z => by rw [z, d2] at q; cases q
  have np : ∀ {i : Nat} {a : Addr}, w.phi_[i]? = some a → a ≠ D := fun {i a} q z => d3 i (by rw [← z]; exact q)
  exact {
    fz := fun a u q => rd_upd (S.fz a u q) (nz q)
    len := S.len
    nd := S.nd
    th := fun i a q => by rw [upd_ne (np q)]; exact S.th i a q
    nf := S.nf
    cell := fun i a u q r => (S.cell i a u q r).mono0 own_le0 (upd_ne (np q))
    ow := fun a u q => by
      by_cases z : a = D
      · subst z
        have q' : (if a = a then some o' else w.ow a) = some u := q
        rw [if_pos rfl] at q'; cases q'
        exact ⟨upd_same, d2, d3⟩
      · have q' : (if a = D then some o' else w.ow a) = some u := q
        rw [if_neg z] at q'
        obtain ⟨h1, h2, h3⟩ := S.ow a u q'
        exact ⟨by rw [upd_ne z]; exact h1, h2, h3⟩
    lk := fun a u q => by
      obtain ⟨h1, h3⟩ := S.lk a u q
      exact ⟨by rw [upd_ne (fun z => dl u (by rw [← z]; exact q))]; exact h1, h3⟩
    st := fun a u q n => by rw [upd_ne (nz q)]; exact S.st a u q n }
/-- what we own is handed over as data, or as a cell -/
def Wd.give (w : Wd) (f : Addr → Option HO) (D : Addr) (o : HO) : Wd := { w with ow := f, fz := fun b => if b = D then some o else w.fz b }
def Wd.giveC (w : Wd) (f : Addr → Option HO) (D : Addr) : Wd := { w with ow := f, phi_ := w.phi_ ++ [D] }
theorem Sm.drop {mg : Mg} {w : Wd} {H : Hp} {h : Hh} {D : Addr} {o : HO} {f : Addr → Option HO} (S : Sm mg w H h) (hf : ∀ a u, f a = some u → a ≠ D ∧ w.ow a = some u) : Sm mg { w with ow := f } H h where
  fz := S.fz
  len := S.len
  nd := S.nd
  th := S.th
  nf := S.nf
  cell := fun i a u q r => CellOk.mono0 (w := w) (w' := { w with ow := f }) ⟨FzLe.rfl, Eq.refl _, fun _ _ h => h⟩ rfl (S.cell i a u q r)
  ow := fun a u q => S.ow a u (hf a u q).2
  lk := S.lk
  st := S.st
theorem Sm.give {mg : Mg} {w : Wd} {H : Hp} {h : Hh} {D : Addr} {o : HO} {f : Addr → Option HO} (S : Sm mg w H h) (hD : w.ow D = some o) (hf : ∀ a u, f a = some u → a ≠ D ∧ w.ow a = some u) (no : NotD o ∨ True) : Sm mg (w.give f D o) H h := by
  obtain ⟨d1, d2, d3⟩ := S.ow D o hD
  have le : w.le0 (w.give f D o) := ⟨fun a u q => by
    show (if a = D then some o else w.fz a) = some u
    rw [if_neg (fun z => by rw [z, d2] at q; cases q)]; exact q, Eq.refl _, fun _ _ h => h⟩
  have np : ∀ {i : Nat} {a : Addr}, w.phi_[i]? = some a → a ≠ D := fun {i a} q z => d3 i (by rw [← z]; exact q)
  exact {
    fz := fun a u q => by
      by_cases z : a = D
      · subst z
        have q' : (if a = a then some o else w.fz a) = some u := q
        rw [if_pos rfl] at q'; cases q'
        exact .inl d1
      · have q' : (if a = D then some o else w.fz a) = some u := q
        rw [if_neg z] at q'
        exact S.fz a u q'
    len := S.len
    nd := S.nd
    th := S.th
    nf := fun i a u q r => by
      rcases S.nf i a u q r with z | z
      · refine .inl ?_
        show (if a = D then some o else w.fz a) = none
        rw [if_neg (np q)]; exact z
      · exact .inr z
    cell := fun i a u q r => (S.cell i a u q r).mono0 le rfl
    ow := fun a u q => by
      obtain ⟨ne, q'⟩ := hf a u q
      obtain ⟨h1, h2, h3⟩ := S.ow a u q'
      refine ⟨h1, ?_, h3⟩
      show (if a = D then some o else w.fz a) = none
      rw [if_neg ne]; exact h2
    lk := S.lk
    st := fun a u q n => by
      by_cases z : a = D
      · subst z
        have q' : (if a = a then some o else w.fz a) = some u := q
        rw [if_pos rfl] at q'; cases q'
        exact d1
      · have q' : (if a = D then some o else w.fz a) = some u := q
        rw [if_neg z] at q'
        exact S.st a u q' n }
theorem Sm.giveC {mg : Mg} {w : Wd} {H : Hp} {h : Hh} {D : Addr} {o : HO} {f : Addr → Option HO} (S : Sm mg w H h) (hD : w.ow D = some o) (hf : ∀ a u, f a = some u → a ≠ D ∧ w.ow a = some u) (dl : ∀ u, w.lk D ≠ some u) {x : O} (c : CellOk mg (w.giveC f D) H D x) : Sm mg (w.giveC f D) H (h ++ [x]) := by
  obtain ⟨d1, d2, d3⟩ := S.ow D o hD
  have le : w.le0 (w.giveC f D) := ⟨FzLe.rfl, Eq.refl _, fun i y q => by
    show (w.phi_ ++ [D])[i]? = some y
    rw [List.getElem?_append_left (List.getElem?_eq_some_iff.mp q).1]; exact q⟩
  have at_ : ∀ {i : Nat} {a : Addr}, (w.giveC f D).phi_[i]? = some a → (w.phi_[i]? = some a ∧ i < h.length) ∨ (i = h.length ∧ a = D) := fun {i a} q => by
    have q' : (w.phi_ ++ [D])[i]? = some a := q
    by_cases hi : i < w.phi_.length
    · rw [List.getElem?_append_left hi] at q'
      exact .inl ⟨q', by rw [← S.len]; exact hi⟩
    · rw [List.getElem?_append_right (by omega)] at q'
      have hz : i - w.phi_.length = 0 := by
        by_cases z : i - w.phi_.length = 0
        · exact z
        · rw [List.getElem?_eq_none (by simp; omega)] at q'; cases q'
      rw [hz] at q'
      simp at q'
      exact .inr ⟨by rw [← S.len]; omega, q'.symm⟩
  have np : ∀ {i : Nat} {a : Addr}, w.phi_[i]? = some a → a ≠ D := fun {i a} q z => d3 i (by rw [← z]; exact q)
  refine ⟨⟨S.fz, ?_, fun i j a q r => ?_, fun i a q => ?_, fun i a u q r => ?_, fun i a u q r => ?_, fun a u q => ?_, fun a u q => ?_⟩, S.st⟩
  · show (w.phi_ ++ [D]).length = _
    rw [List.length_append, List.length_append, S.len]; rfl
  · rcases at_ q with ⟨q, hi⟩ | ⟨hi, rfl⟩ <;> rcases at_ r with ⟨r, hj⟩ | ⟨hj, z⟩
    · exact S.nd i j a q r
    · exact absurd z (np q)
    · exact absurd rfl (np r)
    · omega
  · rcases at_ q with ⟨q, hi⟩ | ⟨hi, rfl⟩
    · exact S.th i a q
    · rw [d1]; exact fun z => nomatch z
  · rcases at_ q with ⟨q, hi⟩ | ⟨hi, rfl⟩
    · rw [List.getElem?_append_left hi] at r
      exact S.nf i a u q r
    · exact .inl d2
  · rcases at_ q with ⟨q, hi⟩ | ⟨hi, rfl⟩
    · rw [List.getElem?_append_left hi] at r
      exact (S.cell i a u q r).mono0 le rfl
    · subst hi
      rw [List.getElem?_append_right (Nat.le_refl _), Nat.sub_self] at r
      simp at r
      subst r
      exact c
  · obtain ⟨ne, q'⟩ := hf a u q
    obtain ⟨h1, h2, h3⟩ := S.ow a u q'
    refine ⟨h1, h2, fun i z => ?_⟩
    rcases at_ z with ⟨z, _⟩ | ⟨_, z⟩
    · exact h3 i z
    · exact ne z
  · obtain ⟨h1, h3⟩ := S.lk a u q
    refine ⟨h1, fun i z => ?_⟩
    rcases at_ z with ⟨z, hi⟩ | ⟨_, z⟩
    · rw [List.getElem?_append_left hi]; exact h3 i z
    · exact absurd (by rw [← z]; exact q) (dl u)
/-- the turns of a comprehension -/
def lcGo (s : Src) (g : GI) (t : TI') (m : EI) (ρ : En) : Nat → Nat → List A → Hh → Option (List A × Hh)
  | 0, i, acc, h => match s.nxt i h with
    | some none => some (acc, h)
    | _ => none
  | n + 1, i, acc, h => match s.nxt i h with
    | some none => some (acc, h)
    | some (some a) => match g a ρ h with
      | some (ρ1, h1) => match t ρ1 h1 with
        | some (true, h2) => match m ρ1 h2 with
          | some (y, h3) => if acc.length < LIM then lcGo s g t m ρ n (i + 1) (acc ++ [y]) h3 else none
          | none => none
        | some (false, h2) => lcGo s g t m ρ n (i + 1) acc h2
        | none => none
      | none => none
    | none => none
def mLc (cell : Bool) (it : SrcI) (g : GI) (t : TI') (m : EI) (vs : List Nat) : EI := fun ρ h => match it ρ h with
  | some (s, h1) => match lcGo s g t m (wipeE ρ vs) s.fuel 0 [] h1 with
    | some (acc, h2) => mkL cell acc h2
    | none => none
  | none => none
theorem lc_core' {it : SrcI} {g : GI} {t : TI'} {m : EI} {vs : List Nat} {cell : Bool} {σ : L2.St} {H : Hp} {Q : VK} (q : rE X.mg (mLc cell it g t m vs) σ H Q) :
    tLc (iS X.mg it) (rGw X.mg vs g) (rT X.mg t) (rE X.mg m) vs σ H Q := by
  obtain ⟨w, ρ, h, a, h', S, E, e, b⟩ := q
  unfold mLc at e
  split at e
  · rename_i s h1 e1
    split at e
    · rename_i acc h2 e2
      refine ⟨w, ρ, h, s, h1, S, E, e1, fun w1 H1 J l1 S1 k => ?_⟩
      intro D hD
      have hlk : ∀ u, w1.lk D ≠ some u := fun u z => by
        have := (S1.lk D u z).1
        rw [hD] at this; cases this
      have how : w1.ow D = none := by
        cases z : w1.ow D with
        | none => rfl
        | some u =>
          have := (S1.ow D u z).1
          rw [hD] at this; cases this
      refine ⟨fun i n H => ∃ w2 hh ac av, (w1.own D (.lst av)).le w2 ∧ Sm X.mg w2 H hh ∧ RelAs X.mg w2 ac av ∧ lcGo s g t m (wipeE ρ vs) n i ac hh = some (acc, h2), ⟨s.fuel, w1.own D (.lst []), h1, [], [], .rfl, S1.own hD, .nil, e2⟩, ?_⟩
      rintro i n H2 ⟨w2, hh, ac, av, l2, S2, r2, e3⟩
      have l02 : w1.le0 w2 := own_le0' l2.tole0
      have wD : w2.ow D = some (.lst av) := by rw [l2.ow]; show (if D = D then _ else _) = _; rw [if_pos rfl]
      have dlk : ∀ u, w2.lk D ≠ some u := fun u z => hlk u (by rw [← l02.lk]; exact z)
      obtain ⟨k1, k2⟩ := k i w2 H2 hh l02 S2
      have fin : (acc, h2) = (ac, hh) → Q (.ref D) H2 := fun z => by
        cases z
        have hf : ∀ a u, w1.ow a = some u → a ≠ D ∧ w2.ow a = some u := fun a u z => by
          have ne : a ≠ D := fun y => by rw [y, how] at z; cases z
          refine ⟨ne, ?_⟩
          rw [l2.ow]
          show (if a = D then _ else w1.ow a) = _
          rw [if_neg ne]; exact z
        unfold mkL at e
        split at e
        · cases cell with
          | true =>
            rw [if_pos rfl] at e
            cases e
            have le0 : w2.le0 (w2.giveC w1.ow D) := ⟨FzLe.rfl, Eq.refl _, fun i y q => by
              show (w2.phi_ ++ [D])[i]? = some y
              rw [List.getElem?_append_left (List.getElem?_eq_some_iff.mp q).1]; exact q⟩
            refine b (w2.giveC w1.ow D) H2 _ ⟨(l1.tole0.trans l02).trans le0, l1.ow⟩ (S2.giveC wD hf dlk (.lst (S2.ow D _ wD).1 (r2.mono0 le0))) (.ref ?_)
            show (w2.phi_ ++ [D])[h2.length]? = some D
            rw [← S2.len]; simp
          | false =>
            rw [if_neg Bool.false_ne_true] at e
            obtain ⟨ds, hd, z⟩ := Option.map_eq_some_iff.mp e
            cases z
            have le0 : w2.le0 (w2.give w1.ow D (.lst av)) := ⟨fun a u q => by
              show (if a = D then _ else w2.fz a) = some u
              rw [if_neg (fun z => by rw [z, (S2.ow D _ wD).2.1] at q; cases q)]; exact q, Eq.refl _, fun _ _ h => h⟩
            refine b (w2.give w1.ow D (.lst av)) H2 _ ⟨(l1.tole0.trans l02).trans le0, l1.ow⟩ (S2.give wD hf (.inr True.intro)) (.d (.lst (vs := av) ?_ ((allD_rel hd r2).mono le0.fz)))
            show (if D = D then _ else _) = _
            rw [if_pos rfl]
        · cases e
      cases n with
      | zero =>
        unfold lcGo at e3
        split at e3
        · rename_i z
          exact .inl ⟨k1 z, fin (Option.some.inj e3).symm⟩
        · cases e3
      | succ n =>
        unfold lcGo at e3
        split at e3
        · rename_i z
          exact .inl ⟨k1 z, fin (Option.some.inj e3).symm⟩
        · rename_i x z
          obtain ⟨k3, k4⟩ := k2 x z
          refine .inr ⟨k3, fun H' => ∃ w2 hh ac av, (w1.own D (.lst av)).le w2 ∧ Sm X.mg w2 H' hh ∧ RelAs X.mg w2 ac av ∧ lcGo s g t m (wipeE ρ vs) n (i + 1) ac hh = some (acc, h2), fun H' q' => ⟨n, Nat.lt_succ_self n, q'⟩, fun xv H' y => ?_⟩
          obtain ⟨w3, l3, S3, r3⟩ := k4 xv H' y
          split at e3
          · rename_i ρ1 hh1 e4
            split at e3
            · rename_i hh2 e5
              split at e3
              · rename_i yy hh3 e6
                split at e3
                · rename_i hz
                  refine ⟨w3, wipeE ρ vs, hh, x, ρ1, hh1, S3, (E.mono l1).mono0 (l02.trans l3.tole0) |>.wipe vs, r3, e4, fun w4 H4 σ4 l4 S4 E4 z4 => ⟨by rw [z4]; exact wipe_wipe, w4, ρ1, hh1, true, hh2, S4, E4, e5, fun w5 H5 l5 S5 => iteT ⟨w5, ρ1, hh2, yy, hh3, S5, E4.mono l5, e6, fun w6 H6 v6 l6 S6 r6 => ?_⟩⟩⟩
                  have l26 : w2.le w6 := ((l3.trans l4).trans l5).trans l6
                  have w6D : w6.ow D = some (.lst av) := by rw [l26.ow]; exact wD
                  have d6 : ∀ u, w6.lk D ≠ some u := fun u z => dlk u (by rw [← l26.lk]; exact z)
                  refine ⟨av, (S6.ow D _ w6D).1, ?_, w6.own D (.lst (av ++ [v6])), hh3, ac ++ [yy], av ++ [v6], ⟨own_le0' (l2.trans l26).tole0 |>.trans own_le0 |> own_lift, ?_⟩, S6.rewrite w6D d6, RelAs.append (r2.mono0 (l26.tole0.trans own_le0)) (.cons (r6.mono0 own_le0) .nil), e3⟩
                  · rw [← r2.length]; exact lim_size1 (Nat.le_of_lt hz)
                  · funext a
                    show (if a = D then _ else w6.ow a) = (if a = D then _ else w1.ow a)
                    by_cases za : a = D
                    · rw [if_pos za, if_pos za]
                    · rw [if_neg za, if_neg za, l26.ow, l2.ow]
                      show (if a = D then _ else w1.ow a) = _
                      rw [if_neg za]
                · cases e3
              · cases e3
            · rename_i hh2 e5
              refine ⟨w3, wipeE ρ vs, hh, x, ρ1, hh1, S3, (E.mono l1).mono0 (l02.trans l3.tole0) |>.wipe vs, r3, e4, fun w4 H4 σ4 l4 S4 E4 z4 => ⟨by rw [z4]; exact wipe_wipe, w4, ρ1, hh1, false, hh2, S4, E4, e5, fun w5 H5 l5 S5 => iteF ?_⟩⟩
              have l25 : w2.le w5 := (l3.trans l4).trans l5
              exact ⟨w5, hh2, ac, av, l2.trans l25, S5, r2.mono l25, e3⟩
            · cases e3
          · cases e3
        · cases e3
    · cases e
  · cases e
/-- [elt for target in iter if ..] -/
theorem e_lc (cell : Bool) {elt tg iter : Expr} {ifs : List Expr} {scope : Scope} {own : List (Str × Nat)} {pos : Pos} {it : SrcI} {g : GI} {t : TI'} {m : EI} (hc : X.calm = true) (hN : X.N.Nodup) (hi : PI X tg iter (iS X.mg it)) (ok : BlkOk X.N X.env.scope scope own)
    (hg : ∀ (s : Shared) (H : Hp) (C : Addr) (cl : List (Str × Addr)) (fp : List Addr), PG (X.blk s H scope (compEnvC scope cl C X.env) fp) tg (rGw X.mg (own.map (·.2)) g)) (ht : ∀ (s : Shared) (H : Hp) (C : Addr) (cl : List (Str × Addr)) (fp : List Addr), PTs (X.blk s H scope (compEnvC scope cl C X.env) fp) ifs (rT X.mg t))
    (he : ∀ (s : Shared) (H : Hp) (C : Addr) (cl : List (Str × Addr)) (fp : List Addr), PE (X.blk s H scope (compEnvC scope cl C X.env) fp) elt (rE X.mg m)) (hs : ∀ x, foldedSetIterable iter X.env x = pure x := by intro _; rfl) :
    PE X (.ListComp elt [⟨tg, iter, ifs, 0⟩] scope pos) (rE X.mg (mLc cell it g t m (own.map (·.2)))) :=
  PE.imp (pe_lc hc hN hi ok hg ht he hs) fun σ H Q q => lc_core' q
/-- y = [..], y a local name -/
theorem s_setLc (cell : Bool) (i : Nat) {y : Str} {py : Pos} {elt tg iter : Expr} {ifs : List Expr} {scope : Scope} {own : List (Str × Nat)} {pos spos : Pos} {it : SrcI} {g : GI} {t : TI'} {m : EI} (hc : X.calm = true) (hN : X.N.Nodup)
    (hi : PI X tg iter (iS X.mg it)) (ok : BlkOk X.N X.env.scope scope own)
    (hg : ∀ (s : Shared) (H : Hp) (C : Addr) (cl : List (Str × Addr)) (fp : List Addr), PG (X.blk s H scope (compEnvC scope cl C X.env) fp) tg (rGw X.mg (own.map (·.2)) g)) (ht : ∀ (s : Shared) (H : Hp) (C : Addr) (cl : List (Str × Addr)) (fp : List Addr), PTs (X.blk s H scope (compEnvC scope cl C X.env) fp) ifs (rT X.mg t))
    (he : ∀ (s : Shared) (H : Hp) (C : Addr) (cl : List (Str × Addr)) (fp : List Addr), PE (X.blk s H scope (compEnvC scope cl C X.env) fp) elt (rE X.mg m))
    (hy : X.N[i]? = some y := by rfl) (hyl : X.env.scope.names.lookup y = some .local := by rfl)
    (hsw : swapsWith (.ListComp elt [⟨tg, iter, ifs, 0⟩] scope pos) (some (.Name y py)) spos.line X.env = pure true := by exact sw_true rfl rfl rfl (by decide +kernel)) (hs : ∀ x, foldedSetIterable iter X.env x = pure x := by intro _; rfl) :
    PS X (.Assign [.Name y py] (.ListComp elt [⟨tg, iter, ifs, 0⟩] scope pos) spos) (rS X.mg (mAsg (mLc cell it g t m (own.map (·.2))) (gN i))) :=
  PS.imp (ps_setLc hc hN hy hyl hsw hi ok hg ht he hs) fun D σ H q => by
    refine lc_core' (cell := cell) ?_
    obtain ⟨w, ρ, h, a, h1, S, E, e1, k⟩ := asg_split (X := X) q
    refine ⟨w, ρ, h, a, h1, S, E, e1, fun w1 H1 v l1 S1 r1 => ?_⟩
    obtain ⟨w2, ρ2, h2, a2, ρ3, h3, S2, E2, r2, e2, b⟩ := k w1 H1 v l1 S1 r1
    cases e2
    exact b w2 H1 _ .rfl S2 (E2.set r2)
end
end F2
set_option Elab.async false
set_option linter.all false
set_option maxRecDepth 100000
set_option maxHeartbeats 4000000
namespace F2
open PySem PySem.Spec PyProof.Rows L2
section
variable {X : Cx}
/-! ### defs of the text -/
theorem rels_nil {mg : Mg} {w : Wd} {as : List A} (r : RelAs mg w as []) : as = [] := by cases r; rfl
theorem e_call {k : Nat} {f : Addr} {fd : FuncData} {ps : List Str} {F : FnI} {x : Str} {p pos : Pos} {e : Expr} {es : List Expr} {m : AI} (G : Ok X.prog X.w X.K X.mg X.base k f fd ps F) (hr : Room k X.A) (hm : X.mg x = some (.ref f)) (hk : PySem.W.keepIn X.K (.ref f) = true) (hb : Binds X.K fd ps [])
    (ha : PA X (e :: es) (rA X.mg m)) (hg : Gl X x := by rfl) (hn : ∀ vs : List V, True → True := fun _ h => h) (hdb : (x == ("__debug__" : Str)) = false := by decide) (he : starEach (e :: es) X.env = (false, eval e X.env) :: starEach es X.env := by rfl) (hpl : (backTo pos (starEach es X.env)).any (·.1) = false := by rfl) :
    PE X (.Call (.Name x p) (e :: es) [] pos) (rE X.mg (mOn (fun as h => if as.length = ps.length then F as h else none) m)) :=
  PE.imp (pe_call G hr hg hm hk hb .nil pass0 ha hdb he hpl) fun σ H Q q => by
    obtain ⟨w, ρ, h, as, h', S, E, e1, k1⟩ := on_split (X := X) q
    refine ⟨w, ρ, h, as, h', S, E, e1, fun w1 H1 vs l1 S1 r1 => ?_⟩
    obtain ⟨w2, h2, xs, a, h3, S2, r2, e2, b⟩ := k1 w1 H1 vs l1 S1 r1
    split at e2
    · rename_i hl
      rw [List.append_nil]
      exact ⟨by rw [← r2.length]; exact hl, w2, h2, xs, a, h3, S2, r2, e2, b⟩
    · cases e2
theorem e_call0 {k : Nat} {f : Addr} {fd : FuncData} {F : FnI} {x : Str} {p pos : Pos} (G : Ok X.prog X.w X.K X.mg X.base k f fd [] F) (hr : Room k X.A) (hm : X.mg x = some (.ref f)) (hk : PySem.W.keepIn X.K (.ref f) = true) (hb : Binds X.K fd [] [])
    (hg : Gl X x := by rfl) (hdb : (x == ("__debug__" : Str)) = false := by decide) : PE X (.Call (.Name x p) [] [] pos) (rE X.mg (mOn F mNil)) :=
  PE.imp (pe_call0 G hr hg hm hk hb .nil pass0 hdb) fun σ H Q q => by
    obtain ⟨w, ρ, h, a, h', S, E, e, b⟩ := q
    exact ⟨rfl, w, h, [], a, h', S, .nil, e, b⟩
/-! ### built-ins -/
def CallI (X : Cx) (f : Value) (F : List A → Hh → Option (A × Hh)) : Prop := CallR X f fun vs H Q => ∃ w h xs a h', Sm X.mg w H h ∧ RelAs X.mg w xs vs ∧ F xs h = some (a, h') ∧ Bh X.mg w h' a Q
theorem CallI.of {f : Value} {r : List V → Hp → VK → Prop} {F : List A → Hh → Option (A × Hh)} (o : CallR X f r)
    (h : ∀ (w : Wd) (H : Hp) (h : Hh) (xs : List A) (vs : List V) (a : A) (h' : Hh) (Q : VK), Sm X.mg w H h → RelAs X.mg w xs vs → F xs h = some (a, h') → Bh X.mg w h' a Q → r vs H Q) : CallI X f F := by
  intro pins s σ H vs us Q I rx ⟨w, hh, xs, a, h', S, r1, e, b⟩
  exact o pins s σ H vs us Q I rx (h w H hh xs vs a h' Q S r1 e b)
def orC (f g : List A → Hh → Option (A × Hh)) : List A → Hh → Option (A × Hh) := fun x h => match f x h with
  | some r => some r
  | none => g x h
theorem CallI.or {f : Value} {F G : List A → Hh → Option (A × Hh)} (o : CallI X f F) (p : CallI X f G) : CallI X f (orC F G) := by
  intro pins s σ H vs us Q I rx ⟨w, hh, xs, a, h', S, r1, e, b⟩
  unfold orC at e
  split at e
  · rename_i r q
    cases e
    exact o pins s σ H vs us Q I rx ⟨w, hh, xs, a, h', S, r1, q, b⟩
  · exact p pins s σ H vs us Q I rx ⟨w, hh, xs, a, h', S, r1, e, b⟩
theorem e_blt {x : Str} {p pos : Pos} {e : Expr} {es : List Expr} {m : AI} {id : String} {F : List A → Hh → Option (A × Hh)} (hc : CallI X (.builtin id) F) (hm : X.mg x = none) (ha : PA X (e :: es) (rA X.mg m)) (hg : Gl X x := by rfl) (hv : bootBuiltins x = some (.builtin id) := by decide +kernel)
    (hn : x ≠ "__name__" := by decide) (hdb : (x == ("__debug__" : Str)) = false := by decide) (he : starEach (e :: es) X.env = (false, eval e X.env) :: starEach es X.env := by rfl) (hpl : (backTo pos (starEach es X.env)).any (·.1) = false := by rfl) :
    PE X (.Call (.Name x p) (e :: es) [] pos) (rE X.mg (mOn F m)) := PE.imp (pe_callB hc hg hm hv ha hn hdb he hpl) fun σ H Q q => on_split q
theorem e_bty {x : Str} {p pos : Pos} {e : Expr} {es : List Expr} {m : AI} {T : String} {F : List A → Hh → Option (A × Hh)} (hc : CallI X (.type T) F) (hm : X.mg x = none) (ha : PA X (e :: es) (rA X.mg m)) (hg : Gl X x := by rfl) (hv : bootBuiltins x = some (.type T) := by decide +kernel)
    (hn : x ≠ "__name__" := by decide) (hdb : (x == ("__debug__" : Str)) = false := by decide) (he : starEach (e :: es) X.env = (false, eval e X.env) :: starEach es X.env := by rfl) (hpl : (backTo pos (starEach es X.env)).any (·.1) = false := by rfl) :
    PE X (.Call (.Name x p) (e :: es) [] pos) (rE X.mg (mOn F m)) := PE.imp (pe_callTy hc hg hm hv ha hn hdb he hpl) fun σ H Q q => on_split q
theorem rel1 {mg : Mg} {w : Wd} {x : A} {vs : List V} (r : RelAs mg w [x] vs) : ∃ v, vs = [v] ∧ RelA mg w x v := by
  cases r with
  | cons h t => cases t; exact ⟨_, rfl, h⟩
theorem rel2 {mg : Mg} {w : Wd} {x y : A} {vs : List V} (r : RelAs mg w [x, y] vs) : ∃ v u, vs = [v, u] ∧ RelA mg w x v ∧ RelA mg w y u := by
  cases r with
  | cons h t => obtain ⟨u, rfl, r2⟩ := rel1 t; exact ⟨_, u, rfl, h, r2⟩
/-- len -/
def fLen : List A → Hh → Option (A × Hh)
  | [x], h => match itemsL x h with
    | some xs => some (.d (.int xs.length), h)
    | none => match x with
      | .d (.str z) => if z.length ≤ LIM then some (.d (.int z.length), h) else none
      | .d (.tup xs) => some (.d (.int xs.length), h)
      | .d (.tupN xs) => some (.d (.int xs.length), h)
      | .d (.scr xs) => some (.d (.int xs.length), h)
      | _ => none
  | _, _ => none
theorem c_len : CallI X (.builtin "len") fLen := CallI.of call_len fun w H h xs vs a h' Q S r e b => by
  unfold fLen at e
  split at e
  · rename_i x
    obtain ⟨v, rfl, rx⟩ := rel1 r
    split at e
    · rename_i ys ey
      cases e
      obtain ⟨p, us, rfl, hp, rp⟩ := itemsL_rel S rx ey
      exact ⟨_, us.length, rfl, .inl ⟨us, SqL.of hp, rfl⟩, b w H _ .rfl S (.d (by rw [rp.length]; exact .int _))⟩
    · split at e
      · rename_i z _
        split at e
        · rename_i hz
          cases e
          cases rx with
          | d rx => cases rx; exact ⟨_, _, rfl, ⟨lim_size hz, rfl⟩, b w H _ .rfl S (.d (.int _))⟩
        · cases e
      · rename_i ys _
        cases e
        obtain ⟨p, us, rfl, hp, rp⟩ := itemsT_rel S rx (xs := ys.map A.d) rfl
        have hl := rp.length
        rw [List.length_map] at hl
        exact ⟨_, us.length, rfl, .inr ⟨us, sqT_rd hp, rfl⟩, b w H _ .rfl S (.d (by rw [hl]; exact .int _))⟩
      · rename_i ys _
        cases e
        obtain ⟨p, us, rfl, hp, rp⟩ := itemsT_rel S rx (xs := ys.map A.d) rfl
        have hl := rp.length
        rw [List.length_map] at hl
        exact ⟨_, us.length, rfl, .inr ⟨us, sqT_rd hp, rfl⟩, b w H _ .rfl S (.d (by rw [hl]; exact .int _))⟩
      · rename_i ns _
        cases e
        cases rx with
        | d rx =>
          cases rx with
          | scr q => exact ⟨_, (ns.map V.int).length, rfl, .inl ⟨_, .inl (.inr ⟨_, S.st _ _ q True.intro⟩), rfl⟩, b w H _ .rfl S (.d (by rw [List.length_map]; exact .int _))⟩
      · cases e
  · cases e
def fLenD : List A → Hh → Option (A × Hh)
  | [.ref l], h => match h[l]? with
    | some (.dK kvs) => some (.d (.int kvs.length), h)
    | _ => none
  | _, _ => none
theorem RelAk.length {mg : Mg} {w : Wd} {κ : Type} : ∀ {d : List (κ × A)} {v : List (κ × V)}, RelAk mg w d v → d.length = v.length
  | _, _, .nil => rfl
  | _, _, .cons _ t => by simp [RelAk.length t]
theorem c_lenD : CallI X (.builtin "len") fLenD := CallI.of call_lenD fun w H h xs vs a h' Q S r e b => by
  unfold fLenD at e
  split at e
  · rename_i l
    obtain ⟨v, rfl, rx⟩ := rel1 r
    split at e
    · rename_i kvs q
      cases e
      cases rx with
      | @ref _ p hp =>
        cases S.cell l p _ hp q with
        | dK h1 h2 => exact ⟨p, _, rfl, h1, b w H _ .rfl S (.d (by rw [h2.length]; exact .int _))⟩
    · cases e
  · cases e
/-- two ints -/
def int2C (C : Int → Int → Bool) (g : Int → Int → D) : List A → Hh → Option (A × Hh)
  | [.d (.int i), .d (.int j)], h => if C i j then some (.d (g i j), h) else none
  | _, _ => none
theorem relint {mg : Mg} {w : Wd} {i : Int} {v : V} (r : RelA mg w (.d (.int i)) v) : v = .int i := by
  cases r with
  | d r => cases r; rfl
theorem relstr {mg : Mg} {w : Wd} {i : Str} {v : V} (r : RelA mg w (.d (.str i)) v) : v = .str i := by
  cases r with
  | d r => cases r; rfl
theorem relbl {mg : Mg} {w : Wd} {i : Bool} {v : V} (r : RelA mg w (.d (.bl i)) v) : v = .bl i := by
  cases r with
  | d r => cases r; rfl
def fMax2 : List A → Hh → Option (A × Hh) := int2C (fun _ _ => true) fun i j => .int (if j > i then j else i)
def fMin2 : List A → Hh → Option (A × Hh) := int2C (fun _ _ => true) fun i j => .int (if j < i then j else i)
theorem c_max2 (hc : X.calm = true) : CallI X (.builtin "max") fMax2 := CallI.of (call_max2 hc) fun w H h xs vs a h' Q S r e b => by
  unfold fMax2 int2C at e
  split at e
  · rename_i i j
    rw [if_pos rfl] at e
    cases e
    obtain ⟨v, u, rfl, rx, ry⟩ := rel2 r
    rw [relint rx, relint ry]
    exact ⟨i, j, rfl, b w H _ .rfl S (.d (.int _))⟩
  · cases e
theorem c_min2 (hc : X.calm = true) : CallI X (.builtin "min") fMin2 := CallI.of (call_min2 hc) fun w H h xs vs a h' Q S r e b => by
  unfold fMin2 int2C at e
  split at e
  · rename_i i j
    rw [if_pos rfl] at e
    cases e
    obtain ⟨v, u, rfl, rx, ry⟩ := rel2 r
    rw [relint rx, relint ry]
    exact ⟨i, j, rfl, b w H _ .rfl S (.d (.int _))⟩
  · cases e
def fAbs : List A → Hh → Option (A × Hh)
  | [.d (.int i)], h => some (.d (.int (if i < 0 then -i else i)), h)
  | _, _ => none
theorem c_abs : CallI X (.builtin "abs") fAbs := CallI.of call_abs fun w H h xs vs a h' Q S r e b => by
  unfold fAbs at e
  split at e
  · rename_i i
    cases e
    obtain ⟨v, rfl, rx⟩ := rel1 r
    rw [relint rx]
    exact ⟨i, rfl, b w H _ .rfl S (.d (.int _))⟩
  · cases e
def fInt : List A → Hh → Option (A × Hh)
  | [.d (.int i)], h => some (.d (.int i), h)
  | _, _ => none
theorem c_int : CallI X (.type "int") fInt := CallI.of call_int1 fun w H h xs vs a h' Q S r e b => by
  unfold fInt at e
  split at e
  · rename_i i
    cases e
    obtain ⟨v, rfl, rx⟩ := rel1 r
    rw [relint rx]
    exact .inl ⟨i, rfl, b w H _ .rfl S (.d (.int _))⟩
  · cases e
def fStrI : List A → Hh → Option (A × Hh)
  | [.d (.int i)], h => if i.natAbs.log2 < 1920 then some (.d (.str (toString i)), h) else none
  | _, _ => none
theorem c_strI : CallI X (.type "str") fStrI := CallI.of call_str_int fun w H h xs vs a h' Q S r e b => by
  unfold fStrI at e
  split at e
  · rename_i i
    split at e
    · rename_i hz
      cases e
      obtain ⟨v, rfl, rx⟩ := rel1 r
      rw [relint rx]
      exact ⟨i, rfl, hz, b w H _ .rfl S (.d (.str _))⟩
    · cases e
  · cases e
def fStrS : List A → Hh → Option (A × Hh)
  | [.d (.str i)], h => some (.d (.str i), h)
  | _, _ => none
theorem c_strS : CallI X (.type "str") fStrS := CallI.of SkE.call_str_str fun w H h xs vs a h' Q S r e b => by
  unfold fStrS at e
  split at e
  · rename_i i
    cases e
    obtain ⟨v, rfl, rx⟩ := rel1 r
    rw [relstr rx]
    exact ⟨i, rfl, b w H _ .rfl S (.d (.str _))⟩
  · cases e
/-- divmod -/
def fDivmod : List A → Hh → Option (A × Hh) := int2C (fun i j => decide (0 < j ∧ j < 1073741824)) fun i j => .tup [.int (i / j), .int (i % j)]
theorem c_divmod : CallI X (.builtin "divmod") fDivmod := CallI.of call_divmod fun w H h xs vs a h' Q S r e b => by
  unfold fDivmod int2C at e
  split at e
  · rename_i i j
    split at e
    · rename_i c
      cases e
      obtain ⟨v, u, rfl, rx, ry⟩ := rel2 r
      rw [relint rx, relint ry]
      refine ⟨i, j, rfl, of_decide_eq_true (p := 0 < j ∧ j < 1073741824) c, fun p hp => ?_⟩
      obtain ⟨w', l', S', r'⟩ := pair_new S (RelD.int (mg := X.mg) (fz := w.fz) (i / j)) (.int (i % j)) hp
      exact b w' _ _ l' S' r'
    · cases e
  · cases e
/-- all, any of a list of truths -/
def bls : List A → Option (List Bool)
  | [] => some []
  | .d (.bl b) :: r => (bls r).map (b :: ·)
  | _ => none
theorem bls_rel {mg : Mg} {w : Wd} : ∀ {as : List A} {vs : List V} {bs : List Bool}, RelAs mg w as vs → bls as = some bs → vs = bs.map V.bl
  | _, _, _, .nil, e => by cases e; rfl
  | a :: as, _, bs, .cons h t, e => by
    unfold bls at e
    split at e
    · rename_i q; cases q
    · rename_i b r q
      cases q
      obtain ⟨cs, h1, rfl⟩ := Option.map_eq_some_iff.mp e
      rw [relbl h, bls_rel t h1]; rfl
    · cases e
def fAll : List A → Hh → Option (A × Hh)
  | [x], h => match itemsL x h with
    | some xs => (bls xs).map fun bs => (.d (.bl (bs.all id)), h)
    | none => none
  | _, _ => none
def fAny : List A → Hh → Option (A × Hh)
  | [x], h => match itemsL x h with
    | some xs => (bls xs).map fun bs => (.d (.bl (bs.any id)), h)
    | none => none
  | _, _ => none
theorem c_all (hc : X.calm = true) : CallI X (.builtin "all") fAll := CallI.of (cr_all hc) fun w H h xs vs a h' Q S r e b => by
  unfold fAll at e
  split at e
  · rename_i x
    split at e
    · rename_i ys ey
      obtain ⟨bs, h1, h2⟩ := Option.map_eq_some_iff.mp e
      cases h2
      obtain ⟨v, rfl, rx⟩ := rel1 r
      obtain ⟨p, us, rfl, hp, rp⟩ := itemsL_rel S rx ey
      exact ⟨p, bs, rfl, by rw [← bls_rel rp h1]; exact SqL.of hp, b w H _ .rfl S (.d (.bl _))⟩
    · cases e
  · cases e
theorem c_any (hc : X.calm = true) : CallI X (.builtin "any") fAny := CallI.of (cr_any hc) fun w H h xs vs a h' Q S r e b => by
  unfold fAny at e
  split at e
  · rename_i x
    split at e
    · rename_i ys ey
      obtain ⟨bs, h1, h2⟩ := Option.map_eq_some_iff.mp e
      cases h2
      obtain ⟨v, rfl, rx⟩ := rel1 r
      obtain ⟨p, us, rfl, hp, rp⟩ := itemsL_rel S rx ey
      exact ⟨p, bs, rfl, by rw [← bls_rel rp h1]; exact SqL.of hp, b w H _ .rfl S (.d (.bl _))⟩
    · cases e
  · cases e
/-- list(x), tuple(x) of a list or tuple -/
def fList (cell : Bool) : List A → Hh → Option (A × Hh)
  | [x], h => match itemsL x h with
    | some xs => mkL cell xs h
    | none => match itemsT x with
      | some xs => mkL cell xs h
      | none => none
  | _, _ => none
theorem c_list {cell : Bool} : CallI X (.type "list") (fList cell) := CallI.of call_list_of fun w H h xs vs a h' Q S r e b => by
  unfold fList at e
  split at e
  · rename_i x
    obtain ⟨v, rfl, rx⟩ := rel1 r
    split at e
    · rename_i ys ey
      obtain ⟨p, us, rfl, hp, rp⟩ := itemsL_rel S rx ey
      exact ⟨p, us, rfl, .inl (SqL.of hp), (mkL_ok S rp e b).2⟩
    · split at e
      · rename_i ys ey
        obtain ⟨p, us, rfl, hp, rp⟩ := itemsT_rel S rx ey
        exact ⟨p, us, rfl, .inr (sqT_rd hp), (mkL_ok S rp e b).2⟩
      · cases e
  · cases e
def fTuple : List A → Hh → Option (A × Hh)
  | [x], h => match itemsL x h with
    | some xs => mkT xs h
    | none => match x with
      | .d (.tup xs) => some (.d (.tup xs), h)
      | .d (.tupN xs) => some (.d (.tupN xs), h)
      | _ => none
  | _, _ => none
theorem c_tuple : CallI X (.type "tuple") fTuple := CallI.of call_tuple_of fun w H h xs vs a h' Q S r e b => by
  unfold fTuple at e
  split at e
  · rename_i x
    obtain ⟨v, rfl, rx⟩ := rel1 r
    split at e
    · rename_i ys ey
      obtain ⟨p, us, rfl, hp, rp⟩ := itemsL_rel S rx ey
      exact ⟨p, us, rfl, .inl ⟨SqL.of hp, (mkT_ok S rp e b).2⟩⟩
    · split at e
      · rename_i ys _
        cases e
        obtain ⟨p, us, rfl, hp, rp⟩ := itemsT_rel S rx (xs := ys.map A.d) rfl
        exact ⟨p, us, rfl, .inr ⟨sqT_rd hp, b w H _ .rfl S rx⟩⟩
      · rename_i ys _
        cases e
        obtain ⟨p, us, rfl, hp, rp⟩ := itemsT_rel S rx (xs := ys.map A.d) rfl
        exact ⟨p, us, rfl, .inr ⟨sqT_rd hp, b w H _ .rfl S rx⟩⟩
      · cases e
  · cases e
/-! ### methods of built-in types -/
def MetI (X : Cx) (id : String) (F : A → List A → Hh → Option (A × Hh)) : Prop := MtR X id fun v vs H Q => ∃ w h x xs a h', Sm X.mg w H h ∧ RelA X.mg w x v ∧ RelAs X.mg w xs vs ∧ F x xs h = some (a, h') ∧ Bh X.mg w h' a Q
theorem MetI.of {id : String} {r : V → List V → Hp → VK → Prop} {F : A → List A → Hh → Option (A × Hh)} (o : MtR X id r)
    (h : ∀ (w : Wd) (H : Hp) (h : Hh) (x : A) (v : V) (xs : List A) (vs : List V) (a : A) (h' : Hh) (Q : VK), Sm X.mg w H h → RelA X.mg w x v → RelAs X.mg w xs vs → F x xs h = some (a, h') → Bh X.mg w h' a Q → r v vs H Q) : MetI X id F := by
  intro pins s σ H v vs u us Q I rv rx ⟨w, hh, x, xs, a, h', S, r1, r2, e, b⟩
  exact o pins s σ H v vs u us Q I rv rx (h w H hh x v xs vs a h' Q S r1 r2 e b)
/-- the receiver's type, as the interpreter sees it -/
def isT (T : String) : A → Hh → Bool := fun x h => match T with
  | "str" => match x with
    | .d (.str _) => true
    | _ => false
  | "list" => (itemsL x h).isSome
  | _ => false
theorem isT_rel {mg : Mg} {w : Wd} {H : Hp} {h : Hh} {K : PySem.W.Frag} (S : Sm mg w H h) {T : String} {x : A} {v : V} (r : RelA mg w x v) (e : isT T x h = true) : tyV K T v H := by
  unfold isT at e
  split at e
  · split at e
    · rw [relstr r]; rfl
    · cases e
  · obtain ⟨xs, hx⟩ := Option.isSome_iff_exists.mp e
    obtain ⟨p, us, rfl, hp, rp⟩ := itemsL_rel S r hx
    exact .inl ⟨rfl, us, SqL.of hp⟩
  · cases e
def mMet (T : String) (F : A → List A → Hh → Option (A × Hh)) (o : EI) (r : AI) : EI := fun ρ h => match o ρ h with
  | some (x, h1) => if isT T x h1 then match r ρ h1 with
    | some (xs, h2) => F x xs h2
    | none => none
    else none
  | none => none
theorem met_split {T : String} {F : A → List A → Hh → Option (A × Hh)} {mo : EI} {r : AI} {σ : L2.St} {H : Hp} {Q : VK} (q : rE X.mg (mMet T F mo r) σ H Q) :
    rE X.mg mo σ H fun v H1 => tyV X.K T v H1 ∧ rA X.mg r σ H1 fun vs H2 => ∃ w h x xs a h', Sm X.mg w H2 h ∧ RelA X.mg w x v ∧ RelAs X.mg w xs vs ∧ F x xs h = some (a, h') ∧ Bh X.mg w h' a Q := by
  obtain ⟨w, ρ, h, a, h', S, E, e, b⟩ := q
  unfold mMet at e
  split at e
  · rename_i x h1 e1
    split at e
    · rename_i ct
      split at e
      · rename_i xs h2 e2
        refine ⟨w, ρ, h, x, h1, S, E, e1, fun w1 H1 v l1 S1 r1 => ⟨isT_rel S1 r1 ct, w1, ρ, h1, xs, h2, S1, E.mono l1, e2, fun w2 H2 vs l2 S2 r2 => ⟨w2, h2, x, xs, a, h', S2, r1.mono l2, r2, e, b.le (l1.trans l2)⟩⟩⟩
      · cases e
    · cases e
  · cases e
theorem e_met {T name id : String} {F : A → List A → Hh → Option (A × Hh)} {o e : Expr} {es : List Expr} {mo : EI} {m : AI} {apos cpos : Pos} (pa : PlainAttrs T) (slot : Slot T name id) (hty : typeOf (.builtin id) = pure (.type "method_descriptor")) (hm : MetI X id F) (ho : PE X o (rE X.mg mo)) (ha : PA X (e :: es) (rA X.mg m))
    (hbase : attributeBase o name X.env (eval o X.env) = eval o X.env := by rfl)
    (hfew : ((backTo cpos (starEach (e :: es) X.env)).all (fun x => !x.1) && (backToKw cpos (keywordEach [] X.env)).all (fun x => x.1.isSome) && decide ((e :: es).length + ([] : List Keyword).length + (if ([] : List Keyword).isEmpty then 0 else 1) < 30)) = true := by rfl)
    (hline : (apos.endLine == cpos.line) = true := by rfl) (hs : starEach (e :: es) X.env = (false, eval e X.env) :: starEach es X.env := by rfl) (hplain : (backTo cpos (starEach es X.env)).any (·.1) = false := by rfl) :
    PE X (.Call (.Attribute o name apos) (e :: es) [] cpos) (rE X.mg (mMet T F mo m)) := PE.imp (pe_bm pa slot hty hm ho ha hbase hfew hline hs hplain) fun σ H Q q => met_split q
theorem e_met0 {T name id : String} {F : A → List A → Hh → Option (A × Hh)} {o : Expr} {mo : EI} {apos cpos : Pos} (pa : PlainAttrs T) (slot : Slot T name id) (hty : typeOf (.builtin id) = pure (.type "method_descriptor")) (hm : MetI X id F) (ho : PE X o (rE X.mg mo))
    (hbase : attributeBase o name X.env (eval o X.env) = eval o X.env := by rfl) (hline : (apos.endLine == cpos.line) = true := by rfl) :
    PE X (.Call (.Attribute o name apos) [] [] cpos) (rE X.mg (mMet T F mo mNil)) := PE.imp (pe_bm0 pa slot hty hm ho hbase hline) fun σ H Q q => by
  obtain ⟨w, ρ, h, a, h', S, E, e, k⟩ := met_split (X := X) q
  refine ⟨w, ρ, h, a, h', S, E, e, fun w1 H1 v l1 S1 r1 => ?_⟩
  obtain ⟨ty, w2, ρ2, h2, as, h3, S2, E2, e2, k2⟩ := k w1 H1 v l1 S1 r1
  cases e2
  exact ⟨ty, k2 w2 H1 [] .rfl S2 .nil⟩
/-- xs.append(y) on a cell -/
def fAppend : A → List A → Hh → Option (A × Hh)
  | .ref l, [y], h => match h[l]? with
    | some (.lst xs) => if xs.length < LIM then some (.d .non, h.set l (.lst (xs ++ [y]))) else none
    | _ => none
  | _, _, _ => none
theorem m_append : MetI X "list.append" fAppend := MetI.of mt_append fun w H h x v xs vs a h' Q S r1 r2 e b => by
  unfold fAppend at e
  split at e
  · rename_i l y
    split at e
    · rename_i ys q
      split at e
      · rename_i hz
        cases e
        obtain ⟨u, rfl, ru⟩ := rel1 r2
        cases r1 with
        | @ref _ p hp =>
          cases S.cell l p _ hp q with
          | @lst _ us h1 h2 =>
            refine ⟨p, us, u, rfl, rfl, h1, by rw [← h2.length]; exact lim_size1 (Nat.le_of_lt hz), b w _ _ .rfl (S.write hp (fun o z => by rw [q] at z; cases z; exact True.intro) (.lst upd_same (h2.append (.cons ru .nil)))) (.d .non)⟩
      · cases e
    · cases e
  · cases e
theorem RelAs.erase {mg : Mg} {w : Wd} : ∀ {as : List A} {vs : List V}, RelAs mg w as vs → ∀ i, RelAs mg w (as.eraseIdx i) (vs.eraseIdx i)
  | _, _, .nil, _ => .nil
  | _, _, .cons h t, 0 => t
  | _, _, .cons h t, i + 1 => .cons h (RelAs.erase t i)
/-- xs.pop(i) on a cell -/
def fPopAt : A → List A → Hh → Option (A × Hh)
  | .ref l, [.d (.int i)], h => match h[l]? with
    | some (.lst xs) => if -(2 ^ 63) ≤ i ∧ i < 2 ^ 63 then match seqIndex? i xs.length with
      | some k => (xs[k]?).map fun y => (y, h.set l (.lst (xs.eraseIdx k)))
      | none => none
      else none
    | _ => none
  | _, _, _ => none
theorem m_popAt : MetI X "list.pop" fPopAt := MetI.of mt_popAt fun w H h x v xs vs a h' Q S r1 r2 e b => by
  unfold fPopAt at e
  split at e
  · rename_i l i
    split at e
    · rename_i ys q
      split at e
      · rename_i hz
        split at e
        · rename_i k ek
          obtain ⟨y, hy, z⟩ := Option.map_eq_some_iff.mp e
          cases z
          obtain ⟨u, rfl, ru⟩ := rel1 r2
          rw [relint ru]
          cases r1 with
          | @ref _ p hp =>
            cases S.cell l p _ hp q with
            | @lst _ us h1 h2 =>
              obtain ⟨vy, hvy, ry⟩ := h2.get hy
              exact ⟨p, us, i, k, vy, rfl, rfl, h1, hz.1, hz.2, by rw [← h2.length]; exact ek, hvy, b w _ _ .rfl (S.write hp (fun o z => by rw [q] at z; cases z; exact True.intro) (.lst upd_same (h2.erase k))) ry⟩
        · cases e
      · cases e
    · cases e
  · cases e
/-! texts -/
def txts : List A → Option (List Str)
  | [] => some []
  | .d (.str b) :: r => (txts r).map (b :: ·)
  | _ => none
theorem txts_rel {mg : Mg} {w : Wd} : ∀ {as : List A} {vs : List V} {bs : List Str}, RelAs mg w as vs → txts as = some bs → vs = bs.map V.str
  | _, _, _, .nil, e => by cases e; rfl
  | a :: as, _, bs, .cons h t, e => by
    unfold txts at e
    split at e
    · rename_i q; cases q
    · rename_i b r q
      cases q
      obtain ⟨cs, h1, rfl⟩ := Option.map_eq_some_iff.mp e
      rw [relstr h, txts_rel t h1]; rfl
    · cases e
theorem RelAs.txts {mg : Mg} {w : Wd} : ∀ (ys : List Str), RelAs mg w (ys.map fun y => .d (.str y)) (ys.map V.str)
  | [] => .nil
  | _ :: ys => .cons (.d (.str _)) (RelAs.txts ys)
def fJoin : A → List A → Hh → Option (A × Hh)
  | .d (.str a), [x], h => match itemsL x h with
    | some xs => match txts xs with
      | some ys => if (ys.map (·.length)).sum + ys.length * a.length ≤ 16777216 then some (.d (.str (Txt.join a ys)), h) else none
      | none => none
    | none => none
  | _, _, _ => none
theorem m_join : MetI X "str.join" fJoin := MetI.of mt_join fun w H h x v xs vs a h' Q S r1 r2 e b => by
  unfold fJoin at e
  split at e
  · rename_i s y
    split at e
    · rename_i ys ey
      split at e
      · rename_i zs ez
        split at e
        · rename_i hz
          cases e
          obtain ⟨u, rfl, ru⟩ := rel1 r2
          obtain ⟨p, us, rfl, hp, rp⟩ := itemsL_rel S ru ey
          rw [relstr r1]
          exact ⟨s, p, zs, rfl, rfl, .inl (by rw [← txts_rel rp ez]; exact SqL.of hp), hz, b w H _ .rfl S (.d (.str _))⟩
        · cases e
      · cases e
    · cases e
  · cases e
def fSplit (cell : Bool) : A → List A → Hh → Option (A × Hh)
  | .d (.str a), [.d (.str s)], h => if s.length ≠ 0 ∧ a.length + 2 ≤ LIM then mkL cell ((Txt.split a s).map fun y => .d (.str y)) h else none
  | _, _, _ => none
theorem m_split {cell : Bool} : MetI X "str.split" (fSplit cell) := MetI.of mt_split fun w H h x v xs vs a h' Q S r1 r2 e b => by
  unfold fSplit at e
  split at e
  · rename_i s y
    split at e
    · rename_i hz
      obtain ⟨u, rfl, ru⟩ := rel1 r2
      rw [relstr r1, relstr ru]
      exact ⟨s, y, rfl, rfl, by simpa using hz.1, lim_size hz.2, (mkL_ok S (RelAs.txts _) e b).2⟩
    · cases e
  · cases e
def fStr0 (g : Str → Bool) : A → List A → Hh → Option (A × Hh)
  | .d (.str a), [], h => some (.d (.bl (g a)), h)
  | _, _, _ => none
theorem m_str0 {id : String} {g : Str → Bool} (o : MtR X id fun x xs H Q => ∃ a, x = .str a ∧ xs = [] ∧ True ∧ Q (.bl (g a)) H) : MetI X id (fStr0 g) := MetI.of o fun w H h x v xs vs a h' Q S r1 r2 e b => by
  unfold fStr0 at e
  split at e
  · rename_i s
    cases e
    cases r2
    rw [relstr r1]
    exact ⟨s, rfl, rfl, trivial, b w H _ .rfl S (.d (.bl _))⟩
  · cases e
end
end F2
set_option Elab.async false
set_option linter.all false
set_option maxRecDepth 100000
set_option maxHeartbeats 4000000
namespace F2
open PySem PySem.Spec PyProof.Rows L2
section
variable {X : Cx}
/-! ### stores by place and key -/
def putG {κ α : Type} [DecidableEq κ] (kvs : List (κ × α)) (k : κ) (v : α) : List (κ × α) :=
  if (kvs.any fun kv => decide (kv.1 = k)) = true then kvs.map (fun kv => if kv.1 = k then (kv.1, v) else kv) else kvs ++ [(k, v)]
theorem RelAk.any {mg : Mg} {w : Wd} {κ : Type} [DecidableEq κ] (k : κ) : ∀ {as : List (κ × A)} {vs : List (κ × V)}, RelAk mg w as vs → (as.any fun kv => decide (kv.1 = k)) = (vs.any fun kv => decide (kv.1 = k))
  | _, _, .nil => rfl
  | _, _, .cons h t => by rw [List.any_cons, List.any_cons, RelAk.any k t]
theorem RelAk.over {mg : Mg} {w : Wd} {κ : Type} [DecidableEq κ] (k : κ) {a : A} {v : V} (r : RelA mg w a v) : ∀ {as : List (κ × A)} {vs : List (κ × V)}, RelAk mg w as vs →
    RelAk mg w (as.map fun kv => if kv.1 = k then (kv.1, a) else kv) (vs.map fun kv => if kv.1 = k then (kv.1, v) else kv)
  | _, _, .nil => .nil
  | _, _, .cons (k := j) h t => by
    rw [List.map_cons, List.map_cons]
    by_cases e : j = k
    · rw [if_pos e, if_pos e]; exact .cons r (RelAk.over k r t)
    · rw [if_neg e, if_neg e]; exact .cons h (RelAk.over k r t)
theorem RelAk.snoc {mg : Mg} {w : Wd} {κ : Type} {k : κ} {a : A} {v : V} (r : RelA mg w a v) : ∀ {as : List (κ × A)} {vs : List (κ × V)}, RelAk mg w as vs → RelAk mg w (as ++ [(k, a)]) (vs ++ [(k, v)])
  | _, _, .nil => .cons r .nil
  | _, _, .cons h t => .cons h (RelAk.snoc r t)
theorem RelAk.put {mg : Mg} {w : Wd} {κ : Type} [DecidableEq κ] {k : κ} {a : A} {v : V} (r : RelA mg w a v) {as : List (κ × A)} {vs : List (κ × V)} (q : RelAk mg w as vs) : RelAk mg w (putG as k a) (putK vs k v) := by
  unfold putG putK
  rw [q.any k]
  split
  · exact q.over k r
  · exact q.snoc r
theorem RelAs.set {mg : Mg} {w : Wd} {a : A} {v : V} (r : RelA mg w a v) : ∀ {as : List A} {vs : List V}, RelAs mg w as vs → ∀ i, RelAs mg w (as.set i a) (vs.set i v)
  | _, _, .nil, _ => .nil
  | _, _, .cons h t, 0 => .cons r t
  | _, _, .cons h t, i + 1 => .cons h (RelAs.set r t i)
def stF : A → A → A → Hh → Option Hh
  | .ref l, i, v, h => match h[l]? with
    | some (.lst xs) => match i with
      | .d (.int k) => (ixN xs.length k).map fun j => h.set l (.lst (xs.set j v))
      | _ => none
    | some (.dK kvs) => match i with
      | .d y => match keyOf y with
        | some k => if kvs.length < LIM then some (h.set l (.dK (putG kvs k v))) else none
        | none => none
      | _ => none
    | some (.dT kvs) => match i with
      | .d (.tup ys) => match keysOf ys with
        | some k => if kvs.length < LIM then some (h.set l (.dT (putG kvs k v))) else none
        | none => none
      | _ => none
    | _ => none
  | _, _, _, _ => none
def TSt (X : Cx) : TSet := fun vo vi vv H Q => ∃ w h o i v h', Sm X.mg w H h ∧ RelA X.mg w o vo ∧ RelA X.mg w i vi ∧ RelA X.mg w v vv ∧ stF o i v h = some h' ∧ ∀ w' H', w.le w' → Sm X.mg w' H' h' → Q H'
theorem set_ok (hu : X.A.units + 1 < cLine) : PSet X (TSt X) := by
  intro pins s σ H vo vi vv ov iv u Q I ro ri rv ⟨w, h, o, i, v, h', S, r1, r2, r3, e, b⟩
  unfold stF at e
  split at e
  · rename_i l
    cases r1 with
    | @ref _ p hp =>
      split at e
      · rename_i xs q
        split at e
        · rename_i k
          obtain ⟨j, hj, z⟩ := Option.map_eq_some_iff.mp e
          subst z
          have ei := relint r2
          subst ei
          cases S.cell l p _ hp q with
          | @lst _ us h1 h2 =>
            exact set_list pins s σ H (.ref p) (.int k) vv ov iv u Q I ro ri rv ⟨p, us, k, j, rfl, rfl, h1, by rw [← h2.length]; exact hj, b w _ .rfl (S.write hp (fun o z => by rw [q] at z; cases z; exact True.intro) (.lst upd_same (h2.set r3 j)))⟩
        · cases e
      · rename_i kvs q
        split at e
        · rename_i y
          split at e
          · rename_i k ek
            split at e
            · rename_i hz
              cases e
              cases r2 with
              | d r2 =>
                have ei := keyOf_rel r2 ek
                subst ei
                cases S.cell l p _ hp q with
                | @dK _ us h1 h2 =>
                  cases ro
                  exact d_setItem hu I (.inl ⟨us, k, h1, rfl, by rw [← h2.length]; exact lim_size1 (Nat.le_of_lt hz), rfl⟩) ri rv fun s' I' => ⟨_, I', b w _ .rfl (S.write hp (fun o z => by rw [q] at z; cases z; exact True.intro) (.dK upd_same (h2.put r3)))⟩
            · cases e
          · cases e
        · cases e
      · rename_i kvs q
        split at e
        · rename_i ys
          split at e
          · rename_i k ek
            split at e
            · rename_i hz
              cases e
              cases r2 with
              | d r2 =>
                cases r2 with
                | @tup c cs _ q0 rs =>
                  have ei := keysOf_rel rs ek
                  subst ei
                  cases S.cell l p _ hp q with
                  | @dT _ us h1 h2 =>
                    cases ro
                    exact d_setItem hu I (.inr ⟨us, k, c, h1, rfl, S.st _ _ q0 True.intro, by rw [← h2.length]; exact lim_size1 (Nat.le_of_lt hz), rfl⟩) ri rv fun s' I' => ⟨_, I', b w _ .rfl (S.write hp (fun o z => by rw [q] at z; cases z; exact True.intro) (.dT upd_same (h2.put r3)))⟩
            · cases e
          · cases e
        · cases e
      · cases e
  · cases e
def gSub (mo mi : EI) : GI := fun a ρ h => match mo ρ h with
  | some (o, h1) => match mi ρ h1 with
    | some (i, h2) => (stF o i a h2).map fun h3 => (ρ, h3)
    | none => none
  | none => none
theorem g_sub (hu : X.A.units + 1 < cLine) {o i : Expr} {mo mi : EI} {pos : Pos} (ho : PE X o (rE X.mg mo)) (hi : PE X i (rE X.mg mi))
    (ha : ∀ v, assign (.Subscript o i pos) X.env v = (do
      let ov ← holding [v] (eval o X.env)
      let iv ← holding [v, ov] (eval i X.env)
      standAt pos
      holding [v, ov, iv] (setItem ov iv v)
      release [v, ov, iv] []) := by intro _; rfl) : PG X (.Subscript o i pos) (rG X.mg (gSub mo mi)) :=
  PG.imp (pg_sub ho hi (set_ok hu) ha) fun v σ H Q ⟨w, ρ, h, a, ρ', h', S, E, r, e, b⟩ => by
    unfold gSub at e
    split at e
    · rename_i x h1 e1
      split at e
      · rename_i y h2 e2
        obtain ⟨h3, e3, z⟩ := Option.map_eq_some_iff.mp e
        cases z
        exact ⟨w, ρ, h, x, h1, S, E, e1, fun w1 H1 vx l1 S1 r1 => ⟨w1, ρ, h1, y, h2, S1, E.mono l1, e2, fun w2 H2 vy l2 S2 r2 => ⟨w2, h2, x, y, a, h', S2, r1.mono l2, r2, r.mono (l1.trans l2), e3, fun w3 H3 l3 S3 => b w3 H3 σ ((l1.trans l2).trans l3) S3 (E.mono ((l1.trans l2).trans l3))⟩⟩⟩
      · cases e
    · cases e
/-- o[i] = e -/
theorem s_put (hu : X.A.units + 1 < cLine) {o i e : Expr} {mo mi m : EI} {pos pos' : Pos} (ho : PE X o (rE X.mg mo)) (hi : PE X i (rE X.mg mi)) (he : PE X e (rE X.mg m)) (hs : swapsWithSole [.Subscript o i pos'] e pos.line X.env = pure false := by rfl) (hw : swappedStores [.Subscript o i pos'] e X.env = pure none := by rfl)
    (h1 : (assignEach [.Subscript o i pos'] X.env).map (·.2) = [assign (.Subscript o i pos') X.env] := by rfl)
    (ha : ∀ v, assign (.Subscript o i pos') X.env v = (do
      let ov ← holding [v] (eval o X.env)
      let iv ← holding [v, ov] (eval i X.env)
      standAt pos'
      holding [v, ov, iv] (setItem ov iv v)
      release [v, ov, iv] []) := by intro _; rfl) : PS X (.Assign [.Subscript o i pos'] e pos) (rS X.mg (mAsg m (gSub mo mi))) := s_asg he (g_sub hu ho hi ha) hs hw h1
/-- a, b = x, y for plain local names -/
def mPar (i j : Nat) (m : AI) : SI := fun ρ h => match m ρ h with
  | some ([a, b], h1) => some (.nx ((ρ.set i (some a)).set j (some b)) h1)
  | _ => none
theorem s_par (i j : Nat) {x y : Str} {a b : Expr} {m : AI} {px py pt : Pos} {kt k2 pt2} {pos : Pos} (hc : X.calm = true) (hN : X.N.Nodup) (ha : PA X [a, b] (rA X.mg m)) (hi : X.N[i]? = some x := by rfl) (hj : X.N[j]? = some y := by rfl) (hij : i ≠ j := by decide)
    (hx : X.env.scope.names.lookup x = some .local := by rfl) (hy : X.env.scope.names.lookup y = some .local := by rfl)
    (t : PS X (.Assign [.Tuple [.Name x px, .Name y py] kt pt] (.Tuple [a, b] k2 pt2) pos) (tPar i j (rA X.mg m))) : PS X (.Assign [.Tuple [.Name x px, .Name y py] kt pt] (.Tuple [a, b] k2 pt2) pos) (rS X.mg (mPar i j m)) :=
  PS.imp t fun D σ H ⟨w, ρ, h, o, S, E, e, bb⟩ => by
    unfold mPar at e
    split at e
    · rename_i a1 b1 h1 e1
      cases e
      refine ⟨w, ρ, h, _, h1, S, E, e1, fun w1 H1 vs l1 S1 r1 => ?_⟩
      obtain ⟨v, u, rfl, rv, ru⟩ := rel2 r1
      exact ⟨v, u, rfl, bb w1 H1 _ l1 S1 (((E.mono l1).set rv).set ru)⟩
    · cases e
/-! ### slices -/
def partI (m : Option EI) : En → Hh → Option (Option Int × Hh) := fun ρ h => match m with
  | none => some (none, h)
  | some m => match m ρ h with
    | some (.d (.int i), h1) => some (some i, h1)
    | _ => none
def rP (mg : Mg) (m : Option EI) : TO := fun σ H Q => ∃ w ρ h o h', Sm mg w H h ∧ EnvOk mg w ρ σ ∧ partI m ρ h = some (o, h') ∧ ∀ w' H', w.le w' → Sm mg w' H' h' → Q o H'
theorem PO.imp {e : Option Expr} {t t' : TO} (p : PO X e t) (h : ∀ σ H Q, t' σ H Q → t σ H Q) : PO X e t' := ⟨fun pins s σ H Q I q => p.run pins s σ H Q I (h σ H Q q)⟩
theorem p_none : PO X none (rP X.mg none) := PO.imp po_none fun σ H Q ⟨w, ρ, h, o, h', S, E, e, b⟩ => by
  cases e
  exact b w H .rfl S
theorem p_some {e : Expr} {m : EI} (he : PE X e (rE X.mg m)) : PO X (some e) (rP X.mg (some m)) := PO.imp (po_some he) fun σ H Q ⟨w, ρ, h, o, h', S, E, e, b⟩ => by
  unfold partI at e
  dsimp only at e
  split at e
  · rename_i i h1 e1
    cases e
    exact ⟨w, ρ, h, _, h', S, E, e1, fun w1 H1 v l1 S1 r1 => ⟨i, relint r1, b w1 H1 l1 S1⟩⟩
  · cases e
def cutA {α : Type} (xs : List α) (lo hi : Option Int) : List α := (xs.drop (HT.sIx xs.length 0 lo)).take (HT.sIx xs.length xs.length hi - HT.sIx xs.length 0 lo)
theorem RelAs.drop {mg : Mg} {w : Wd} : ∀ {as : List A} {vs : List V}, RelAs mg w as vs → ∀ i, RelAs mg w (as.drop i) (vs.drop i)
  | _, _, r, 0 => r
  | _, _, .nil, _ + 1 => .nil
  | _, _, .cons h t, i + 1 => RelAs.drop t i
theorem RelAs.take {mg : Mg} {w : Wd} : ∀ {as : List A} {vs : List V}, RelAs mg w as vs → ∀ i, RelAs mg w (as.take i) (vs.take i)
  | _, _, _, 0 => .nil
  | _, _, .nil, _ + 1 => .nil
  | _, _, .cons h t, i + 1 => .cons h (RelAs.take t i)
theorem RelAs.cut {mg : Mg} {w : Wd} {as : List A} {vs : List V} (r : RelAs mg w as vs) (lo hi : Option Int) : RelAs mg w (cutA as lo hi) (cutV vs lo hi) := by
  unfold cutA cutV
  rw [r.length]
  exact (r.drop _).take _
def mSlc (cell : Bool) (mo : EI) (lo hi : Option EI) : EI := fun ρ h => match mo ρ h with
  | some (x, h1) => match partI lo ρ h1 with
    | some (l, h2) => match partI hi ρ h2 with
      | some (u, h3) => match x with
        | .d (.tup xs) => if HT.sIx xs.length 0 l = 0 ∧ HT.sIx xs.length xs.length u = xs.length then some (x, h3) else mkT ((cutA xs l u).map A.d) h3
        | .d (.tupN xs) => if HT.sIx xs.length 0 l = 0 ∧ HT.sIx xs.length xs.length u = xs.length then some (x, h3) else mkT ((cutA xs l u).map A.d) h3
        | .d (.scr ns) => mkL cell ((cutA ns l u).map fun n => .d (.int n)) h3
        | _ => match itemsL x h3 with
          | some xs => mkL cell (cutA xs l u) h3
          | none => none
      | none => none
    | none => none
  | none => none
theorem cutA_map {α β : Type} (f : α → β) (xs : List α) (lo hi : Option Int) : (cutA xs lo hi).map f = cutA (xs.map f) lo hi := by
  unfold cutA
  rw [List.length_map, List.map_take, List.map_drop]
theorem RelAs.ints {mg : Mg} {w : Wd} : ∀ (ns : List Int), RelAs mg w (ns.map fun n => .d (.int n)) (ns.map V.int)
  | [] => .nil
  | _ :: ns => .cons (.d (.int _)) (RelAs.ints ns)
theorem e_slc (cell : Bool) {e : Expr} {lo hi : Option Expr} {mo : EI} {ml mh : Option EI} {p2 pos : Pos} (he : PE X e (rE X.mg mo)) (hl : PO X lo (rP X.mg ml)) (hh : PO X hi (rP X.mg mh)) : PE X (.Subscript e (.Slice lo hi none p2) pos) (rE X.mg (mSlc cell mo ml mh)) :=
  PE.imp (pe_slice (sl_tupA.or sl_list) he hl hh) fun σ H Q ⟨w, ρ, h, a, h', S, E, e, b⟩ => by
    unfold mSlc at e
    split at e
    · rename_i x h1 e1
      split at e
      · rename_i l h2 e2
        split at e
        · rename_i u h3 e3
          refine ⟨w, ρ, h, x, h1, S, E, e1, fun w1 H1 v l1 S1 r1 => ⟨w1, ρ, h1, l, h2, S1, E.mono l1, e2, fun w2 H2 l2 S2 => ⟨w2, ρ, h2, u, h3, S2, (E.mono l1).mono l2, e3, fun w3 H3 l3 S3 => ?_⟩⟩⟩
          have r3 := r1.mono (l2.trans l3)
          have b3 := b.le ((l1.trans l2).trans l3)
          split at e
          · rename_i xs
            obtain ⟨p, us, rfl, hp, rp⟩ := itemsT_rel S3 r3 (xs := xs.map A.d) rfl
            have hlen := rp.length
            rw [List.length_map] at hlen
            refine .inl ⟨p, us, rfl, sqT_rd hp, fun hw => ?_, fun hw => ?_⟩
            · rw [← hlen] at hw
              rw [if_pos hw] at e
              cases e
              exact b3 w3 H3 _ .rfl S3 r3
            · rw [← hlen] at hw
              rw [if_neg hw, cutA_map] at e
              exact (mkT_ok S3 (rp.cut l u) e b3).2
          · rename_i xs
            obtain ⟨p, us, rfl, hp, rp⟩ := itemsT_rel S3 r3 (xs := xs.map A.d) rfl
            have hlen := rp.length
            rw [List.length_map] at hlen
            refine .inl ⟨p, us, rfl, sqT_rd hp, fun hw => ?_, fun hw => ?_⟩
            · rw [← hlen] at hw
              rw [if_pos hw] at e
              cases e
              exact b3 w3 H3 _ .rfl S3 r3
            · rw [← hlen] at hw
              rw [if_neg hw, cutA_map] at e
              exact (mkT_ok S3 (rp.cut l u) e b3).2
          · rename_i ns
            cases r3 with
            | d r3 =>
              cases r3 with
              | scr q =>
                rw [cutA_map] at e
                exact .inr ⟨_, _, rfl, .inl (.inr ⟨_, S3.st _ _ q True.intro⟩), (mkL_ok S3 ((RelAs.ints ns).cut l u) e b3).2⟩
          · split at e
            · rename_i xs ex
              obtain ⟨p, us, rfl, hp, rp⟩ := itemsL_rel S3 r3 ex
              exact .inr ⟨p, us, rfl, SqL.of hp, (mkL_ok S3 (rp.cut l u) e b3).2⟩
            · cases e
        · cases e
      · cases e
    · cases e
/-- xs[::-1] of a list -/
def fRev (cell : Bool) : A → Hh → Option (A × Hh) := fun x h => match itemsL x h with
  | some xs => mkL cell xs.reverse h
  | none => none
theorem RelAs.reverse {mg : Mg} {w : Wd} : ∀ {as : List A} {vs : List V}, RelAs mg w as vs → RelAs mg w as.reverse vs.reverse
  | _, _, .nil => .nil
  | _, _, .cons h t => by rw [List.reverse_cons, List.reverse_cons]; exact (RelAs.reverse t).append (.cons h .nil)
theorem e_rev (cell : Bool) {e : Expr} {m : EI} {k : Nat} {p1 p2 p3 pos : Pos} (he : PE X e (rE X.mg m)) : PE X (.Subscript e (.Slice none none (some (.UnaryOp .USub (.Constant (.int 1) k p1) p2)) p3) pos) (rE X.mg (mUn (fRev cell) m)) :=
  PE.imp (pe_revL he) fun σ H Q q => by
    obtain ⟨w, ρ, h, x, h1, S, E, e1, k⟩ := un_split (X := X) q
    refine ⟨w, ρ, h, x, h1, S, E, e1, fun w1 H1 v l1 S1 r1 => ?_⟩
    obtain ⟨w2, h2, y, a, h3, S2, r2, e2, b⟩ := k w1 H1 v l1 S1 r1
    unfold fRev at e2
    split at e2
    · rename_i xs ex
      obtain ⟨p, us, rfl, hp, rp⟩ := itemsL_rel S2 r2 ex
      exact ⟨p, us, rfl, SqL.of hp, (mkL_ok S2 rp.reverse e2 b).2⟩
    · cases e2
/-! ### instances -/
/-- the fields of an instance of the class c -/
def fieldsOf (c : Str) : A → Hh → Option (List (Str × A))
  | .d (.ins c' fs), _ => if c' = c then some (fs.map fun p => (p.1, A.d p.2)) else none
  | .ref l, h => match h[l]? with
    | some (.ins c' fs) => if c' = c then some fs else none
    | _ => none
  | _, _ => none
theorem fieldsOf_rel {mg : Mg} {w : Wd} {H : Hp} {h : Hh} (S : Sm mg w H h) {c : Str} {C : Addr} (hC : mg c = some (.ref C)) {x : A} {v : V} {fs : List (Str × A)} (r : RelA mg w x v) (e : fieldsOf c x h = some fs) :
    ∃ a dx gs, v = .ref a ∧ H a = some (.ins C dx gs) ∧ RelAf mg w fs gs := by
  cases r with
  | d r =>
    cases r with
    | ins hc q rf =>
      simp only [fieldsOf] at e
      split at e
      · rename_i ec
        subst ec
        cases e
        rw [hC] at hc; cases hc
        exact ⟨_, _, _, rfl, S.st _ _ q True.intro, rf.as⟩
      · cases e
    | _ => cases e
  | @ref l p hp =>
    simp only [fieldsOf] at e
    split at e
    · rename_i c' fs' q
      split at e
      · rename_i ec
        subst ec
        cases e
        cases S.cell l p _ hp q with
        | ins hc h1 h2 =>
          rw [hC] at hc; cases hc
          exact ⟨p, _, _, rfl, h1, h2⟩
      · cases e
    · cases e
  | tp _ _ => cases e
theorem lookup_rel {mg : Mg} {w : Wd} {f : Str} : ∀ {fs : List (Str × A)} {gs : List (Str × V)}, RelAf mg w fs gs → (fs.lookup f = none ∧ gs.lookup f = none) ∨ ∃ a v, fs.lookup f = some a ∧ gs.lookup f = some v ∧ RelA mg w a v
  | _, _, .nil => .inl ⟨rfl, rfl⟩
  | _, _, .cons (k := k) (d := d) (v := v) h t => by
    by_cases e : f = k
    · have hb : (f == k) = true := beq_iff_eq.mpr e
      exact .inr ⟨d, v, by simp only [List.lookup, hb], by simp only [List.lookup, hb], h⟩
    · have hb : (f == k) = false := beq_eq_false_iff_ne.mpr e
      simp only [List.lookup, hb]
      exact lookup_rel t
def fFld (c f : Str) : A → Hh → Option (A × Hh) := fun x h => match fieldsOf c x h with
  | some fs => (fs.lookup f).map fun a => (a, h)
  | none => none
theorem e_fld (c : Str) {C : Addr} {f : Str} {e : Expr} {m : EI} {pos : Pos} (hC : X.mg c = some (.ref C)) (cl : Cls X.K C) (na : NoAttr X.K C f) (he : PE X e (rE X.mg m)) (hb : attributeBase e f X.env (eval e X.env) = eval e X.env := by rfl) : PE X (.Attribute e f pos) (rE X.mg (mUn (fFld c f) m)) :=
  PE.imp (pe_fld he hb) fun σ H Q q => by
    obtain ⟨w, ρ, h, x, h1, S, E, e1, k⟩ := un_split (X := X) q
    refine ⟨w, ρ, h, x, h1, S, E, e1, fun w1 H1 v l1 S1 r1 => ?_⟩
    obtain ⟨w2, h2, y, a, h3, S2, r2, e2, b⟩ := k w1 H1 v l1 S1 r1
    unfold fFld at e2
    split at e2
    · rename_i fs ef
      obtain ⟨a', e3, z⟩ := Option.map_eq_some_iff.mp e2
      cases z
      obtain ⟨p, dx, gs, rfl, hp, rf⟩ := fieldsOf_rel S2 hC r2 ef
      rcases lookup_rel (f := f) rf with ⟨z, _⟩ | ⟨a2, v2, z1, z2, z3⟩
      · rw [z] at e3; cases e3
      · rw [e3] at z1; cases z1
        exact ⟨p, C, dx, gs, v2, rfl, hp, cl, na, z2, b w2 H1 _ .rfl S2 z3⟩
    · cases e2
def putFA (f : Str) (v : A) : List (Str × A) → List (Str × A)
  | [] => [(f, v)]
  | (g, x) :: r => if g = f then (g, v) :: r else (g, x) :: putFA f v r
theorem putF_rel {mg : Mg} {w : Wd} {f : Str} {a : A} {v : V} (r : RelA mg w a v) : ∀ {fs : List (Str × A)} {gs : List (Str × V)}, RelAf mg w fs gs → RelAf mg w (putFA f a fs) (putF f v gs)
  | _, _, .nil => .cons r .nil
  | _, _, .cons (k := k) h t => by
    unfold putFA putF
    by_cases e : k = f
    · rw [if_pos e, if_pos e]; exact .cons r t
    · rw [if_neg e, if_neg e]; exact .cons h (putF_rel r t)
/-- o.f = e: the value first -/
def mFldS (c f : Str) (mo m : EI) : SI := fun ρ h => match m ρ h with
  | some (v, h1) => match mo ρ h1 with
    | some (.ref l, h2) => match h2[l]? with
      | some (.ins c' fs) => if c' = c ∧ fs.length < 100 then some (.nx ρ (h2.set l (.ins c (putFA f v fs)))) else none
      | _ => none
    | _ => none
  | none => none
theorem s_fld (c : Str) {C : Addr} {f : Str} {o e : Expr} {mo m : EI} {pos pos' : Pos} (hC : X.mg c = some (.ref C)) (cl : Cls X.K C) (na : NoAttr X.K C f) (ho : PE X o (rE X.mg mo)) (he : PE X e (rE X.mg m)) (hs : swapsWith e (some (.Attribute o f pos')) pos.line X.env = pure false := by rfl) :
    PS X (.Assign [.Attribute o f pos'] e pos) (rS X.mg (mFldS c f mo m)) := PS.imp (ps_fld ho he hs) fun D σ H ⟨w, ρ, h, oo, S, E, e, bb⟩ => by
  unfold mFldS at e
  split at e
  · rename_i v h1 e1
    split at e
    · rename_i l h2 e2
      split at e
      · rename_i c' fs q
        split at e
        · rename_i cc
          obtain ⟨cc, hz⟩ := cc
          subst cc
          cases e
          refine ⟨w, ρ, h, v, h1, S, E, e1, fun w1 H1 vv l1 S1 r1 => ⟨w1, ρ, h1, _, h2, S1, E.mono l1, e2, fun w2 H2 vo l2 S2 r2 => ?_⟩⟩
          cases r2 with
          | @ref _ p hp =>
            cases S2.cell l p _ hp q with
            | @ins _ C' dx _ gs hc h3 h4 =>
              rw [hC] at hc; cases hc
              refine ⟨p, C, dx, gs, rfl, h3, cl, na, by rw [← RelAk.length h4]; omega, ?_⟩
              exact bb w2 _ σ (l1.trans l2) (S2.write hp (fun o z => by rw [q] at z; cases z; exact True.intro) (.ins hC upd_same (putF_rel (r1.mono l2) h4))) (E.mono (l1.trans l2))
        · cases e
      · cases e
    · cases e
  · cases e
/-- o.m(..) -/
def mMth (c mt : Str) (F : FnI) (mo : EI) (r : AI) : EI := fun ρ h => match mo ρ h with
  | some (x, h1) => match fieldsOf c x h1 with
    | some fs => if fs.lookup mt = none then match r ρ h1 with
      | some (xs, h2) => F (x :: xs) h2
      | none => none
      else none
    | none => none
  | none => none
theorem lookup_none {mg : Mg} {w : Wd} {f : Str} {fs : List (Str × A)} {gs : List (Str × V)} (r : RelAf mg w fs gs) (e : fs.lookup f = none) : gs.lookup f = none := by
  rcases lookup_rel (f := f) r with ⟨_, z⟩ | ⟨a, v, z, _⟩
  · exact z
  · rw [e] at z; cases z
theorem mth_split {c mt : Str} {C : Addr} {n : Nat} {F : FnI} {mo : EI} {r : AI} {σ : L2.St} {H : Hp} {Q : VK} {E0' : XK} (hC : X.mg c = some (.ref C)) (hn : ∀ xs h, (F xs h).isSome = true → xs.length = n) (q : rE X.mg (mMth c mt F mo r) σ H Q) :
    rE X.mg mo σ H fun x H1 => ∃ a dx fs, x = .ref a ∧ H1 a = some (.ins C dx fs) ∧ fs.lookup mt = none ∧ rA X.mg r σ H1 fun vs H2 => spI X.mg n F (x :: (vs ++ [])) H2 Q E0' := by
  obtain ⟨w, ρ, h, a, h', S, E, e, b⟩ := q
  unfold mMth at e
  split at e
  · rename_i x h1 e1
    split at e
    · rename_i fs ef
      split at e
      · rename_i hl
        split at e
        · rename_i xs h2 e2
          refine ⟨w, ρ, h, x, h1, S, E, e1, fun w1 H1 v l1 S1 r1 => ?_⟩
          obtain ⟨p, dx, gs, rfl, hp, rf⟩ := fieldsOf_rel S1 hC r1 ef
          refine ⟨p, dx, gs, rfl, hp, lookup_none rf hl, w1, ρ, h1, xs, h2, S1, E.mono l1, e2, fun w2 H2 vs l2 S2 r2 => ?_⟩
          show spI X.mg n F (V.ref p :: (vs ++ [])) H2 Q E0'
          rw [List.append_nil]
          have r3 : RelAs X.mg w2 (x :: xs) (V.ref p :: vs) := .cons (r1.mono l2) r2
          exact ⟨by rw [← r3.length]; exact hn _ _ (by rw [e]; rfl), w2, h2, x :: xs, a, h', S2, r3, e, b.le (l1.trans l2)⟩
        · cases e
      · cases e
    · cases e
  · cases e
theorem e_mth (c : Str) {C : Addr} {mt : Str} {k : Nat} {f : Addr} {fd : FuncData} {ps : List Str} {F : FnI} {o e : Expr} {es : List Expr} {mo : EI} {m : AI} {apos pos : Pos} {pl : Sem Bool} (hC : X.mg c = some (.ref C)) (cl : Cls X.K C) (hm : Meth X.K C mt f) (G : Ok X.prog X.w X.K X.mg X.base k f fd ps F) (hn : ∀ xs h, (F xs h).isSome = true → xs.length = ps.length) (hr : Room k X.A) (hb : Binds X.K fd ps [])
    (ho : PE X o (rE X.mg mo)) (ha : PA X (e :: es) (rA X.mg m)) (hst : starEach (e :: es) X.env = (false, eval e X.env) :: starEach es X.env := by rfl) (hpl : (backTo pos (starEach es X.env)).any (·.1) = false := by rfl)
    (ht : eval (.Call (.Attribute o mt apos) (e :: es) [] pos) X.env = (do
      let ov ← eval o X.env
      standAt apos.atName
      let (f, first) ← holding [ov] (getMethod ov mt pl)
      callWith pos f first (backTo pos (starEach (e :: es) X.env)) (backToKw pos (keywordEach [] X.env))) := by rfl) :
    PE X (.Call (.Attribute o mt apos) (e :: es) [] pos) (rE X.mg (mMth c mt F mo m)) := PE.imp (pe_meth (pl := pl) ho cl hm G hr hb .nil pass0 ha hst hpl ht) fun σ H Q q => mth_split hC hn q
/-- a property -/
def mPrp (c f : Str) (F : FnI) (mo : EI) : EI := fun ρ h => match mo ρ h with
  | some (x, h1) => match fieldsOf c x h1 with
    | some _ => F [x] h1
    | none => none
  | none => none
theorem e_prp (c : Str) {C : Addr} {f : Str} {k : Nat} {p g : Addr} {fd : FuncData} {ps : List Str} {F : FnI} {e : Expr} {mo : EI} {pos : Pos} (hC : X.mg c = some (.ref C)) (cl : Cls X.K C) (hp : PropOf X.K C f p g) (G : Ok X.prog X.w X.K X.mg X.base k g fd ps F) (h1 : ps.length = 1) (hr : Room (k + 1) X.A) (hb : Binds X.K fd ps [])
    (he : PE X e (rE X.mg mo)) (hab : attributeBase e f X.env (eval e X.env) = eval e X.env := by rfl) : PE X (.Attribute e f pos) (rE X.mg (mPrp c f F mo)) := PE.imp (pe_prop he cl hp G hr hb .nil pass0 hab) fun σ H Q ⟨w, ρ, h, a, h', S, E, e, b⟩ => by
  unfold mPrp at e
  split at e
  · rename_i x hh e1
    split at e
    · rename_i fs ef
      refine ⟨w, ρ, h, x, hh, S, E, e1, fun w1 H1 v l1 S1 r1 => ?_⟩
      obtain ⟨q, dx, gs, rfl, hq, rf⟩ := fieldsOf_rel S1 hC r1 ef
      exact ⟨q, dx, gs, rfl, hq, by rw [h1]; rfl, w1, hh, [x], a, h', S1, .cons r1 .nil, e, b.le l1⟩
    · cases e
  · cases e
end
end F2
set_option Elab.async false
set_option linter.all false
set_option maxRecDepth 100000
set_option maxHeartbeats 4000000
namespace F2
open PySem PySem.Spec PyProof.Rows L2
section
variable {X : Cx}
theorem mkFn_len {np ns : Nat} {m : SI} : ∀ xs h, (mkFn np ns m xs h).isSome = true → xs.length = np := fun xs h e => by
  unfold mkFn at e
  by_cases c : xs.length = np
  · exact c
  · rw [if_neg c] at e; cases e
/-- an address that nobody knows of -/
theorem Sm.frame {mg : Mg} {w : Wd} {H : Hp} {h : Hh} {p : Addr} {o : HO} (S : Sm mg w H h) (e : H p = none) : Sm mg w (upd H p o) h where
  fz := fun a u q => rd_upd (S.fz a u q) (S.toSim.fz_ne e q)
  len := S.len
  nd := S.nd
  th := fun i a q => by rw [upd_ne (S.toSim.phi__ne e q)]; exact S.th i a q
  nf := S.nf
  cell := fun i a u q r => (S.cell i a u q r).mono0 Wd.le.rfl.tole0 (upd_ne (S.toSim.phi__ne e q))
  ow := fun a u q => by
    obtain ⟨h1, h2⟩ := S.ow a u q
    exact ⟨by rw [upd_ne (fun z => by rw [z, e] at h1; cases h1)]; exact h1, h2⟩
  lk := fun a u q => by
    obtain ⟨h1, h2⟩ := S.lk a u q
    exact ⟨by rw [upd_ne (fun z => by rw [z, e] at h1; cases h1)]; exact h1, h2⟩
  st := fun a u q n => by rw [upd_ne (S.toSim.fz_ne e q)]; exact S.st a u q n
/-- C(..): a new instance, then __init__; kept as data where its fields are data -/
def allF : List (Str × A) → Option (List (Str × D))
  | [] => some []
  | (f, .d x) :: r => (allF r).map ((f, x) :: ·)
  | (_, .ref _) :: _ => none
  | (_, .tp _) :: _ => none
theorem allF_rel {mg : Mg} {w : Wd} : ∀ {as : List (Str × A)} {ds : List (Str × D)} {vs : List (Str × V)}, allF as = some ds → RelAf mg w as vs → RelDf mg w.fz ds vs
  | [], _, _, e, r => by cases e; cases r; exact .nil
  | (f, .d x) :: as, ds, _, e, r => by
    cases r with
    | cons hr t =>
      cases hr with
      | d hd =>
        simp only [allF, Option.map_eq_some_iff] at e
        obtain ⟨es, e, rfl⟩ := e
        exact .cons hd (allF_rel e t)
  | (_, .ref _) :: _, _, _, e, _ => by cases e
  | (_, .tp _) :: _, _, _, e, _ => by cases e
def mkObj (c : Str) (F : FnI) (as : List A) (h : Hh) : Option (A × Hh) := match F (.ref h.length :: as) (h ++ [.ins c []]) with
  | some (.d .non, h') => match h'[h.length]? with
    | some (.ins c' fs) => if c' = c then match allF fs with
      | some ds => if (h'.take h.length).all (lowO h.length) then some (.d (.ins c ds), h'.take h.length) else none
      | none => some (.ref h.length, h')
      else none
    | _ => none
  | _ => none
theorem mkObj_ok {n : Nat} {c : Str} {C : Addr} {F : FnI} {as : List A} {vs : List V} {h h' : Hh} {w : Wd} {H : Hp} {a : A} {Q : VK} {E : XK} (hC : X.mg c = some (.ref C)) (S : Sm X.mg w H h) (r : RelAs X.mg w as vs) (hl : as.length + 1 = n) (e : mkObj c F as h = some (a, h')) (b : Bh X.mg w h' a Q)
    {x dx : Addr} (hx : H x = none) (hdx : H dx = none) (ne : dx ≠ x) : spI X.mg n F (.ref x :: vs) (upd (upd H dx (.own x)) x (.ins C dx [])) (fun v H2 => v = .non ∧ Q (.ref x) H2) E := by
  have hx1 : upd H dx (.own x) x = none := by rw [upd_ne (Ne.symm ne)]; exact hx
  have S1 := S.frame (o := .own x) hdx
  have S2 := S1.new hx1 (x := .ins c []) (.ins hC upd_same .nil) (o := .ins C dx [])
  have l1 : w.le (w.cell x) := S.le_cell
  unfold mkObj at e
  split at e
  · rename_i h2 e2
    have hz : (w.cell x).phi_[h.length]? = some x := by show (w.phi_ ++ [x])[h.length]? = some x; rw [← S.len]; simp
    refine ⟨by rw [List.length_cons, ← r.length, hl], w.cell x, h ++ [.ins c []], .ref h.length :: as, .d .non, h2, S2, .cons (.ref hz) (r.mono l1), e2, fun w3 H3 v l3 S3 r3 => ?_⟩
    have ev : v = .non := by cases r3 with | d q => cases q; rfl
    refine ⟨ev, ?_⟩
    split at e
    · rename_i c' fs q
      split at e
      · rename_i ec
        subst ec
        have px := l3.phi_ _ _ hz
        cases S3.cell _ _ _ px q with
        | @ins _ C' dx' _ gs hc h4 h5 =>
          rw [hC] at hc; cases hc
          split at e
          · rename_i ds ed
            split at e
            · rename_i hlow
              cases e
              have S4 := S3.take hlow
              have npx : ∀ i : Nat, (w3.take h.length).phi_[i]? ≠ some x := fun i z => by
                obtain ⟨z1, z2⟩ := take_get z
                have := S3.nd _ _ _ z1 px
                omega
              have fn : w3.fz x = none := by
                rcases S3.nf _ _ _ px q with z | z
                · exact z
                · cases z
              -- x is data now
              have le0 : (w3.take h.length).le ((w3.take h.length).pure x (.ins C dx' gs)) := ⟨⟨fun d u z => by
                show (if d = x then _ else w3.fz d) = some u
                rw [if_neg (fun y => by rw [y] at z; have z' : w3.fz x = some u := z; rw [fn] at z'; cases z')]; exact z, Eq.refl _, fun _ _ z => z⟩, Eq.refl _⟩
              have S5 : Sm X.mg ((w3.take h.length).pure x (.ins C dx' gs)) H3 (h2.take h.length) := {
                fz := fun d u z => by
                  by_cases y : d = x
                  · subst y
                    have z' : (if d = d then some (HO.ins C dx' gs) else w3.fz d) = some u := z
                    rw [if_pos rfl] at z'; cases z'
                    exact .inl h4
                  · have z' : (if d = x then some (HO.ins C dx' gs) else w3.fz d) = some u := z
                    rw [if_neg y] at z'
                    exact S4.fz d u z'
                len := S4.len
                nd := S4.nd
                th := S4.th
                nf := fun i d u z1 z2 => by
                  rcases S4.nf i d u z1 z2 with z | z
                  · refine .inl ?_
                    show (if d = x then _ else w3.fz d) = none
                    rw [if_neg (fun y => npx i (by rw [← y]; exact z1))]; exact z
                  · exact .inr z
                cell := fun i d u z1 z2 => (S4.cell i d u z1 z2).mono0 le0.tole0 rfl
                ow := fun d u z => by
                  obtain ⟨z1, z2, z3⟩ := S4.ow d u z
                  refine ⟨z1, ?_, z3⟩
                  show (if d = x then _ else w3.fz d) = none
                  rw [if_neg (fun y => (S3.ow d u z).2.2 _ (by rw [y]; exact px))]; exact z2
                lk := S4.lk
                st := fun d u z n => by
                  by_cases y : d = x
                  · subst y
                    have z' : (if d = d then some (HO.ins C dx' gs) else w3.fz d) = some u := z
                    rw [if_pos rfl] at z'; cases z'
                    exact h4
                  · have z' : (if d = x then some (HO.ins C dx' gs) else w3.fz d) = some u := z
                    rw [if_neg y] at z'
                    exact S4.st d u z' n }
              have lt : w.le (w3.take h.length) := ⟨⟨(l1.trans l3).fz, (l1.trans l3).lk, fun i y z => by
                have hi : i < h.length := by rw [← S.len]; exact (List.getElem?_eq_some_iff.mp z).1
                show (w3.phi_.take h.length)[i]? = some y
                rw [List.getElem?_take_of_lt hi]; exact (l1.trans l3).phi_ i y z⟩, (l1.trans l3).ow⟩
              refine b _ H3 _ (lt.trans le0) S5 (.d (.ins hC (gs := gs) (dx := dx') ?_ ((allF_rel ed h5).mono le0.fz)))
              show (if x = x then _ else _) = _
              rw [if_pos rfl]
            · cases e
          · cases e
            exact b w3 H3 _ (l1.trans l3) S3 (.ref px)
      · cases e
    · cases e
  · cases e
theorem e_mk (c : Str) {C : Addr} {k : Nat} {f : Addr} {fd : FuncData} {ps : List Str} {F : FnI} {p pos : Pos} {e : Expr} {es : List Expr} {m : AI} (hC : X.mg c = some (.ref C)) (M : Mk X.K C f) (G : Ok X.prog X.w X.K X.mg X.base k f fd ps F) (hr : Room (k + 1) X.A) (hb : Binds X.K fd ps [])
    (ha : PA X (e :: es) (rA X.mg m)) (hg : Gl X c := by rfl) (hdb : (c == ("__debug__" : Str)) = false := by decide) (he : starEach (e :: es) X.env = (false, eval e X.env) :: starEach es X.env := by rfl) (hpl : (backTo pos (starEach es X.env)).any (·.1) = false := by rfl) :
    PE X (.Call (.Name c p) (e :: es) [] pos) (rE X.mg (mOn (fun as h => if as.length + 1 = ps.length then mkObj c F as h else none) m)) :=
  PE.imp (pe_make M G hr hg hC hb .nil pass0 ha hdb he hpl) fun σ H Q q => by
    obtain ⟨w, ρ, h, as, h', S, E, e1, k1⟩ := on_split (X := X) q
    refine ⟨w, ρ, h, as, h', S, E, e1, fun w1 H1 vs l1 S1 r1 => ?_⟩
    obtain ⟨w2, h2, xs, a, h3, S2, r2, e2, b⟩ := k1 w1 H1 vs l1 S1 r1
    split at e2
    · rename_i hl
      intro x dx hx hdx ne
      rw [List.append_nil]
      exact mkObj_ok hC S2 r2 hl e2 b hx hdx ne
    · cases e2
/-! ### displays with stars -/
def mStar (a : EI) (r : AI) : AI := fun ρ h => match a ρ h with
  | some (x, h1) => match (match itemsL x h1 with
      | some xs => some xs
      | none => itemsT x) with
    | some xs => match r ρ h1 with
      | some (ys, h2) => some (xs ++ ys, h2)
      | none => none
    | none => none
  | none => none
theorem a_star {e : Expr} {es : List Expr} {m : EI} {r : AI} {p : Pos} (ha : PE X e (rE X.mg m)) (hr : PA X es (rA X.mg r)) (hs : starEach (.Starred e p :: es) X.env = (true, eval e X.env) :: starEach es X.env := by rfl) : PA X (.Starred e p :: es) (rA X.mg (mStar m r)) :=
  PA.imp (StX.pa_star ha hr hs) fun σ H Q ⟨w, ρ, h, k, h', S, E, e, b⟩ => by
    unfold mStar at e
    split at e
    · rename_i x h1 e1
      split at e
      · rename_i xs ex
        split at e
        · rename_i ys h2 e2
          cases e
          refine ⟨w, ρ, h, x, h1, S, E, e1, fun w1 H1 v l1 S1 r1 => ?_⟩
          have key : ∃ p vs, v = .ref p ∧ (SqT X.K H1 p vs ∨ SqL X.K H1 p vs) ∧ RelAs X.mg w1 xs vs := by
            split at ex
            · rename_i zs ez
              cases ex
              obtain ⟨p, vs, ev, hp, rp⟩ := itemsL_rel S1 r1 ez
              exact ⟨p, vs, ev, .inr (SqL.of hp), rp⟩
            · obtain ⟨p, vs, ev, hp, rp⟩ := itemsT_rel S1 r1 ex
              exact ⟨p, vs, ev, .inl (sqT_rd hp), rp⟩
          obtain ⟨p, vs, rfl, hp, rp⟩ := key
          exact ⟨p, vs, rfl, hp, w1, ρ, h1, ys, h', S1, E.mono l1, e2, fun w2 H2 us l2 S2 r2 => b w2 H2 _ (l1.trans l2) S2 ((rp.mono l2).append r2)⟩
        · cases e
      · cases e
    · cases e
end
end F2
set_option Elab.async false
set_option linter.all false
set_option maxRecDepth 100000
set_option maxHeartbeats 4000000
namespace F2
open PySem PySem.Spec PyProof.Rows L2 PySem.W
section
variable {prog : Program} {w : World} {A : Around} {E : Value → Shared → Prop} {s : Shared} {T : String} {r d : Addr} {n : Nat} {P : Nat → Value → Prop} {OK : Heap → Prop}
/-- what the walk has made of the list at S -/
def Made (P : Nat → Value → Prop) (n : Nat) (s : Shared) (s' : Shared) : Prop := ∃ (h' : Heap) (tk : Nat) (acc : Array Value) (c' : Nat), s' = { s with heap := h', toks := tk } ∧ (∀ b o, s.heap.get? b = some o → h'.get? b = some o) ∧
  h'.get? s.heap.objs.size = some { cls := .type "list", dict := none, data := .seq acc c', slots := #[] } ∧ ItemsOf P acc n
/-- the values of anything that list(..) takes -/
theorem collectK {Q : List Value → Shared → Prop} (K : KdlSrc prog w T r d n P OK) (hh : A.handled = none) (hok : OK s.heap) (hn : n ≤ sizeLine)
    (hQ : ∀ (h' : Heap) (tk : Nat) (acc : Array Value), (∀ b o, s.heap.get? b = some o → h'.get? b = some o) → ItemsOf P acc n → Q acc.toList { s with heap := h', toks := tk }) : wpAny (model prog w) A (collect (.ref r)) Q E s := by
  have room := K.there _ hok
  have hS : (s.heap.push { cls := .type "list", data := .seq ([] : List Value).toArray }).get? s.heap.objs.size = some { cls := .type "list", data := .seq #[] 0 } := Heap.get?_push_size _ rfl
  have fin : ∀ s', Made P n s s' → wpAny (model prog w) A (load s.heap.objs.size >>= fun o => (match o.data with
      | .seq items _ => pure items.toList
      | _ => pure [])) Q E s' := fun s' ⟨h', tk, acc, c', e, hk, hS', hi⟩ => by
    subst e
    exact wpAny_bind (wpAny_load hS' (wpAny_pure (hQ h' tk acc hk hi)))
  have step := kdl_extend (A := A) (R := fun rr s' => rr = .ok (.ret (.ref s.heap.objs.size)) ∧ Made P n s s') (s := { s with heap := s.heap.push { cls := .type "list", data := .seq ([] : List Value).toArray } }) K hh
    (K.keep _ _ hok fun b _ o e => Heap.get?_push_of_some _ e) s.heap.objs.size (Nat.ne_of_gt room.1) (Nat.ne_of_gt room.2) (.ref s.heap.objs.size) 0 hS
    (fun h' tk acc c' hk e hi => ⟨rfl, h', tk, acc, c', rfl, fun b o q => hk b o (Nat.ne_of_lt (Heap.lt_size q)) (Heap.get?_push_of_some _ q), e, hi⟩) hn
  unfold collect
  refine wpAny_bind (wpAny_runValue (codeAny_builtin F.entry_proto_collect ?_)); rw [Around.under_plainId F.plain_proto_collect _]
  refine (show wpAny _ A.in1 (newList [] >>= fun l => again (.builtin "list.__iadd__" ⟨[l, .ref r], []⟩)) _ _ s from wpAny_bind (wpAny_newObj_type (wpAny_pure ⟨plainId_quiet F.plain_list_iadd _, codeAny_builtin F.entry_list_iadd ?_⟩)))
  rw [Around.under_plainId F.plain_list_iadd _]
  refine wpAny_mono step (fun f s' h => ?_) fun e s' h => absurd h.1 (by simp)
  cases f with
  | done f =>
    obtain ⟨e, m⟩ := h
    cases e
    obtain ⟨h', tk, acc, c', rfl, hk, hS', hi⟩ := m
    exact (show wpAny _ A (load s.heap.objs.size >>= _) _ _ _ from wpAny_bind (wpAny_load hS' (wpAny_pure (hQ h' tk acc hk hi))))
  | again c =>
    refine ⟨h.1, codeAny_mono h.2 fun rr s'' hr => ?_⟩
    obtain ⟨rfl, h', tk, acc, c', rfl, hk, hS', hi⟩ := hr
    exact (show wpAny _ A (load s.heap.objs.size >>= _) _ _ _ from wpAny_bind (wpAny_load hS' (wpAny_pure (hQ h' tk acc hk hi))))
theorem tupleK {Q : Value → Shared → Prop} (K : KdlSrc prog w T r d n P OK) (hh : A.handled = none) (hok : OK s.heap) (hn : n ≤ sizeLine)
    (hQ : ∀ (h' : Heap) (tk : Nat) (acc : Array Value), (∀ b o, s.heap.get? b = some o → h'.get? b = some o) → ItemsOf P acc n → Q (.ref h'.objs.size) { s with heap := h'.push { cls := .type "tuple", data := .seq acc }, toks := tk }) :
    wpAny (model prog w) A (call (.type "tuple") [.ref r]) Q E s := by
  have new : ∀ {Q₁ : Value → Shared → Prop}, (∀ (h' : Heap) (tk : Nat) (acc : Array Value), (∀ b o, s.heap.get? b = some o → h'.get? b = some o) → ItemsOf P acc n → Q₁ (.ref h'.objs.size) { s with heap := h'.push { cls := .type "tuple", data := .seq acc }, toks := tk }) →
      codeAny (model prog w) A.in1 (.call (.builtin "tuple.__new__") ⟨[.type "tuple", .ref r], []⟩) (wants Q₁ E) s := fun {Q₁} h => by
    refine codeAny_of_tree (show wpAny _ A.in1.in1 (do checkBuiltinCall "tuple.__new__" ⟨[.type "tuple", .ref r], []⟩; again (.builtin "tuple.__new__" ⟨[.type "tuple", .ref r], []⟩)) _ _ s from ?_)
    refine wpAny_bind (wpAny_of_eq (F.newCall_tuple_1 _) (wpAny_pure ⟨plainId_quiet F.plain_tuple_new _, codeAny_builtin F.entry_tuple_new ?_⟩)); rw [Around.under_plainId F.plain_tuple_new _]
    have hsub := sub_tuple_self; have hinit := init_tuple_lookup; have hmh := madeHere_tuple
    have hTI : s.TypeIs (.ref r) T := K.type s hok
    have nt := K.notTuple
    have hh1 : A.in1.in1.handled = none := hh
    wp_walk using wpAny_typeOf hTI, collectK (A := A.in1.in1) K hh1 hok hn
    intro h' tk acc hk hacc
    have ea : acc.toList.toArray = acc := by simp
    show wpAny _ _ (Builtin.Tuple.tupleExact acc.toList.toArray >>= fun v => ret v) _ _ _
    unfold Builtin.Tuple.tupleExact; rw [ea]
    exact wpAny_bind (wpAny_newObj_type (wpAny_pure (h h' tk acc hk hacc)) (by show acc.size ≤ sizeLine; rw [hacc.1]; exact hn))
  refine callType_codes (Q₁ := fun obj s₁ => s₁.TypeIs obj "tuple" ∧ Q obj s₁) F.called_tuple (F.typeCall_tuple_1 _) F.entry_object_init
    (new fun h' tk acc hk hacc => ⟨⟨_, Heap.get?_push_size _ rfl, rfl⟩, hQ h' tk acc hk hacc⟩) fun obj s₁ h₁ => ?_
  exact ⟨h₁.1, F.args_object_init_2 obj _, object_init_meets F.called_tuple.init.lookup F.called_tuple.made (by decide) prog w A.in1 _ s₁ ⟨h₁.1, rfl, h₁.2⟩⟩
end
section
variable {X : Cx}
/-- tuple(d), list(d) of a dict in a cell -/
def fTupD : List A → Hh → Option (A × Hh)
  | [.ref l], h => match h[l]? with
    | some (.dK kvs) => if kvs.length ≤ LIM then some (.d (.tupN (kvs.map fun p => keyD p.1)), h) else none
    | _ => none
  | _, _ => none
theorem RelAk.keysA {mg : Mg} {w : Wd} : ∀ {as : List (Key × A)} {vs : List (Key × V)}, RelAk mg w as vs → RelAs mg w (as.map fun p => .d (keyD p.1)) (vs.map fun p => kV p.1)
  | _, _, .nil => .nil
  | _, _, .cons (k := k) h t => .cons (.d (by cases k <;> first | exact .int _ | exact .str _)) (RelAk.keysA t)
theorem RelAk.keysD {mg : Mg} {w : Wd} : ∀ {as : List (Key × A)} {vs : List (Key × V)}, RelAk mg w as vs → RelDs mg w.fz (as.map fun p => keyD p.1) (vs.map fun p => kV p.1)
  | _, _, .nil => .nil
  | _, _, .cons (k := k) h t => .cons (by cases k <;> first | exact .int _ | exact .str _) (RelAk.keysD t)
theorem c_tupD (hc : X.calm = true) : CallI X (.type "tuple") fTupD := by
  intro pins s σ H vs us Q I rx ⟨w, hh, xs, a, h', S, r1, e, b⟩
  unfold fTupD at e
  split at e
  · rename_i l
    obtain ⟨v, rfl, rv⟩ := rel1 r1
    obtain ⟨u, rfl, ru⟩ := vals1 rx
    cases rv with
    | @ref _ p hp =>
      cases ru
      split at e
      · rename_i kvs q
        cases S.cell l p _ hp q with
        | @dK _ ks h1 h2 =>
          obtain ⟨z, lo, vs, rk, hd⟩ := (show ObjOk X.prog X.w H s.heap p (.dK ks) from I.hok p _ h1)
          obtain ⟨ep, hat⟩ := hd.dictAt
          have hl : ks.length = vs.length := Paired.length rk
          refine tupleK (kdl_dict (knd := mixKind X.prog X.w) (kvs := vs) (ep := ep) lo) (I.ok.hd hc) hat (by rw [← hl]; exact z) fun h2' tk acc hk hacc => ?_
          have nn : s.heap.get? h2'.objs.size = none := by
            cases y : s.heap.get? h2'.objs.size with
            | none => rfl
            | some o => exact absurd (Heap.lt_size (hk _ _ y)) (Nat.lt_irrefl _)
          have hn := I.hok.gone nn
          split at e
          · rename_i hz
            cases e
            have m1 : (ks.map fun kv => kV kv.1).length ≤ sizeLine := lim_size (by rw [List.length_map, ← RelAk.length h2]; exact hz)
            have fin := b (w.pure h2'.objs.size _) _ _ (S.le_pure hn) (S.pure hn) (.d (.tupN (ob := { cls := .type "tuple", data := .seq acc }) (vs := ks.map fun kv => kV kv.1) (by show (if h2'.objs.size = h2'.objs.size then _ else _) = _; rw [if_pos rfl]) rfl rfl (h2.keysD.mono (S.le_pure hn).fz)))
            refine ⟨.ref h2'.objs.size, upd H h2'.objs.size (.frz { cls := .type "tuple", data := .seq acc } (.tup (ks.map fun kv => kV kv.1))), I.laidN (fun b' o y => Heap.get?_push_of_some _ (hk b' o y)) nn hn ?_, rfl, fin⟩
            refine ⟨Heap.get?_push_size _ rfl, m1, acc.toList, vals_of_at ?_ fun j x y e1 e2 => ?_, ⟨_, Heap.get?_push_size _ rfl, rfl, 0, by simp⟩⟩
            · have el : acc.toList.length = acc.size := by simp
              rw [List.length_map, hl, el, hacc.1]
            · obtain ⟨k, y0, hky, hi⟩ := hacc.2 j y (by rw [← Array.getElem?_toList]; exact e2)
              have e3 : (ks.map (·.1))[j]? = some k := by rw [KV.keys rk, List.getElem?_map, hky]; rfl
              rw [List.getElem?_map] at e1 e3
              cases y1 : ks[j]? with
              | none => rw [y1] at e3; cases e3
              | some q1 =>
                rw [y1] at e1 e3
                cases e1; cases e3
                exact keyIs_rel hi
          · cases e
      · cases e
  · cases e
/-! ### locks -/
def Wd.lock (w : Wd) (d : Addr) (o : HO) : Wd := { w with lk := fun b => if b = d then some o else w.lk b }
/-- what is done while the dict in the slot i is locked -/
def mLock (i : Nat) (m : EI) : EI := fun ρ h => match ρ[i]? with
  | some (some (.ref l)) => match h[l]? with
    | some (.dK kvs) => match m ρ (h.set l (.lK kvs)) with
      | some (a, h2) => match h2[l]? with
        | some (.lK kvs2) => some (a, h2.set l (.dK kvs2))
        | _ => none
      | none => none
    | _ => none
  | _ => none
theorem Sm.lock {mg : Mg} {w : Wd} {H : Hp} {h : Hh} (S : Sm mg w H h) {l : Nat} {p : Addr} {kvs : List (Key × A)} {ks : List (Key × V)} (hp : w.phi_[l]? = some p) (q : h[l]? = some (.dK kvs)) (h1 : H p = some (.dK ks)) (r : RelAk mg w kvs ks) (od : Obj) :
    Sm mg (w.lock p (.frz od (.dK ks))) (upd H p (.frz od (.dK ks))) (h.set l (.lK kvs)) := by
  have hl : l < h.length := (List.getElem?_eq_some_iff.mp q).1
  have fn := S.live hp (fun o z => by rw [q] at z; cases z; exact True.intro)
  have le : w.le00 (w.lock p (.frz od (.dK ks))) := ⟨FzLe.rfl, fun _ _ z => z⟩
  have nlk : ∀ u, w.lk p ≠ some u := fun u z => by
    obtain ⟨o, e1, e2⟩ := (S.lk p u z).2 l hp
    rw [q] at e1; cases e1; exact e2
  have at_ : ∀ {j : Nat} {a : Addr}, w.phi_[j]? = some a → a ≠ p → j ≠ l := fun {j a} z ne y => by subst y; rw [hp] at z; exact ne (Option.some.inj z).symm
  have same : ∀ {j : Nat}, w.phi_[j]? = some p → j = l := fun {j} z => S.nd j l p z hp
  exact {
    fz := fun a u z => rd_upd (S.fz a u z) (fun y => by rw [y] at z; have z' : w.fz p = some u := z; rw [fn] at z'; cases z')
    len := by rw [List.length_set]; exact S.len
    nd := S.nd
    th := fun j a z => by
      by_cases y : a = p
      · rw [y, upd_same]; exact fun x => nomatch x
      · rw [upd_ne y]; exact S.th j a z
    nf := fun j a u z1 z2 => by
      by_cases y : a = p
      · subst y; exact .inl fn
      · rw [List.getElem?_set_ne (Ne.symm (at_ z1 y))] at z2
        exact S.nf j a u z1 z2
    cell := fun j a u z1 z2 => by
      by_cases y : a = p
      · subst y
        have := same z1
        subst this
        rw [List.getElem?_set_self hl] at z2; cases z2
        exact .lK (by show (if a = a then _ else _) = _; rw [if_pos rfl]) (r.mono00 le)
      · rw [List.getElem?_set_ne (Ne.symm (at_ z1 y))] at z2
        have c := S.cell j a u z1 z2
        cases c with
        | lst e1 e2 => exact .lst (by rw [upd_ne y]; exact e1) (e2.mono00 le)
        | dK e1 e2 => exact .dK (by rw [upd_ne y]; exact e1) (e2.mono00 le)
        | dT e1 e2 => exact .dT (by rw [upd_ne y]; exact e1) (e2.mono00 le)
        | lK e1 e2 => exact .lK (by show (if a = p then _ else w.lk a) = _; rw [if_neg y]; exact e1) (e2.mono00 le)
        | lT e1 e2 => exact .lT (by show (if a = p then _ else w.lk a) = _; rw [if_neg y]; exact e1) (e2.mono00 le)
        | ins e0 e1 e2 => exact .ins e0 (by rw [upd_ne y]; exact e1) (e2.mono00 le)
        | dead => exact .dead
    ow := fun a u z => by
      obtain ⟨e1, e2, e3⟩ := S.ow a u z
      exact ⟨by rw [upd_ne (fun y => e3 l (by rw [y]; exact hp))]; exact e1, e2, e3⟩
    lk := fun a u z => by
      by_cases y : a = p
      · subst y
        have z' : (if a = a then some (HO.frz od (.dK ks)) else w.lk a) = some u := z
        rw [if_pos rfl] at z'; cases z'
        refine ⟨upd_same, fun j y => ?_⟩
        have := same y
        subst this
        exact ⟨_, List.getElem?_set_self hl, True.intro⟩
      · have z' : (if a = p then some (HO.frz od (.dK ks)) else w.lk a) = some u := z
        rw [if_neg y] at z'
        obtain ⟨e1, e2⟩ := S.lk a u z'
        refine ⟨by rw [upd_ne y]; exact e1, fun j x => ?_⟩
        rw [List.getElem?_set_ne (Ne.symm (at_ x y))]
        exact e2 j x
    st := fun a u z n => by rw [upd_ne (fun y => by rw [y] at z; have z' : w.fz p = some u := z; rw [fn] at z'; cases z')]; exact S.st a u z n }
theorem Sm.unlock {mg : Mg} {w w0 : Wd} {H : Hp} {h : Hh} {l : Nat} {p : Addr} {kvs : List (Key × A)} {ks : List (Key × V)} {od : Obj} (S : Sm mg w H h) (lkp : w.lk = (w0.lock p (.frz od (.dK ks))).lk) (n0 : w0.lk p = none) (hp : w.phi_[l]? = some p) (q : h[l]? = some (.lK kvs)) :
    H p = some (.frz od (.dK ks)) ∧ Sm mg { w with lk := w0.lk } (upd H p (.dK ks)) (h.set l (.dK kvs)) := by
  have hl : l < h.length := (List.getElem?_eq_some_iff.mp q).1
  have wp : w.lk p = some (.frz od (.dK ks)) := by rw [lkp]; show (if p = p then _ else _) = _; rw [if_pos rfl]
  have wo : ∀ {a : Addr}, a ≠ p → w.lk a = w0.lk a := fun {a} y => by rw [lkp]; show (if a = p then _ else w0.lk a) = _; rw [if_neg y]
  obtain ⟨hH, _⟩ := S.lk p _ wp
  refine ⟨hH, ?_⟩
  have rk : RelAk mg w kvs ks := by
    cases S.cell l p _ hp q with
    | lK e1 e2 => rw [wp] at e1; cases e1; exact e2
  have fn : w.fz p = none := by
    rcases S.nf l p _ hp q with z | z
    · exact z
    · cases z
  have le : w.le00 { w with lk := w0.lk } := ⟨FzLe.rfl, fun _ _ z => z⟩
  have at_ : ∀ {j : Nat} {a : Addr}, w.phi_[j]? = some a → a ≠ p → j ≠ l := fun {j a} z ne y => by subst y; rw [hp] at z; exact ne (Option.some.inj z).symm
  have same : ∀ {j : Nat}, w.phi_[j]? = some p → j = l := fun {j} z => S.nd j l p z hp
  exact {
    fz := fun a u z => rd_upd (S.fz a u z) (fun y => by rw [y] at z; have z' : w.fz p = some u := z; rw [fn] at z'; cases z')
    len := by rw [List.length_set]; exact S.len
    nd := S.nd
    th := fun j a z => by
      by_cases y : a = p
      · rw [y, upd_same]; exact fun x => nomatch x
      · rw [upd_ne y]; exact S.th j a z
    nf := fun j a u z1 z2 => by
      by_cases y : a = p
      · subst y; exact .inl fn
      · rw [List.getElem?_set_ne (Ne.symm (at_ z1 y))] at z2
        exact S.nf j a u z1 z2
    cell := fun j a u z1 z2 => by
      by_cases y : a = p
      · subst y
        have := same z1
        subst this
        rw [List.getElem?_set_self hl] at z2; cases z2
        exact .dK upd_same (rk.mono00 le)
      · rw [List.getElem?_set_ne (Ne.symm (at_ z1 y))] at z2
        have c := S.cell j a u z1 z2
        cases c with
        | lst e1 e2 => exact .lst (by rw [upd_ne y]; exact e1) (e2.mono00 le)
        | dK e1 e2 => exact .dK (by rw [upd_ne y]; exact e1) (e2.mono00 le)
        | dT e1 e2 => exact .dT (by rw [upd_ne y]; exact e1) (e2.mono00 le)
        | lK e1 e2 => exact .lK (by show w0.lk a = _; rw [← wo y]; exact e1) (e2.mono00 le)
        | lT e1 e2 => exact .lT (by show w0.lk a = _; rw [← wo y]; exact e1) (e2.mono00 le)
        | ins e0 e1 e2 => exact .ins e0 (by rw [upd_ne y]; exact e1) (e2.mono00 le)
        | dead => exact .dead
    ow := fun a u z => by
      obtain ⟨e1, e2, e3⟩ := S.ow a u z
      exact ⟨by rw [upd_ne (fun y => e3 l (by rw [y]; exact hp))]; exact e1, e2, e3⟩
    lk := fun a u z => by
      have ne : a ≠ p := fun y => by rw [y] at z; have z' : w0.lk p = some u := z; rw [n0] at z'; cases z'
      obtain ⟨e1, e2⟩ := S.lk a u (by rw [wo ne]; exact z)
      refine ⟨by rw [upd_ne ne]; exact e1, fun j x => ?_⟩
      rw [List.getElem?_set_ne (Ne.symm (at_ x ne))]
      exact e2 j x
    st := fun a u z n => by rw [upd_ne (fun y => by rw [y] at z; have z' : w.fz p = some u := z; rw [fn] at z'; cases z')]; exact S.st a u z n }
theorem e_lock (i : Nat) {e : Expr} {m : EI} (p : PE X e (rE X.mg m)) : PE X e (rE X.mg (mLock i m)) := PE.imp (pe_lock p) fun σ H Q ⟨w, ρ, h, a, h', S, E, e, b⟩ => by
  unfold mLock at e
  split at e
  · rename_i l ei
    split at e
    · rename_i kvs q
      split at e
      · rename_i a2 h2 e2
        split at e
        · rename_i kvs2 q2
          cases e
          obtain ⟨v, hv, rv⟩ := E.get i _ ei
          cases rv with
          | @ref _ p hp =>
            cases S.cell l p _ hp q with
            | @dK _ ks h1 h3 =>
              have n0 : w.lk p = none := by
                cases z : w.lk p with
                | none => rfl
                | some u =>
                  obtain ⟨o, e1, e3⟩ := (S.lk p u z).2 l hp
                  rw [q] at e1; cases e1; exact e3.elim
              refine ⟨p, .dK ks, h1, True.intro, fun od => ⟨w.lock p (.frz od (.dK ks)), ρ, _, a, h2, S.lock hp q h1 h3 od, ⟨E.len, fun j x z => let ⟨y, hy, ry⟩ := E.get j x z; ⟨y, hy, RelA.mono00 (w' := w.lock p (.frz od (.dK ks))) (w := w) ⟨FzLe.rfl, fun _ _ z => z⟩ ry⟩⟩, e2, fun w2 H2 v2 l2 S2 r2 => ?_⟩⟩
              obtain ⟨k1, k2⟩ := S2.unlock (w0 := w) l2.lk n0 (l2.phi_ _ _ hp) q2
              exact ⟨k1, b { w2 with lk := w.lk } _ v2 ⟨⟨l2.fz, Eq.refl _, l2.phi_⟩, l2.ow⟩ k2 (RelA.mono00 (w := w2) (w' := { w2 with lk := w.lk }) ⟨FzLe.rfl, fun _ _ z => z⟩ r2)⟩
        · cases e
      · cases e
    · cases e
  · cases e
/-- the keys of a locked dict -/
def keysN (kvs : List (Key × A)) : Nat → Hh → Option (Option A) := fun i _ => some ((kvs[i]?).map fun p => .d (keyD p.1))
def srcK (m : EI) : SrcI := fun ρ h => match m ρ h with
  | some (.ref l, h1) => match h1[l]? with
    | some (.lK kvs) => some (⟨keysN kvs, kvs.length⟩, h1)
    | _ => none
  | _ => none
theorem i_keys {tg l : Expr} {m : EI} (hl : PE X l (rE X.mg m)) : PI X tg l (iS X.mg (srcK m)) := PI.imp (pi_keys hl) fun σ H R ⟨w, ρ, h, s, h', S, E, e, b⟩ => by
  unfold srcK at e
  split at e
  · rename_i l0 h1 e1
    split at e
    · rename_i kvs q
      cases e
      refine ⟨w, ρ, h, _, h', S, E, e1, fun w1 H1 v l1 S1 r1 => ?_⟩
      cases r1 with
      | @ref _ p hp =>
        cases S1.cell _ p _ hp q with
        | @lK _ ks ob h2 h3 =>
          refine ⟨p, ob, rfl, .inl ⟨ks, (S1.lk p _ h2).1, b w1 H1 _ l1 S1 fun i w' H' h'' l S' => ?_⟩⟩
          have hf := (S'.lk p _ (by rw [l.lk]; exact h2)).1
          have rl := RelAk.length h3
          refine ⟨fun e2 => ?_, fun a e2 => ?_⟩
          · have e3 := Option.map_eq_none_iff.mp (Option.some.inj e2)
            exact ⟨hf, by rw [← rl]; exact List.getElem?_eq_none_iff.mp e3⟩
          · obtain ⟨pr, e3, rfl⟩ := Option.map_eq_some_iff.mp (Option.some.inj e2)
            have hi : i < ks.length := by rw [← rl]; exact (List.getElem?_eq_some_iff.mp e3).1
            refine ⟨⟨hf, hi⟩, fun y H'' ⟨z1, k, v, z2, z3⟩ => ?_⟩
            subst z1 z3
            have key := h3.keysA.get (i := i) (a := .d (keyD pr.1)) (by rw [List.getElem?_map, e3]; rfl)
            obtain ⟨v', z4, z5⟩ := key
            rw [List.getElem?_map, z2] at z4
            cases z4
            exact ⟨w', .rfl, S', z5.mono0 l⟩
    · cases e
  · cases e
end
end F2
set_option Elab.async false
set_option linter.all false
set_option maxRecDepth 100000
set_option maxHeartbeats 4000000
namespace F2
open PySem PySem.Spec PyProof.Rows L2
section
variable {X : Cx} {tg : Expr}
def allK {κ : Type} : List (κ × A) → Option (List (κ × D))
  | [] => some []
  | (f, .d x) :: r => (allK r).map ((f, x) :: ·)
  | (_, .ref _) :: _ => none
  | (_, .tp _) :: _ => none
theorem allK_rel {mg : Mg} {w : Wd} : ∀ {as : List (Key × A)} {ds : List (Key × D)} {vs : List (Key × V)}, allK as = some ds → RelAk mg w as vs → RelDk mg w.fz ds vs
  | [], _, _, e, r => by cases e; cases r; exact .nil
  | (f, .d x) :: as, ds, _, e, r => by
    cases r with
    | cons hr t =>
      cases hr with
      | d hd =>
        simp only [allK, Option.map_eq_some_iff] at e
        obtain ⟨es, e, rfl⟩ := e
        exact .cons hd (allK_rel e t)
  | (_, .ref _) :: _, _, _, e, _ => by cases e
  | (_, .tp _) :: _, _, _, e, _ => by cases e
/-- the turns of a dict comprehension -/
def dcGo (s : Src) (g : GI) (t : TI') (mk mv : EI) (ρ : En) : Nat → Nat → List (Key × A) → Hh → Option (List (Key × A) × Hh)
  | 0, i, acc, h => match s.nxt i h with
    | some none => some (acc, h)
    | _ => none
  | n + 1, i, acc, h => match s.nxt i h with
    | some none => some (acc, h)
    | some (some a) => match g a ρ h with
      | some (ρ1, h1) => match t ρ1 h1 with
        | some (true, h2) => match mk ρ1 h2 with
          | some (.d y, h3) => match keyOf y with
            | some k => match mv ρ1 h3 with
              | some (z, h4) => if acc.length < LIM then dcGo s g t mk mv ρ n (i + 1) (putG acc k z) h4 else none
              | none => none
            | none => none
          | _ => none
        | some (false, h2) => dcGo s g t mk mv ρ n (i + 1) acc h2
        | none => none
      | none => none
    | none => none
def mDc (it : SrcI) (g : GI) (t : TI') (mk mv : EI) (vs : List Nat) : EI := fun ρ h => match it ρ h with
  | some (s, h1) => match dcGo s g t mk mv (wipeE ρ vs) s.fuel 0 [] h1 with
    | some (acc, h2) => (allK acc).map fun ds => (.d (.dK ds), h2)
    | none => none
  | none => none
theorem dc_core' {it : SrcI} {g : GI} {t : TI'} {mk mv : EI} {vs : List Nat} {σ : L2.St} {H : Hp} {Q : VK} (q : rE X.mg (mDc it g t mk mv vs) σ H Q) :
    tDc (iS X.mg it) (rGw X.mg vs g) (rT X.mg t) (rE X.mg mk) (rE X.mg mv) vs σ H Q := by
  obtain ⟨w, ρ, h, a, h', S, E, e, b⟩ := q
  unfold mDc at e
  split at e
  · rename_i s h1 e1
    split at e
    · rename_i acc h2 e2
      refine ⟨w, ρ, h, s, h1, S, E, e1, fun w1 H1 J l1 S1 k => ?_⟩
      intro D hD
      have hlk : ∀ u, w1.lk D ≠ some u := fun u z => by
        have := (S1.lk D u z).1
        rw [hD] at this; cases this
      have how : w1.ow D = none := by
        cases z : w1.ow D with
        | none => rfl
        | some u =>
          have := (S1.ow D u z).1
          rw [hD] at this; cases this
      refine ⟨fun i n H => ∃ w2 hh ac av, (w1.own D (.dK av)).le w2 ∧ Sm X.mg w2 H hh ∧ RelAk X.mg w2 ac av ∧ dcGo s g t mk mv (wipeE ρ vs) n i ac hh = some (acc, h2), ⟨s.fuel, w1.own D (.dK []), h1, [], [], .rfl, S1.own hD, .nil, e2⟩, ?_⟩
      rintro i n H2 ⟨w2, hh, ac, av, l2, S2, r2, e3⟩
      have l02 : w1.le0 w2 := own_le0' l2.tole0
      have wD : w2.ow D = some (.dK av) := by rw [l2.ow]; show (if D = D then _ else _) = _; rw [if_pos rfl]
      have dlk : ∀ u, w2.lk D ≠ some u := fun u z => hlk u (by rw [← l02.lk]; exact z)
      obtain ⟨k1, k2⟩ := k i w2 H2 hh l02 S2
      have fin : (acc, h2) = (ac, hh) → Q (.ref D) H2 := fun z => by
        cases z
        have hf : ∀ a u, w1.ow a = some u → a ≠ D ∧ w2.ow a = some u := fun a u z => by
          have ne : a ≠ D := fun y => by rw [y, how] at z; cases z
          refine ⟨ne, ?_⟩
          rw [l2.ow]
          show (if a = D then _ else w1.ow a) = _
          rw [if_neg ne]; exact z
        obtain ⟨ds, hd, z⟩ := Option.map_eq_some_iff.mp e
        cases z
        have le0 : w2.le0 (w2.give w1.ow D (.dK av)) := ⟨fun a u q => by
          show (if a = D then _ else w2.fz a) = some u
          rw [if_neg (fun z => by rw [z, (S2.ow D _ wD).2.1] at q; cases q)]; exact q, Eq.refl _, fun _ _ h => h⟩
        refine b (w2.give w1.ow D (.dK av)) H2 _ ⟨(l1.tole0.trans l02).trans le0, l1.ow⟩ (S2.give wD hf (.inr True.intro)) (.d (.dK (ks := av) ?_ ((allK_rel hd (r2.mono0 le0)))))
        show (if D = D then _ else _) = _
        rw [if_pos rfl]
      cases n with
      | zero =>
        unfold dcGo at e3
        split at e3
        · rename_i z
          exact .inl ⟨k1 z, fin (Option.some.inj e3).symm⟩
        · cases e3
      | succ n =>
        unfold dcGo at e3
        split at e3
        · rename_i z
          exact .inl ⟨k1 z, fin (Option.some.inj e3).symm⟩
        · rename_i x z
          obtain ⟨k3, k4⟩ := k2 x z
          refine .inr ⟨k3, fun H' => ∃ w2 hh ac av, (w1.own D (.dK av)).le w2 ∧ Sm X.mg w2 H' hh ∧ RelAk X.mg w2 ac av ∧ dcGo s g t mk mv (wipeE ρ vs) n (i + 1) ac hh = some (acc, h2), fun H' q' => ⟨n, Nat.lt_succ_self n, q'⟩, fun xv H' y => ?_⟩
          obtain ⟨w3, l3, S3, r3⟩ := k4 xv H' y
          split at e3
          · rename_i ρ1 hh1 e4
            split at e3
            · rename_i hh2 e5
              split at e3
              · rename_i yy hh3 e6
                split at e3
                · rename_i kk ek
                  split at e3
                  · rename_i zz hh4 e7
                    split at e3
                    · rename_i hz
                      refine ⟨w3, wipeE ρ vs, hh, x, ρ1, hh1, S3, (E.mono l1).mono0 (l02.trans l3.tole0) |>.wipe vs, r3, e4, fun w4 H4 σ4 l4 S4 E4 z4 => ⟨by rw [z4]; exact wipe_wipe, w4, ρ1, hh1, true, hh2, S4, E4, e5, fun w5 H5 l5 S5 => iteT ⟨w5, ρ1, hh2, _, hh3, S5, E4.mono l5, e6, fun w6 H6 v6 l6 S6 r6 => ⟨w6, ρ1, hh3, zz, hh4, S6, (E4.mono l5).mono l6, e7, fun w7 H7 v7 l7 S7 r7 => ?_⟩⟩⟩⟩
                      have l27 : w2.le w7 := (((l3.trans l4).trans l5).trans l6).trans l7
                      have w7D : w7.ow D = some (.dK av) := by rw [l27.ow]; exact wD
                      have d7 : ∀ u, w7.lk D ≠ some u := fun u z => dlk u (by rw [← l27.lk]; exact z)
                      have ey : v6 = kV kk := by cases r6 with | d r6 => exact keyOf_rel r6 ek
                      refine ⟨av, kk, ey, (S7.ow D _ w7D).1, ?_, w7.own D (.dK (putK av kk v7)), hh4, putG ac kk zz, putK av kk v7, ⟨own_le0' (l2.trans l27).tole0 |>.trans own_le0 |> own_lift, ?_⟩, S7.rewrite w7D d7, RelAk.put (r7.mono0 own_le0) (r2.mono0 (l27.tole0.trans own_le0)), e3⟩
                      · rw [← RelAk.length r2]; exact lim_size1 (Nat.le_of_lt hz)
                      · funext a
                        show (if a = D then _ else w7.ow a) = (if a = D then _ else w1.ow a)
                        by_cases za : a = D
                        · rw [if_pos za, if_pos za]
                        · rw [if_neg za, if_neg za, l27.ow, l2.ow]
                          show (if a = D then _ else w1.ow a) = _
                          rw [if_neg za]
                    · cases e3
                  · cases e3
                · cases e3
              · cases e3
            · rename_i hh2 e5
              refine ⟨w3, wipeE ρ vs, hh, x, ρ1, hh1, S3, (E.mono l1).mono0 (l02.trans l3.tole0) |>.wipe vs, r3, e4, fun w4 H4 σ4 l4 S4 E4 z4 => ⟨by rw [z4]; exact wipe_wipe, w4, ρ1, hh1, false, hh2, S4, E4, e5, fun w5 H5 l5 S5 => iteF ?_⟩⟩
              have l25 : w2.le w5 := (l3.trans l4).trans l5
              exact ⟨w5, hh2, ac, av, l2.trans l25, S5, r2.mono l25, e3⟩
            · cases e3
          · cases e3
        · cases e3
    · cases e
  · cases e
theorem e_dc {kx vx tg iter : Expr} {ifs : List Expr} {scope : Scope} {own : List (Str × Nat)} {pos : Pos} {it : SrcI} {g : GI} {t : TI'} {mk mv : EI} (hc : X.calm = true) (hN : X.N.Nodup) (hi : PI X tg iter (iS X.mg it)) (ok : BlkOk X.N X.env.scope scope own)
    (hg : ∀ (s : Shared) (H : Hp) (C : Addr) (cl : List (Str × Addr)) (fp : List Addr), PG (X.blk s H scope (compEnvC scope cl C X.env) fp) tg (rGw X.mg (own.map (·.2)) g)) (ht : ∀ (s : Shared) (H : Hp) (C : Addr) (cl : List (Str × Addr)) (fp : List Addr), PTs (X.blk s H scope (compEnvC scope cl C X.env) fp) ifs (rT X.mg t))
    (hk : ∀ (s : Shared) (H : Hp) (C : Addr) (cl : List (Str × Addr)) (fp : List Addr), PE (X.blk s H scope (compEnvC scope cl C X.env) fp) kx (rE X.mg mk)) (he : ∀ (s : Shared) (H : Hp) (C : Addr) (cl : List (Str × Addr)) (fp : List Addr), PE (X.blk s H scope (compEnvC scope cl C X.env) fp) vx (rE X.mg mv)) (hs : ∀ x, foldedSetIterable iter X.env x = pure x := by intro _; rfl) :
    PE X (.DictComp kx vx [⟨tg, iter, ifs, 0⟩] scope pos) (rE X.mg (mDc it g t mk mv (own.map (·.2)))) :=
  PE.imp (pe_dc hc hN hi ok hg ht hk he hs) fun σ H Q q => dc_core' q
end
end F2
set_option Elab.async false
set_option linter.all false
set_option maxRecDepth 100000
set_option maxHeartbeats 4000000
namespace F2
open PySem PySem.Spec PyProof.Rows L2
section
variable {X : Cx} {tg : Expr}
/-- the turns of a comprehension with two clauses: the outer one -/
def lc2Go (s : Src) (g : GI) (t : TI') (it1 : SrcI) (g1 : GI) (t1 : TI') (m : EI) (vs1 : List Nat) (ρ : En) : Nat → Nat → List A → Hh → Option (List A × Hh)
  | 0, i, acc, h => match s.nxt i h with
    | some none => some (acc, h)
    | _ => none
  | n + 1, i, acc, h => match s.nxt i h with
    | some none => some (acc, h)
    | some (some a) => match g a ρ h with
      | some (ρ1, h1) => match t ρ1 h1 with
        | some (true, h2) => match it1 ρ1 h2 with
          | some (s1, h3) => match lcGo s1 g1 t1 m (wipeE ρ1 vs1) s1.fuel 0 acc h3 with
            | some (acc', h4) => lc2Go s g t it1 g1 t1 m vs1 ρ n (i + 1) acc' h4
            | none => none
          | none => none
        | some (false, h2) => lc2Go s g t it1 g1 t1 m vs1 ρ n (i + 1) acc h2
        | none => none
      | none => none
    | none => none
def mLc2 (cell : Bool) (it : SrcI) (g : GI) (t : TI') (it1 : SrcI) (g1 : GI) (t1 : TI') (m : EI) (vs vs1 : List Nat) : EI := fun ρ h => match it ρ h with
  | some (s, h1) => match lc2Go s g t it1 g1 t1 m vs1 (wipeE ρ vs) s.fuel 0 [] h1 with
    | some (acc, h2) => mkL cell acc h2
    | none => none
  | none => none
/-- the list being made at D, so far -/
def Mk2 (mg : Mg) (w1 : Wd) (D : Addr) (H : Hp) (hh : Hh) (ac : List A) : Prop := ∃ w2 av, (w1.own D (.lst av)).le w2 ∧ Sm mg w2 H hh ∧ RelAs mg w2 ac av
theorem lc2_core' {it it1 : SrcI} {g g1 : GI} {t t1 : TI'} {m : EI} {vs vs1 : List Nat} {cell : Bool} {σ : L2.St} {H : Hp} {Q : VK} (q : rE X.mg (mLc2 cell it g t it1 g1 t1 m vs vs1) σ H Q) :
    tLc2 (iS X.mg it) (rGw X.mg vs g) (rT X.mg t) (iS X.mg it1) (rGw X.mg vs1 g1) (rT X.mg t1) (rE X.mg m) vs vs1 σ H Q := by
  obtain ⟨w, ρ, h, a, h', S, E, e, b⟩ := q
  unfold mLc2 at e
  split at e
  · rename_i s h1 e1
    split at e
    · rename_i acc h2 e2
      refine ⟨w, ρ, h, s, h1, S, E, e1, fun w1 H1 J l1 S1 k => ?_⟩
      intro D hD
      have hlk : ∀ u, w1.lk D ≠ some u := fun u z => by
        have := (S1.lk D u z).1
        rw [hD] at this; cases this
      have how : w1.ow D = none := by
        cases z : w1.ow D with
        | none => rfl
        | some u =>
          have := (S1.ow D u z).1
          rw [hD] at this; cases this
      -- one more item
      have more : ∀ {w2 w6 : Wd} {H6 : Hp} {hh3 : Hh} {ac : List A} {av : List V} {yy : A} {v6 : V}, (w1.own D (.lst av)).le w2 → w2.le w6 → Sm X.mg w6 H6 hh3 → RelAs X.mg w2 ac av → RelA X.mg w6 yy v6 → ac.length < LIM →
          H6 D = some (.lst av) ∧ av.length < sizeLine ∧ Mk2 X.mg w1 D (upd H6 D (.lst (av ++ [v6]))) hh3 (ac ++ [yy]) := fun {w2 w6 H6 hh3 ac av yy v6} l2 l26 S6 r2 r6 hz => by
        have w2D : w2.ow D = some (.lst av) := by rw [l2.ow]; show (if D = D then _ else _) = _; rw [if_pos rfl]
        have w6D : w6.ow D = some (.lst av) := by rw [l26.ow]; exact w2D
        have d6 : ∀ u, w6.lk D ≠ some u := fun u z => hlk u (by rw [← (own_le0' (l2.trans l26).tole0).lk]; exact z)
        refine ⟨(S6.ow D _ w6D).1, by rw [← r2.length]; exact lim_size1 (Nat.le_of_lt hz), w6.own D (.lst (av ++ [v6])), av ++ [v6], ⟨own_le0' (l2.trans l26).tole0 |>.trans own_le0 |> own_lift, ?_⟩, S6.rewrite w6D d6, RelAs.append (r2.mono0 (l26.tole0.trans own_le0)) (.cons (r6.mono0 own_le0) .nil)⟩
        funext a
        show (if a = D then _ else w6.ow a) = (if a = D then _ else w1.ow a)
        by_cases za : a = D
        · rw [if_pos za, if_pos za]
        · rw [if_neg za, if_neg za, l26.ow, l2.ow]
          show (if a = D then _ else w1.ow a) = _
          rw [if_neg za]
      refine ⟨fun i n H => ∃ hh ac, Mk2 X.mg w1 D H hh ac ∧ lc2Go s g t it1 g1 t1 m vs1 (wipeE ρ vs) n i ac hh = some (acc, h2), ⟨s.fuel, h1, [], ⟨w1.own D (.lst []), [], .rfl, S1.own hD, .nil⟩, e2⟩, ?_⟩
      rintro i n H2 ⟨hh, ac, ⟨w2, av, l2, S2, r2⟩, e3⟩
      have l02 : w1.le0 w2 := own_le0' l2.tole0
      have wD : w2.ow D = some (.lst av) := by rw [l2.ow]; show (if D = D then _ else _) = _; rw [if_pos rfl]
      have dlk : ∀ u, w2.lk D ≠ some u := fun u z => hlk u (by rw [← l02.lk]; exact z)
      obtain ⟨k1, k2⟩ := k i w2 H2 hh l02 S2
      have fin : (acc, h2) = (ac, hh) → Q (.ref D) H2 := fun z => by
        cases z
        have hf : ∀ a u, w1.ow a = some u → a ≠ D ∧ w2.ow a = some u := fun a u z => by
          have ne : a ≠ D := fun y => by rw [y, how] at z; cases z
          refine ⟨ne, ?_⟩
          rw [l2.ow]
          show (if a = D then _ else w1.ow a) = _
          rw [if_neg ne]; exact z
        unfold mkL at e
        split at e
        · cases cell with
          | true =>
            rw [if_pos rfl] at e
            cases e
            have le0 : w2.le0 (w2.giveC w1.ow D) := ⟨FzLe.rfl, Eq.refl _, fun i y q => by
              show (w2.phi_ ++ [D])[i]? = some y
              rw [List.getElem?_append_left (List.getElem?_eq_some_iff.mp q).1]; exact q⟩
            refine b (w2.giveC w1.ow D) H2 _ ⟨(l1.tole0.trans l02).trans le0, l1.ow⟩ (S2.giveC wD hf dlk (.lst (S2.ow D _ wD).1 (r2.mono0 le0))) (.ref ?_)
            show (w2.phi_ ++ [D])[h2.length]? = some D
            rw [← S2.len]; simp
          | false =>
            rw [if_neg Bool.false_ne_true] at e
            obtain ⟨ds, hd, z⟩ := Option.map_eq_some_iff.mp e
            cases z
            have le0 : w2.le0 (w2.give w1.ow D (.lst av)) := ⟨fun a u q => by
              show (if a = D then _ else w2.fz a) = some u
              rw [if_neg (fun z => by rw [z, (S2.ow D _ wD).2.1] at q; cases q)]; exact q, Eq.refl _, fun _ _ h => h⟩
            refine b (w2.give w1.ow D (.lst av)) H2 _ ⟨(l1.tole0.trans l02).trans le0, l1.ow⟩ (S2.give wD hf (.inr True.intro)) (.d (.lst (vs := av) ?_ ((allD_rel hd r2).mono le0.fz)))
            show (if D = D then _ else _) = _
            rw [if_pos rfl]
        · cases e
      cases n with
      | zero =>
        unfold lc2Go at e3
        split at e3
        · rename_i z
          exact .inl ⟨k1 z, fin (Option.some.inj e3).symm⟩
        · cases e3
      | succ n =>
        unfold lc2Go at e3
        split at e3
        · rename_i z
          exact .inl ⟨k1 z, fin (Option.some.inj e3).symm⟩
        · rename_i x z
          obtain ⟨k3, k4⟩ := k2 x z
          refine .inr ⟨k3, fun H' => ∃ hh ac, Mk2 X.mg w1 D H' hh ac ∧ lc2Go s g t it1 g1 t1 m vs1 (wipeE ρ vs) n (i + 1) ac hh = some (acc, h2), fun H' q' => ⟨n, Nat.lt_succ_self n, q'⟩, fun xv H' y => ?_⟩
          obtain ⟨w3, l3, S3, r3⟩ := k4 xv H' y
          split at e3
          · rename_i ρ1 hh1 e4
            split at e3
            · rename_i hh2 e5
              split at e3
              · rename_i s1 hh3 e6
                split at e3
                · rename_i acc' hh4 e7
                  refine ⟨w3, wipeE ρ vs, hh, x, ρ1, hh1, S3, (E.mono l1).mono0 (l02.trans l3.tole0) |>.wipe vs, r3, e4, fun w4 H4 σ4 l4 S4 E4 z4 => ⟨by rw [z4]; exact wipe_wipe, w4, ρ1, hh1, true, hh2, S4, E4, e5, fun w5 H5 l5 S5 => iteT ⟨w5, ρ1, hh2, s1, hh3, S5, E4.mono l5, e6, fun w6 H6 J1 l6 S6 k6 => ?_⟩⟩⟩
                  have l26 : w2.le w6 := ((l3.trans l4).trans l5).trans l6
                  -- the inner loop
                  refine ⟨fun j kk H => ∃ hj aj wj vj, (w1.own D (.lst vj)).le wj ∧ w6.le0 wj ∧ Sm X.mg wj H hj ∧ RelAs X.mg wj aj vj ∧ lcGo s1 g1 t1 m (wipeE ρ1 vs1) kk j aj hj = some (acc', hh4), ⟨s1.fuel, hh3, ac, w6, av, l2.trans l26, Wd.le.rfl.tole0, S6, r2.mono l26, e7⟩, ?_⟩
                  rintro j kk Hj ⟨hj, aj, wj, vj, lj, l6j, Sj, rj, ej⟩
                  obtain ⟨kj1, kj2⟩ := k6 j wj Hj hj l6j Sj
                  have out : (acc', hh4) = (aj, hj) → ∃ hh ac, Mk2 X.mg w1 D Hj hh ac ∧ lc2Go s g t it1 g1 t1 m vs1 (wipeE ρ vs) n (i + 1) ac hh = some (acc, h2) := fun z => by
                    cases z
                    exact ⟨hh4, acc', ⟨wj, vj, lj, Sj, rj⟩, e3⟩
                  cases kk with
                  | zero =>
                    unfold lcGo at ej
                    split at ej
                    · rename_i z
                      exact .inl ⟨kj1 z, out (Option.some.inj ej).symm⟩
                    · cases ej
                  | succ kk =>
                    unfold lcGo at ej
                    split at ej
                    · rename_i z
                      exact .inl ⟨kj1 z, out (Option.some.inj ej).symm⟩
                    · rename_i xj zj
                      obtain ⟨kj3, kj4⟩ := kj2 xj zj
                      refine .inr ⟨kj3, fun H' => ∃ hj aj wj vj, (w1.own D (.lst vj)).le wj ∧ w6.le0 wj ∧ Sm X.mg wj H' hj ∧ RelAs X.mg wj aj vj ∧ lcGo s1 g1 t1 m (wipeE ρ1 vs1) kk (j + 1) aj hj = some (acc', hh4), fun H' q' => ⟨kk, Nat.lt_succ_self kk, q'⟩, fun xv1 H'1 y1 => ?_⟩
                      obtain ⟨wa, la, Sa, ra⟩ := kj4 xv1 H'1 y1
                      have Ea : EnvOk X.mg wa ρ1 σ4 := E4.mono0 (((l5.trans l6).tole0.trans l6j).trans la.tole0)
                      split at ej
                      · rename_i ρb hb1 e8
                        split at ej
                        · rename_i hb2 e9
                          split at ej
                          · rename_i yy hb3 e10
                            split at ej
                            · rename_i hz
                              refine ⟨wa, wipeE ρ1 vs1, hj, xj, ρb, hb1, Sa, Ea.wipe vs1, ra, e8, fun wb Hb σb lb Sb Eb zb => ⟨by rw [zb]; exact wipe_wipe, wb, ρb, hb1, true, hb2, Sb, Eb, e9, fun wc Hc lc Sc => iteT ⟨wc, ρb, hb2, yy, hb3, Sc, Eb.mono lc, e10, fun wd Hd vd ld Sd rd => ?_⟩⟩⟩
                              have ljd : wj.le wd := ((la.trans lb).trans lc).trans ld
                              obtain ⟨m1, m2, we, ve, le, Se, re⟩ := more lj ljd Sd rj rd hz
                              have wjD : wj.ow D = some (.lst vj) := by rw [lj.ow]; show (if D = D then _ else _) = _; rw [if_pos rfl]
                              have wdD : wd.ow D = some (.lst vj) := by rw [ljd.ow]; exact wjD
                              have dd : ∀ u, wd.lk D ≠ some u := fun u z => hlk u (by rw [← (own_le0' (lj.trans ljd).tole0).lk]; exact z)
                              refine ⟨vj, m1, m2, hb3, aj ++ [yy], wd.own D (.lst (vj ++ [vd])), vj ++ [vd], ⟨own_le0' (lj.trans ljd).tole0 |>.trans own_le0 |> own_lift, ?_⟩, (l6j.trans ljd.tole0).trans own_le0, Sd.rewrite wdD dd, RelAs.append (rj.mono0 (ljd.tole0.trans own_le0)) (.cons (rd.mono0 own_le0) .nil), ej⟩
                              funext a
                              show (if a = D then _ else wd.ow a) = (if a = D then _ else w1.ow a)
                              by_cases za : a = D
                              · rw [if_pos za, if_pos za]
                              · rw [if_neg za, if_neg za, ljd.ow, lj.ow]
                                show (if a = D then _ else w1.ow a) = _
                                rw [if_neg za]
                            · cases ej
                          · cases ej
                        · rename_i hb2 e9
                          refine ⟨wa, wipeE ρ1 vs1, hj, xj, ρb, hb1, Sa, Ea.wipe vs1, ra, e8, fun wb Hb σb lb Sb Eb zb => ⟨by rw [zb]; exact wipe_wipe, wb, ρb, hb1, false, hb2, Sb, Eb, e9, fun wc Hc lc Sc => iteF ?_⟩⟩
                          have ljc : wj.le wc := (la.trans lb).trans lc
                          exact ⟨hb2, aj, wc, vj, lj.trans ljc, l6j.trans ljc.tole0, Sc, rj.mono ljc, ej⟩
                        · cases ej
                      · cases ej
                    · cases ej
                · cases e3
              · cases e3
            · rename_i hh2 e5
              refine ⟨w3, wipeE ρ vs, hh, x, ρ1, hh1, S3, (E.mono l1).mono0 (l02.trans l3.tole0) |>.wipe vs, r3, e4, fun w4 H4 σ4 l4 S4 E4 z4 => ⟨by rw [z4]; exact wipe_wipe, w4, ρ1, hh1, false, hh2, S4, E4, e5, fun w5 H5 l5 S5 => iteF ?_⟩⟩
              have l25 : w2.le w5 := (l3.trans l4).trans l5
              exact ⟨hh2, ac, ⟨w5, av, l2.trans l25, S5, r2.mono l25⟩, e3⟩
            · cases e3
          · cases e3
        · cases e3
    · cases e
  · cases e
theorem e_lc2 (cell : Bool) {elt tg iter tg1 iter1 : Expr} {ifs ifs1 : List Expr} {scope : Scope} {own : List (Str × Nat)} {vs1 : List Nat} {pos : Pos} {it it1 : SrcI} {g g1 : GI} {t t1 : TI'} {m : EI} (hc : X.calm = true) (hN : X.N.Nodup) (hi : PI X tg iter (iS X.mg it)) (ok : BlkOk X.N X.env.scope scope own) (hv : ∀ i ∈ vs1, i ∈ own.map (·.2))
    (hg : ∀ (s : Shared) (H : Hp) (C : Addr) (cl : List (Str × Addr)) (fp : List Addr), PG (X.blk s H scope (compEnvC scope cl C X.env) fp) tg (rGw X.mg (own.map (·.2)) g)) (ht : ∀ (s : Shared) (H : Hp) (C : Addr) (cl : List (Str × Addr)) (fp : List Addr), PTs (X.blk s H scope (compEnvC scope cl C X.env) fp) ifs (rT X.mg t))
    (hi1 : ∀ (s : Shared) (H : Hp) (C : Addr) (cl : List (Str × Addr)) (fp : List Addr), PI (X.blk s H scope (compEnvC scope cl C X.env) fp) tg1 iter1 (iS X.mg it1))
    (hg1 : ∀ (s : Shared) (H : Hp) (C : Addr) (cl : List (Str × Addr)) (fp : List Addr), PG (X.blk s H scope (compEnvC scope cl C X.env) fp) tg1 (rGw X.mg vs1 g1)) (ht1 : ∀ (s : Shared) (H : Hp) (C : Addr) (cl : List (Str × Addr)) (fp : List Addr), PTs (X.blk s H scope (compEnvC scope cl C X.env) fp) ifs1 (rT X.mg t1))
    (he : ∀ (s : Shared) (H : Hp) (C : Addr) (cl : List (Str × Addr)) (fp : List Addr), PE (X.blk s H scope (compEnvC scope cl C X.env) fp) elt (rE X.mg m)) (hs : ∀ x, foldedSetIterable iter X.env x = pure x := by intro _; rfl) (hs1 : ∀ env x, foldedSetIterable iter1 env x = pure x := by intro _ _; rfl) :
    PE X (.ListComp elt [⟨tg, iter, ifs, 0⟩, ⟨tg1, iter1, ifs1, 0⟩] scope pos) (rE X.mg (mLc2 cell it g t it1 g1 t1 m (own.map (·.2)) vs1)) :=
  PE.imp (pe_lc2 hc hN hi ok hv hg ht hi1 hg1 ht1 he hs hs1) fun σ H Q q => lc2_core' q
end
end F2
set_option Elab.async false
set_option linter.all false
set_option maxRecDepth 100000
set_option maxHeartbeats 4000000
namespace F2
open PySem PySem.Spec PyProof.Rows L2
section
variable {X : Cx} {pins : List (Addr × Obj)} {σ : L2.St} {H : Hp} {s : Shared}
/-- all but the frame stands as it stood, and one new object more -/
theorem Inv.newN {h' : Heap} {tk : Nat} {D : Addr} {o : HO} (I : L2.Inv X pins σ H s) (k : ∀ b u, b ≠ X.env.locals → s.heap.get? b = some u → h'.get? b = some u) (ns : ∀ m, s.heap.Ns X.env.locals m → h'.Ns X.env.locals m) (hD : s.heap.get? D = none) (hL : D ≠ X.env.locals) (hn : H D = none)
    (new : ObjOk X.prog X.w (upd H D o) h' D o) : L2.Inv X pins σ (upd H D o) { s with heap := h', toks := tk } := by
  have ne : ∀ b u, s.heap.get? b = some u → b ≠ D := fun b u e z => by rw [z, hD] at e; cases e
  have nL : ∀ b u, H b = some u → b ≠ X.env.locals := fun b u e z => by rw [z, I.free] at e; cases e
  have there : ∀ b u, s.heap.get? b = some u → ∃ u', h'.get? b = some u' := fun b u e => by
    by_cases z : b = X.env.locals
    · obtain ⟨m, hm, _⟩ := I.loc
      obtain ⟨o2, _, _, h2, _⟩ := ns m hm
      exact ⟨o2, by rw [z]; exact h2⟩
    · exact ⟨u, k b u z e⟩
  refine I.step (g' := s.gens) (d' := s.drawn) (ch := []) (fun _ z => nomatch z) (fun b u z _ _ e _ => k b u z e) (fun b u z _ _ e _ => ⟨u.slots, k b u z e⟩) (fun b u _ e n => by rw [upd_ne (ne b u e)]; exact n) (fun b u _ e => there b u e)
    (fun b xs e => by rw [upd_ne (ne_of_none e hn)]; exact e) (fun b u v e => by rw [upd_ne (ne_of_none e hn)]; exact e) (fun b ps e => ⟨#[], by rw [upd_ne (ne_of_none e hn), e]; simp⟩) ns (fun b u e => ?_) I.bare
  by_cases z : b = D
  · subst z
    rw [upd_same] at e; cases e
    exact new
  · rw [upd_ne z] at e
    refine (I.hok b u e).stay (fun c v hc q => k c v ?_ q) (fun c q => by rw [upd_ne (ne_of_none q hn)]; exact q) fun c xs q => by rw [upd_ne (ne_of_none q hn)]; exact q
    rcases hc with y | y
    · rw [y]; exact nL b u e
    · exact nL c _ y
end
section
variable {X : Cx}
/-- a, *b = a list: the first, a new list of the others -/
def gStar1 (g1 g2 : GI) : GI := fun a ρ h => match itemsL a h with
  | some (x :: xs) => if xs.length < 16384 then match g1 x ρ h with
    | some (ρ1, h1) => match mkL false xs h1 with
      | some (y, h2) => g2 y ρ1 h2
      | none => none
    | none => none
    else none
  | _ => none
theorem g_star1 {e1 e2 : Expr} {k : Nat} {p1 pos : Pos} {i j : Nat} (hc : X.calm = true) (h1 : PG X e1 (gName i)) (h2 : PG X e2 (gName j))
    (hlen : (assignEach [e1, .Starred e2 p1] X.env).length = 2 := by rfl) (hstar : (assignEach [e1, .Starred e2 p1] X.env).findIdx? (·.1) = some 1 := by rfl) (hs : (assignEach [e1, .Starred e2 p1] X.env).map (·.2) = [assign e1 X.env, assign e2 X.env] := by rfl) :
    PG X (.Tuple [e1, .Starred e2 p1] k pos) (rG X.mg (gStar1 (gN i) (gN j))) := by
  refine ⟨fun pins s σ H v u Q I r ⟨w, ρ, h, a, ρ', h', S, E, ra, e, b⟩ => ?_⟩
  unfold gStar1 at e
  split at e
  · rename_i x xs ex
    split at e
    · rename_i hz
      obtain ⟨p, vs, rfl, hp, rp⟩ := itemsL_rel S ra ex
      cases r
      obtain ⟨its, rv, pl, hsz⟩ := I.list (SqL.of hp)
      cases rp with
      | @cons _ vx _ vr rx rt =>
        cases rv with
        | @cons _ ux _ ur rvx rvt =>
          obtain ⟨m, F⟩ := I.fr
          have hu : ur.length < 16384 := by rw [← rvt.length, ← rt.length]; exact hz
          refine PySem.W.kun_assignL (first := [ux]) (mids := ur) (lasts := []) F news_all pl.isList (I.ok.hd hc) hlen hstar (by decide) (by simp) (by simp only [List.size_toArray, List.length_cons]; omega) (by simp) (by simp) (by simp) fun D h2' tk F' N' above => ?_
          have hL : D ≠ X.env.locals := (N' (D, _) List.mem_cons_self).2.1
          have gN' : ∀ b o, b ≠ X.env.locals → s.heap.get? b = some o → h2'.get? b = some o := fun b o z e => by
            cases q : X.base.get? b with
            | some y =>
              have := I.bk b y q
              rw [e] at this; cases this
              exact F'.keep b _ q
            | none => exact (N' (b, o) (List.mem_cons_of_mem _ (mem_allNews z q e))).1
          have hD : s.heap.get? D = none := by
            cases q : s.heap.get? D with
            | none => rfl
            | some o => exact absurd (above (D, o) (mem_allNews hL (N' (D, _) List.mem_cons_self).2.2 q)) (Nat.lt_irrefl _)
          have hn : H D = none := I.hok.gone hD
          have fit : vr.length ≤ sizeLine := by rw [rvt.length]; rw [sizeLine_eq]; omega
          have J : L2.Inv X pins σ (upd H D (.lst vr)) { s with heap := h2', toks := tk } := Inv.newN I gN' (fun m' hm => by
            rw [show m' = m from (Heap.Ns.eq_nsMap hm).trans (Heap.Ns.eq_nsMap F.ns).symm]; exact F'.ns) hD hL hn ⟨fit, ur, 0, rvt, (N' (D, _) List.mem_cons_self).1⟩
          rw [hs]
          show wpAny _ _ (assignInOrder [assign e1 X.env, assign e2 X.env] [ux, .ref D]) _ _ _
          dsimp only [gN] at e
          split at e
          · rename_i y h3 e3
            cases e
            have S2 : Bh X.mg w h' y (fun v2 H2 => Q ((σ.set i (some vx)).set j (some v2)) H2) := fun w3 H3 v3 l3 S3 r3 => b w3 H3 _ l3 S3 (((E.mono l3).set (rx.mono l3)).set r3)
            have q2 := (mkL_ok S rt e3 S2).2 D hn
            refine assignInOrder_cons (thn (h1.run pins _ σ (upd H D (.lst vr)) vx ux (fun σ1 H1 => σ1 = σ.set i (some vx) ∧ H1 = upd H D (.lst vr)) J rvx ⟨rfl, rfl⟩) fun _ s3 ⟨σ1, H1, I1, z1, z2⟩ => ?_)
            subst z1 z2
            refine assignInOrder_cons (thn (h2.run pins s3 _ (upd H D (.lst vr)) (.ref D) (.ref D) Q I1 rfl q2) fun _ s4 ⟨σ2, H2, I2, q3⟩ => ?_)
            exact assignInOrder_nil ⟨σ2, H2, I2, q3⟩
          · cases e
    · cases e
  · cases e
end
end F2
set_option Elab.async false
set_option linter.all false
set_option maxRecDepth 100000
set_option maxHeartbeats 4000000
namespace F2
open PySem PySem.Spec PyProof.Rows L2
/-! ### isinstance -/
/-- the built-in type of data, of a cell -/
def tyName : A → Hh → Option String
  | .d .non, _ => some "NoneType"
  | .d (.bl _), _ => some "bool"
  | .d (.int _), _ => some "int"
  | .d (.str _), _ => some "str"
  | .d (.tup _), _ => some "tuple"
  | .d (.tupN _), _ => some "tuple"
  | .tp _, _ => some "tuple"
  | .d (.lst _), _ => some "list"
  | .d (.dK _), _ => some "dict"
  | .ref l, h => match h[l]? with
    | some (.lst _) => some "list"
    | some (.dK _) => some "dict"
    | some (.dT _) => some "dict"
    | _ => none
  | _, _ => none
theorem tyName_rel {mg : Mg} {w : Wd} {H : Hp} {h : Hh} {K : PySem.W.Frag} (S : Sm mg w H h) {x : A} {v : V} {T : String} (r : RelA mg w x v) (e : tyName x h = some T) : TyX K H v (.type T) := by
  cases r with
  | d hd =>
    cases hd with
    | non => cases e; exact .base .non
    | bl b => cases e; exact .base (.bl b)
    | int i => cases e; exact .base (.int i)
    | str y => cases e; exact .base (.str y)
    | tup q _ => cases e; exact .base (.tup (S.st _ _ q True.intro))
    | tupN q _ _ _ => cases e; exact .fTuple (S.st _ _ q True.intro)
    | lst q _ => cases e; exact .base (.lst (S.st _ _ q True.intro))
    | dK q _ =>
      cases e
      rcases S.fz _ _ q with z | ⟨ob, z⟩
      · exact .base (.dK z)
      · exact .fDict z
    | _ => cases e
  | @ref l a hl =>
    simp only [tyName] at e
    split at e
    · rename_i ys q
      cases e
      cases S.cell l a _ hl q with
      | lst h1 _ => exact .base (.lst h1)
    · rename_i ys q
      cases e
      cases S.cell l a _ hl q with
      | dK h1 _ => exact .base (.dK h1)
    · rename_i ys q
      cases e
      cases S.cell l a _ hl q with
      | dT h1 _ => exact .base (.dT h1)
    · cases e
  | tp q _ => cases e; exact .base (.tup (S.st _ _ q True.intro))
/-- what a class must say, so that isinstance asks its instances rightly -/
structure InsT (K : PySem.W.Frag) (C : Addr) : Prop where
  cl : Cls K C
  ha : PySem.W.findIn K (.ref C) "__class__" = some (some (.builtin "object.__class__"))
  hn : PySem.W.specialIn K (.builtin "object.__class__") "__get__" = some (some (.builtin "getset_descriptor.__get__"))
  ht : PySem.W.takesIn K (.builtin "object.__class__") = some true
  hm : PySem.W.mroIn K C (.type "object") = some true
section
variable {X : Cx}
def mIsi (T : String) (m : EI) : EI := fun ρ h => match m ρ h with
  | some (x, h1) => match tyName x h1 with
    | some t => (kitB t T).map fun b => (.d (.bl b), h1)
    | none => none
  | none => none
/-- isinstance(e, T), T built-in -/
theorem e_isi (T : String) {e : Expr} {m : EI} {x : Str} {p p2 pos : Pos} (hm : X.mg "isinstance" = none) (hx : X.mg x = none) (he : PE X e (rE X.mg m)) (hv : bootBuiltins x = some (.type T) := by decide +kernel) (hg : Gl X "isinstance" := by rfl) (hgx : Gl X x := by rfl) (hn : x ≠ "__name__" := by decide) (hdb : (x == ("__debug__" : Str)) = false := by decide)
    (h1 : starEach [e, .Name x p2] X.env = (false, eval e X.env) :: starEach [.Name x p2] X.env := by rfl) (h2 : starEach [.Name x p2] X.env = (false, eval (.Name x p2) X.env) :: starEach [] X.env := by rfl) (hpl : (backTo pos (starEach [.Name x p2] X.env)).any (·.1) = false := by rfl) :
    PE X (.Call (.Name "isinstance" p) [e, .Name x p2] [] pos) (rE X.mg (mIsi T m)) :=
  PE.imp (pe_callB call_isi hg hm (by decide +kernel) (pa_cons he (pa_cons (pe_bltn (v := .ty T) hgx hx hv rfl hn hdb) pa_nil h2) h1) (he := h1) (hpl := hpl)) fun σ H Q ⟨w, ρ, h, a, h', S, E, e, b⟩ => by
    unfold mIsi at e
    split at e
    · rename_i y h1 e1
      split at e
      · rename_i t et
        obtain ⟨k, hk, z⟩ := Option.map_eq_some_iff.mp e
        cases z
        exact ⟨w, ρ, h, y, h', S, E, e1, fun w1 H1 v l1 S1 r1 => ⟨v, .ty T, .type t, .type T, k, rfl, .ty T, tyName_rel S1 r1 et, kit_ty hk, b w1 H1 _ l1 S1 (.d (.bl _))⟩⟩
      · cases e
    · cases e
def mIsC (c : Str) (m : EI) : EI := fun ρ h => match m ρ h with
  | some (x, h1) => match fieldsOf c x h1 with
    | some _ => some (.d (.bl true), h1)
    | none => match tyName x h1 with
      | some _ => some (.d (.bl false), h1)
      | none => none
  | none => none
/-- isinstance(e, C), C a class of the text -/
theorem e_isC (c : Str) {C : Addr} {e : Expr} {m : EI} {p p2 pos : Pos} (hC : X.mg c = some (.ref C)) (I : InsT X.K C) (hs : PySem.W.kitOne X.K (.ref C) (.ref C) = some true) (hno : ∀ T : String, PySem.W.kitOne X.K (.type T) (.ref C) = some false ∨ T ∉ ["NoneType", "bool", "int", "str", "tuple", "list", "dict"]) (hm : X.mg "isinstance" = none) (he : PE X e (rE X.mg m)) (hg : Gl X "isinstance" := by rfl) (hgx : Gl X c := by rfl) (hdb : (c == ("__debug__" : Str)) = false := by decide)
    (h1 : starEach [e, .Name c p2] X.env = (false, eval e X.env) :: starEach [.Name c p2] X.env := by rfl) (h2 : starEach [.Name c p2] X.env = (false, eval (.Name c p2) X.env) :: starEach [] X.env := by rfl) (hpl : (backTo pos (starEach [.Name c p2] X.env)).any (·.1) = false := by rfl) :
    PE X (.Call (.Name "isinstance" p) [e, .Name c p2] [] pos) (rE X.mg (mIsC c m)) :=
  PE.imp (pe_callB call_isi hg hm (by decide +kernel) (pa_cons he (pa_cons (pe_glob (v := .ref C) hgx hC rfl hdb) pa_nil h2) h1) (he := h1) (hpl := hpl)) fun σ H Q ⟨w, ρ, h, a, h', S, E, e, b⟩ => by
    unfold mIsC at e
    split at e
    · rename_i y h1 e1
      refine ⟨w, ρ, h, y, h1, S, E, e1, fun w1 H1 v l1 S1 r1 => ?_⟩
      split at e
      · rename_i fs ef
        cases e
        obtain ⟨q, dx, gs, rfl, hq, rf⟩ := fieldsOf_rel S1 hC r1 ef
        exact ⟨.ref q, .ref C, .ref C, .ref C, true, rfl, .own C, .base (.ins hq I.cl I.ha I.hn I.ht I.hm), hs, b w1 H1 _ l1 S1 (.d (.bl _))⟩
      · split at e
        · rename_i t et
          cases e
          have hk : PySem.W.kitOne X.K (.type t) (.ref C) = some false := by
            rcases hno t with z | z
            · exact z
            · refine absurd ?_ z
              unfold tyName at et
              split at et <;> first | (cases et; decide) | (split at et <;> first | (cases et; decide) | cases et) | cases et
          exact ⟨v, .ref C, .type t, .ref C, false, rfl, .own C, tyName_rel S1 r1 et, hk, b w1 H1 _ l1 S1 (.d (.bl _))⟩
        · cases e
    · cases e
/-! ### x != y, x == y of instances with an own == -/
structure EqNe (K : PySem.W.Frag) (C f : Addr) : Prop where
  lk : ∃ nm q N bs hdct sn sub ab col dd k0 k1 k2 k3 k5 newId of, K.lookup C = some (excClassObj nm q C N bs [.type "object"] hdct sn sub ab col dd k0 k1 k2 k3 k5 newId) ∧ PySem.W.nsOkIn K N = true ∧
    PySem.W.nsIn K N "__eq__" = some (some (.ref f)) ∧ PySem.W.nsIn K N "__ne__" = some none ∧ K.lookup f = some of ∧ of.cls = .type "function"
def fNeC (c : Str) (F : FnI) : A → A → Hh → Option (A × Hh) := fun x y h => match fieldsOf c x h, fieldsOf c y h with
  | some _, some _ => match F [x, y] h with
    | some (.d (.bl b), h') => some (.d (.bl !b), h')
    | _ => none
  | _, _ => none
theorem nsMap_of_in {K : PySem.W.Frag} {h : Heap} {N : Addr} {x : Str} {v : Value} (X : K.In h) (e : PySem.W.nsOkIn K N = true) (q : PySem.W.nsIn K N x = some (some v)) : h.nsMap N x = some v := by
  have G : h.Ns N (h.nsMap N) := .of_isNs (PySem.W.isNs_of_in X e)
  obtain ⟨o, es, n, ho, hd, hk, hf⟩ := G
  unfold PySem.W.nsIn at q
  split at q
  · rename_i o' hl
    have e2 := X _ _ hl
    rw [ho] at e2; cases e2
    rw [← hf]
    cases hd
    first
    | (split at q
       · rename_i y hy
         cases q
         unfold nsFind findBy
         rw [← Array.find?_toList, hy]
         rfl
       · split at q <;> cases q)
  · cases q
end
end F2
set_option Elab.async false
set_option linter.all false
set_option maxRecDepth 100000
set_option maxHeartbeats 4000000
namespace F2
open PySem PySem.Spec PyProof.Rows L2
section
variable {X : Cx}
/-- x != y by an own == -/
theorem o_neC (c : Str) {C f : Addr} {fd : FuncData} {ps : List Str} {F : FnI} {k : Nat} (hC : X.mg c = some (.ref C)) (Q0 : EqNe X.K C f) (G : Ok X.prog X.w X.K X.mg X.base k f fd ps F) (h2 : ps.length = 2) (hr : Room (k + 1) X.A) (hb : Binds X.K fd ps []) : OpI X (compareOp .NotEq) (fNeC c F) := by
  intro pins s σ H vx vy v u Q I rx ry ⟨w, h, x, y, a, h', S, r1, r2, e, b⟩
  unfold fNeC at e
  split at e
  · rename_i fs gs ef eg
    split at e
    · rename_i b0 h1 eF
      cases e
      obtain ⟨p, dx, us, rfl, hp, rf⟩ := fieldsOf_rel S hC r1 ef
      obtain ⟨q, dy, ws, rfl, hq, rg⟩ := fieldsOf_rel S hC r2 eg
      cases rx
      cases ry
      obtain ⟨mA, J, _⟩ := ins_get I.hok hp
      obtain ⟨mB, J', _⟩ := ins_get I.hok hq
      obtain ⟨nm, qq, N, bs, hdct, sn, sub, ab, col, dd, k0, k1, k2, k3, k5, newId, of, hl, hns, heq, hne, hlf, hft⟩ := Q0.lk
      have KI := I.kIn
      have XE : s.heap.OwnEqNoNe p C f "object" [.type "object"] :=
        ⟨_, of, nm, qq, N, bs, hdct, sn, sub, ab, col, dd, k0, k1, k2, k3, k5, newId, _, _, J.obj, rfl, KI _ _ hl, PySem.W.isNs_of_in KI hns |> Heap.Ns.of_isNs, nsMap_of_in KI hns heq, KI _ _ hlf, hft, PySem.F.mro_object, rfl, PySem.W.nsMap_none_of_in KI hns hne⟩
      have hsp : spI X.mg ps.length F [.ref p, .ref q] H (fun v H' => ∃ bb, v = .bl bb ∧ Q (.bl !bb) H') E0 := ⟨by rw [h2]; rfl, w, h, [x, y], .d (.bl b0), _, S, .cons r1 (.cons r2 .nil), eF, fun w1 H1 v1 l1 S1 r3 => ⟨b0, relbl r3, b w1 H1 _ l1 S1 (.d (.bl _))⟩⟩
      have e0 : Env0 X.prog X.w X.K X.mg X.base X.A.in1 X.stack s H := I.env0.in1
      have rr : Vals [V.ref p, V.ref q] [Value.ref p, Value.ref q] := .cons rfl (.cons rfl .nil)
      have hcall : wpAny (model X.prog X.w) X.A.in1 (call (.ref f) [.ref p, .ref q]) (fun v s' => ∃ bb, v = .bool bb ∧ EP X pins σ Q (.bool (!bb)) s') X.xe s := by
        refine wpAny_call (codeAny_mono (G.run X.A.in1 X.stack s H ⟨[.ref p, .ref q], []⟩ [.ref p, .ref q] [.ref p, .ref q] _ E0 hr.in1 e0 (by
          have := hb s [.ref p, .ref q] I.kIn (by simpa using h2.symm)
          simpa using this) rr hsp) fun r s' hq => ?_)
        cases r with
        | error e => exact pass0 pins σ H s e s' I hq
        | ok fl =>
          cases fl with
          | ret w =>
            obtain ⟨z, H', I', rz, bb, ez, qq⟩ := I.after hq
            subst ez
            cases rz
            exact ⟨bb, rfl, .bl (!bb), H', I', rfl, qq⟩
          | next => exact False.elim hq
          | brk => exact False.elim hq
          | cont => exact False.elim hq
      obtain ⟨hh, g, d, tk, os⟩ := s
      exact compareOp_ne_ownEq PySem.F.cmp_object XE J'.obj rfl (by have := hr.un; omega) hcall
    · cases e
  · cases e
/-- text * int -/
def fMulS : A → A → Hh → Option (A × Hh)
  | .d (.str x), .d (.int n), h => if 2 ≤ n ∧ n < 64 ∧ x.length ≠ 0 ∧ x.length ≤ 100000 then some (.d (.str ⟨(List.replicate n.toNat x.cps).foldl (· ++ ·) #[]⟩), h) else none
  | _, _, _ => none
theorem o_mulS : OpI X (binaryOp .Mult) fMulS := by
  intro pins s σ H vx vy v u Q I rx ry ⟨w, h, x, y, a, h', S, r1, r2, e, b⟩
  unfold fMulS at e
  split at e
  · rename_i z n
    split at e
    · rename_i c
      obtain ⟨c1, c2, c3, c4⟩ := c
      cases e
      have e1 := relstr r1
      have e2 := relint r2
      subst e1 e2
      obtain ⟨t, rfl⟩ := rx
      obtain ⟨t', rfl⟩ := ry
      have hm : z.length * n.toNat ≤ 100000 * 64 := Nat.mul_le_mul c4 (by omega)
      have c5 : ¬ n < 1 := by omega
      have c6 : (n == 1 || z.length == 0) = false := by
        rw [Bool.or_eq_false_iff]
        exact ⟨by simp; omega, by simpa using c3⟩
      refine PySem.P.mul_str (by rw [decide_eq_false (by omega), decide_eq_false (by omega)]; rfl) (fun _ _ => ?_) (fun _ _ => ?_) ?_
      · intro q
        have q0 : (2 ^ 63 - 1) / n < (z.length : Int) := q
        have q1 := (Int.ediv_lt_iff_lt_mul (by omega : 0 < n)).mp q0
        have q2 : (z.length : Int) ≤ 100000 := Int.ofNat_le.mpr c4
        have q3 : (z.length : Int) * n ≤ 100000 * 64 := Int.mul_le_mul q2 (by omega) (by omega) (by omega)
        omega
      · have q1 : ¬ z.length * n.toNat > 2 ^ 24 := by omega
        simpa [Builtin.Str.tooLong, sizeLine] using q1
      · rw [if_neg c5, if_neg (by rw [c6]; exact Bool.false_ne_true)]
        refine ⟨fits_reps ?_, ?_⟩
        · have q1 : ¬ z.length * n.toNat > 2 ^ 24 := by omega
          simpa [Builtin.Str.tooLong, sizeLine] using q1
        · exact ⟨.str _, H, I.tok _, ⟨_, rfl⟩, b w H _ .rfl S (.d (.str _))⟩
    · cases e
  · cases e
/-- del xs[i] -/
def mDelL (mo mi : EI) : SI := fun ρ h => match mo ρ h with
  | some (.ref l, h1) => match mi ρ h1 with
    | some (.d (.int i), h2) => match h2[l]? with
      | some (.lst xs) => if -(2 ^ 63) ≤ i ∧ i < 2 ^ 63 then match seqIndex? i xs.length with
        | some k => some (.nx ρ (h2.set l (.lst (xs.eraseIdx k))))
        | none => none
        else none
      | _ => none
    | _ => none
  | _ => none
theorem s_del {o i : Expr} {mo mi : EI} {tpos pos : Pos} (ho : PE X o (rE X.mg mo)) (hi : PE X i (rE X.mg mi)) : PS X (.Delete [.Subscript o i tpos] pos) (rS X.mg (mDelL mo mi)) := PS.imp (ps_delL ho hi) fun D σ H ⟨w, ρ, h, oo, S, E, e, bb⟩ => by
  unfold mDelL at e
  split at e
  · rename_i l h1 e1
    split at e
    · rename_i j h2 e2
      split at e
      · rename_i xs q
        split at e
        · rename_i hz
          split at e
          · rename_i k ek
            cases e
            refine ⟨w, ρ, h, _, h1, S, E, e1, fun w1 H1 vo l1 S1 r1 => ⟨w1, ρ, h1, _, h2, S1, E.mono l1, e2, fun w2 H2 vi l2 S2 r2 => ?_⟩⟩
            have r1' := r1.mono l2
            rw [relint r2]
            cases r1' with
            | @ref _ p hp =>
              cases S2.cell l p _ hp q with
              | @lst _ us h3 h4 =>
                refine ⟨p, us, j, k, rfl, rfl, h3, hz.1, hz.2, by rw [← h4.length]; exact ek, ?_⟩
                exact bb w2 _ σ (l1.trans l2) (S2.write hp (fun o z => by rw [q] at z; cases z; exact True.intro) (.lst upd_same (h4.erase k))) (E.mono (l1.trans l2))
          · cases e
        · cases e
      · cases e
    · cases e
  · cases e
/-- t.index(x) of a tuple of texts -/
def dtxts : List D → Option (List Str)
  | [] => some []
  | .str b :: r => (dtxts r).map (b :: ·)
  | _ => none
theorem dtxts_rel {mg : Mg} {f : Fz} : ∀ {as : List D} {vs : List V} {bs : List Str}, RelDs mg f as vs → dtxts as = some bs → vs = bs.map V.str
  | _, _, _, .nil, e => by cases e; rfl
  | a :: as, _, bs, .cons h t, e => by
    unfold dtxts at e
    split at e
    · rename_i q; cases q
    · rename_i b r q
      cases q
      obtain ⟨cs, h1, rfl⟩ := Option.map_eq_some_iff.mp e
      cases h
      rw [dtxts_rel t h1]; rfl
    · cases e
def fTIndex : A → List A → Hh → Option (A × Hh)
  | .d (.tupN xs), [.d (.str z)], h => match dtxts xs with
    | some ys => (ys.idxOf? z).map fun j => (.d (.int (j : Nat)), h)
    | none => none
  | _, _, _ => none
theorem m_tindex : MetI X "tuple.index" fTIndex := MetI.of mt_tup_index fun w H h x v xs vs a h' Q S r1 r2 e b => by
  unfold fTIndex at e
  split at e
  · rename_i ts z
    split at e
    · rename_i ys ey
      obtain ⟨j, hj, q⟩ := Option.map_eq_some_iff.mp e
      cases q
      obtain ⟨u, rfl, ru⟩ := rel1 r2
      cases r1 with
      | d r1 =>
        cases r1 with
        | @tupN p _ us _ q _ _ rs =>
          refine ⟨p, ys, z, j, rfl, by rw [relstr ru], by rw [← dtxts_rel rs ey]; exact .inl (.inr ⟨_, S.st _ _ q True.intro⟩), ?_, ?_, b w H _ .rfl S (.d (.int _))⟩
          · obtain ⟨hlt, q1, q2⟩ := List.idxOf?_eq_some_iff.mp hj
            rw [List.getElem?_eq_getElem hlt, q1]
          · intro m hm e3
            obtain ⟨hlt, q1, q2⟩ := List.idxOf?_eq_some_iff.mp hj
            obtain ⟨hlt2, q3⟩ := List.getElem?_eq_some_iff.mp e3
            exact q2 m hm q3
    · cases e
  · cases e
/-- a method of a tuple whose object is known -/
def mMetN (F : A → List A → Hh → Option (A × Hh)) (o : EI) (r : AI) : EI := fun ρ h => match o ρ h with
  | some (.d (.tupN ts), h1) => match r ρ h1 with
    | some (xs, h2) => F (.d (.tupN ts)) xs h2
    | none => none
  | _ => none
theorem e_metN {name id : String} {F : A → List A → Hh → Option (A × Hh)} {o e : Expr} {es : List Expr} {mo : EI} {m : AI} {apos cpos : Pos} (slot : Slot "tuple" name id) (hty : typeOf (.builtin id) = pure (.type "method_descriptor")) (hm : MetI X id F) (ho : PE X o (rE X.mg mo)) (ha : PA X (e :: es) (rA X.mg m))
    (hbase : attributeBase o name X.env (eval o X.env) = eval o X.env := by rfl)
    (hfew : ((backTo cpos (starEach (e :: es) X.env)).all (fun x => !x.1) && (backToKw cpos (keywordEach [] X.env)).all (fun x => x.1.isSome) && decide ((e :: es).length + ([] : List Keyword).length + (if ([] : List Keyword).isEmpty then 0 else 1) < 30)) = true := by rfl)
    (hline : (apos.endLine == cpos.line) = true := by rfl) (hs : starEach (e :: es) X.env = (false, eval e X.env) :: starEach es X.env := by rfl) (hplain : (backTo cpos (starEach es X.env)).any (·.1) = false := by rfl) :
    PE X (.Call (.Attribute o name apos) (e :: es) [] cpos) (rE X.mg (mMetN F mo m)) := by
  refine ⟨fun pins s σ H Q I ⟨w, ρ, h, a, h', S, E, e1, b⟩ => ?_⟩
  unfold mMetN at e1
  split at e1
  · rename_i ts h1 e2
    split at e1
    · rename_i xs h2 e3
      have q0 : rE X.mg mo σ H fun v H1 => (∃ p, v = .ref p ∧ ∃ ob vs, H1 p = some (.frz ob (.tup vs)) ∧ ob.cls = .type "tuple" ∧ ob.dict = none) ∧ rA X.mg m σ H1 fun vs H2 => ∃ w h x xs a h', Sm X.mg w H2 h ∧ RelA X.mg w x v ∧ RelAs X.mg w xs vs ∧ F x xs h = some (a, h') ∧ Bh X.mg w h' a Q := by
        refine ⟨w, ρ, h, _, h1, S, E, e2, fun w1 H1 v l1 S1 r1 => ⟨?_, w1, ρ, h1, xs, h2, S1, E.mono l1, e3, fun w2 H2 vs l2 S2 r2 => ⟨w2, h2, _, xs, a, h', S2, r1.mono l2, r2, e1, b.le (l1.trans l2)⟩⟩⟩
        cases r1 with
        | d r1 =>
          cases r1 with
          | tupN q hc hd _ => exact ⟨_, rfl, _, _, S1.st _ _ q True.intro, hc, hd⟩
      refine wpAny_Call_method_late hbase hfew hline rfl (thn (ho.run pins s σ H _ I q0) fun u s1 ⟨v, H1, I1, rv, ⟨p, ev, ob, us, hp, hc, hd⟩, q1⟩ => ?_)
      subst ev
      cases rv
      obtain ⟨hob, _⟩ := (show ObjOk X.prog X.w H1 s1.heap p (.frz ob (.tup us)) from I1.hok p _ hp)
      refine ⟨"tuple", id, PySem.F.plainAttrs_tuple, slot, hty, ⟨ob, hob, hc⟩, fun b2 eb => by cases eb; exact ⟨ob, hob, hd⟩, ?_⟩
      have hA := ha.run cpos pins s1 σ H1 _ I1 q1
      rw [hs] at hA ⊢
      refine Calls.callWith_builtin (by show (false || (backTo cpos (starEach es X.env)).any (·.1)) = false; rw [hplain] <;> rfl) (Calls.evalArgs_plain ?_)
      exact thn hA fun us2 s2 ⟨vs, H2, I2, r2, q2⟩ => hm pins s2 σ H2 (.ref p) vs _ us2 Q I2 rfl r2 q2
    · cases e1
  · cases e1
end
end F2
set_option Elab.async false
set_option linter.all false
set_option maxRecDepth 100000
set_option maxHeartbeats 4000000
namespace F2
open PySem PySem.Spec PyProof.Rows L2
section
variable {X : Cx}
def Out.heap : Out → Hh
  | .nx _ h => h
  | .rt _ h => h
  | .bk _ h => h
  | .ct _ h => h
def Out.to (o : Out) (h : Hh) : Out := match o with
  | .nx ρ _ => .nx ρ h
  | .rt a _ => .rt a h
  | .bk ρ _ => .bk ρ h
  | .ct ρ _ => .ct ρ h
/-- a statement done while the dict in the slot i is locked -/
def mLockS (i : Nat) (m : SI) : SI := fun ρ h => match ρ[i]? with
  | some (some (.ref l)) => match h[l]? with
    | some (.dK kvs) => match m ρ (h.set l (.lK kvs)) with
      | some o => match o.heap[l]? with
        | some (.lK kvs2) => some (o.to (o.heap.set l (.dK kvs2)))
        | _ => none
      | none => none
    | _ => none
  | _ => none
theorem EnvOk.mono00 {mg : Mg} {w w' : Wd} {ρ : En} {σ : L2.St} (l : w.le00 w') (E : EnvOk mg w ρ σ) : EnvOk mg w' ρ σ := ⟨E.len, fun j x z => let ⟨y, hy, ry⟩ := E.get j x z; ⟨y, hy, RelA.mono00 l ry⟩⟩
theorem s_lock (i : Nat) {st : Stmt} {m : SI} (p : PS X st (rS X.mg m)) : PS X st (rS X.mg (mLockS i m)) := PS.imp (ps_lock p) fun D σ H ⟨w, ρ, h, oo, S, E, e, b⟩ => by
  unfold mLockS at e
  split at e
  · rename_i l ei
    split at e
    · rename_i kvs q
      split at e
      · rename_i o e2
        split at e
        · rename_i kvs2 q2
          cases e
          obtain ⟨v, hv, rv⟩ := E.get i _ ei
          cases rv with
          | @ref _ p hp =>
            cases S.cell l p _ hp q with
            | @dK _ ks h1 h3 =>
              have n0 : w.lk p = none := by
                cases z : w.lk p with
                | none => rfl
                | some u =>
                  obtain ⟨o, e1, e3⟩ := (S.lk p u z).2 l hp
                  rw [q] at e1; cases e1; exact e3.elim
              refine ⟨p, .dK ks, h1, True.intro, fun od => ⟨w.lock p (.frz od (.dK ks)), ρ, _, o, S.lock hp q h1 h3 od, EnvOk.mono00 (w := w) ⟨FzLe.rfl, fun _ _ z => z⟩ E, e2, ?_⟩⟩
              have back : ∀ {w2 : Wd}, w2.le00 { w2 with lk := w.lk } := fun {w2} => ⟨FzLe.rfl, fun _ _ z => z⟩
              have up : ∀ {w2 : Wd}, (w.lock p (.frz od (.dK ks))).le w2 → w.le { w2 with lk := w.lk } := fun {w2} l2 => ⟨⟨l2.fz, Eq.refl _, l2.phi_⟩, l2.ow⟩
              cases o with
              | nx ρ2 h2 =>
                intro w2 H2 σ2 l2 S2 E2
                obtain ⟨k1, k2⟩ := S2.unlock (w0 := w) l2.lk n0 (l2.phi_ _ _ hp) q2
                exact ⟨k1, b { w2 with lk := w.lk } _ σ2 (up l2) k2 (E2.mono00 back)⟩
              | rt a h2 =>
                intro w2 H2 v2 l2 S2 r2
                obtain ⟨k1, k2⟩ := S2.unlock (w0 := w) l2.lk n0 (l2.phi_ _ _ hp) q2
                exact ⟨k1, b { w2 with lk := w.lk } _ v2 (up l2) k2 (r2.mono00 back)⟩
              | bk ρ2 h2 =>
                intro w2 H2 σ2 l2 S2 E2
                obtain ⟨k1, k2⟩ := S2.unlock (w0 := w) l2.lk n0 (l2.phi_ _ _ hp) q2
                exact ⟨k1, b { w2 with lk := w.lk } _ σ2 (up l2) k2 (E2.mono00 back)⟩
              | ct ρ2 h2 =>
                intro w2 H2 σ2 l2 S2 E2
                obtain ⟨k1, k2⟩ := S2.unlock (w0 := w) l2.lk n0 (l2.phi_ _ _ hp) q2
                exact ⟨k1, b { w2 with lk := w.lk } _ σ2 (up l2) k2 (E2.mono00 back)⟩
        · cases e
      · cases e
    · cases e
  · cases e
end
end F2
set_option Elab.async false
set_option linter.all false
set_option maxRecDepth 100000
set_option maxHeartbeats 4000000
namespace F2
open PySem PySem.Spec PyProof.Rows L2
open PySem.W (Frag)
/-- a def found by a path -/
structure DefP where
  at_ : Frag → Addr
  name : Str
  qual : Str
  st : Stmt
def fnP (K : Frag) (a : Addr) : He.FnW := match K.lookup a with
  | some ⟨_, _, .func fd, _⟩ => some (fd.name, fd.qualname, fd.params, fd.body, fd.scope, fd.globals, fd.closure, fd.builtins)
  | _ => none
def DefP.val (d : DefP) : He.FnW := some (d.name, d.qual, defArgs d.st, .stmts (defBody d.st), defScope d.st, mainGlobals, [], builtinsNs)
def DefP.ok (K : Frag) (d : DefP) : Bool := PySem.W.keepIn K (.ref (d.at_ K)) && (match K.lookup (d.at_ K) with
  | some ⟨_, _, .func fd, _⟩ => PySem.W.codeIn K fd.code d.qual && (He.dflB K fd.defaults [] && He.kwdB K fd.kwdefaults [])
  | _ => false)
/-- a def as it stands behind the top -/
abbrev FnP (K : Frag) (x qual : Str) (st : Stmt) (f : Addr) (fd : FuncData) : Prop := FunD K x qual (defArgs st) (defBody st) (defScope st) [] [] f fd
theorem DefP.funD {K : Frag} {d : DefP} (e : fnP K (d.at_ K) = d.val) (c : d.ok K = true) : ∃ fd, FnP K d.name d.qual d.st (d.at_ K) fd := by
  obtain ⟨kp, c2⟩ := He.ba c
  unfold fnP at e
  cases q : K.lookup (d.at_ K) with
  | none =>
    rw [q] at c2
    cases c2
  | some o =>
    obtain ⟨oc, od, dt, osl⟩ := o
    rw [q] at c2 e
    cases dt with
    | func fd =>
      obtain ⟨at_, nm, ql, st⟩ := d
      obtain ⟨n1, n2, n3, n4, n5, n6, n7, n8, n9, n10, n11, n12, n13, n14, n15⟩ := fd
      have e2 : (some (n1, n2, n3, n4, n5, n6, n7, n15) : He.FnW) = some (nm, ql, defArgs st, .stmts (defBody st), defScope st, mainGlobals, [], builtinsNs) := e
      simp only [Option.some.injEq, Prod.mk.injEq] at e2
      obtain ⟨h1, h2, h3, h4, h5, h6, h7, h8⟩ := e2
      subst h1 h2 h3 h4 h5 h6 h7 h8
      have c3 : (PySem.W.codeIn K n13 n2 && (He.dflB K n8 [] && He.kwdB K n9 [])) = true := c2
      obtain ⟨k1, k2⟩ := He.ba c3
      obtain ⟨k3, k4⟩ := He.ba k2
      exact ⟨_, ⟨oc, od, n8, n9, n10, n11, n12, n13, n14, osl, rfl, q, k1, He.dflB_ok k3, He.kwdB_ok k4⟩, kp⟩
    | _ => cases c2
/-! ### facts -/
abbrev Fct := Frag → Bool
def ga := He.ga
def ma := He.ma
/-- the property f of the class x, its getter -/
def pa (x f : Str) (K : Frag) : Addr := He.ma K (He.ga K x) f
def pg (x f : Str) (K : Frag) : Addr := match PySem.W.recIn K (pa x f K) "property" with
  | some (.ref g :: _) => g
  | _ => 0
def propB (x f : Str) : Fct := fun K => He.eqO (PySem.W.findIn K (.ref (He.ga K x)) f) (some (some (.ref (pa x f K)))) && (He.eqO (PySem.W.specialIn K (.ref (pa x f K)) "__get__") (some (some (.builtin "property.__get__"))) && (decide (PySem.W.takesIn K (.ref (pa x f K)) = some true) && (match PySem.W.recIn K (pa x f K) "property" with
  | some (.ref _ :: _) => true
  | _ => false)))
theorem prop_ok {K : Frag} {x f : Str} (c : propB x f K = true) : PropOf K (He.ga K x) f (pa x f K) (pg x f K) := by
  obtain ⟨c1, c⟩ := He.ba c
  obtain ⟨c2, c⟩ := He.ba c
  obtain ⟨c3, c4⟩ := He.ba c
  refine ⟨He.eqO_ok c1, He.eqO_ok c2, of_decide_eq_true c3, ?_⟩
  unfold pg
  split at c4
  · rename_i g rest q
    exact ⟨rest, by rw [q]⟩
  · cases c4
def eqneB (x : Str) : Fct := fun K => match K.lookup (He.ga K x) with
  | some ⟨.type "type", _, .cls cd, sl⟩ => (match cd.mro, sl.toList with
    | [.ref C', .type "object"], [_, _, _, _, some (.builtin n), _] => C' == He.ga K x && !cd.hasDel && PySem.W.nsOkIn K cd.ns && He.eqO (PySem.W.nsIn K cd.ns "__eq__") (some (some (.ref (He.ma K (He.ga K x) "__eq__")))) && He.eqO (PySem.W.nsIn K cd.ns "__ne__") (some none) &&
      (match K.lookup (He.ma K (He.ga K x) "__eq__") with
        | some o => decide (o.cls = .type "function")
        | none => false)
    | _, _ => false)
  | _ => false
theorem eqne_ok {K : Frag} {x : Str} (c : eqneB x K = true) : EqNe K (He.ga K x) (He.ma K (He.ga K x) "__eq__") := by
  unfold eqneB at c
  split at c
  · rename_i dd cd sl ho
    split at c
    · rename_i C' k0 k1 k2 k3 n k5 hm hs
      simp only [Bool.and_eq_true, beq_iff_eq, Bool.not_eq_true'] at c
      obtain ⟨⟨⟨⟨⟨e1, hdel⟩, hok⟩, h1⟩, h2⟩, h3⟩ := c
      split at h3
      · rename_i of hof
        obtain ⟨nm, bs, mro, ns, qn, hd, sn, sub, ab, col, del⟩ := cd
        dsimp only at hm hdel hok h1 h2
        subst hm hdel
        have hsl : sl = #[k0, k1, k2, k3, some (.builtin n), k5] := by
          obtain ⟨l⟩ := sl
          simp only at hs
          rw [hs]
        subst hsl
        subst e1
        exact ⟨nm, qn, ns, bs, hd, sn, sub, ab, col, dd, k0, k1, k2, k3, k5, n, of, ho, hok, He.eqO_ok h1, He.eqO_ok h2, hof, of_decide_eq_true h3⟩
      · cases h3
    · cases c
  · cases c
/-- isinstance's facts of a class -/
def instB (x : Str) : Fct := fun K => He.eqO (PySem.W.findIn K (.ref (He.ga K x)) "__class__") (some (some (.builtin "object.__class__"))) && (decide (PySem.W.mroIn K (He.ga K x) (.type "object") = some true) && (decide (PySem.W.kitOne K (.ref (He.ga K x)) (.ref (He.ga K x)) = some true) &&
  (["NoneType", "bool", "int", "str", "tuple", "list", "dict"].all fun T => decide (PySem.W.kitOne K (.type T) (.ref (He.ga K x)) = some false))))
def gsB : Fct := fun K => He.eqO (PySem.W.specialIn K (.builtin "object.__class__") "__get__") (some (some (.builtin "getset_descriptor.__get__"))) && decide (PySem.W.takesIn K (.builtin "object.__class__") = some true)
theorem inst_ok {K : Frag} {x : Str} (cl : Cls K (He.ga K x)) (c : instB x K = true) (d : gsB K = true) : InsT K (He.ga K x) ∧ PySem.W.kitOne K (.ref (He.ga K x)) (.ref (He.ga K x)) = some true ∧ ∀ T : String, PySem.W.kitOne K (.type T) (.ref (He.ga K x)) = some false ∨ T ∉ ["NoneType", "bool", "int", "str", "tuple", "list", "dict"] := by
  obtain ⟨c1, c⟩ := He.ba c
  obtain ⟨c2, c⟩ := He.ba c
  obtain ⟨c3, c4⟩ := He.ba c
  obtain ⟨d1, d2⟩ := He.ba d
  refine ⟨⟨cl, He.eqO_ok c1, He.eqO_ok d1, of_decide_eq_true d2, of_decide_eq_true c2⟩, of_decide_eq_true c3, fun T => ?_⟩
  by_cases h : T ∈ ["NoneType", "bool", "int", "str", "tuple", "list", "dict"]
  · exact .inl (of_decide_eq_true (List.all_eq_true.mp c4 T h))
  · exact .inr h
/-! ### the hook -/
abbrev AlP : Type := Bool × List He.FnW
def obsP (fa : List Fct) (fn : List DefP) (K : Frag) : AlP := ((fa.all fun f => f K) && fn.all fun d => d.ok K, fn.map fun d => fnP K (d.at_ K))
def valP (fn : List DefP) : AlP := (true, fn.map DefP.val)
def SaysP (fa : List Fct) (fn : List DefP) (K : Frag) : Prop := obsP fa fn K = valP fn
/-- a part of the heap, lists left out -/
def frL (g : Addr → Option Obj) (as : List Addr) : Frag := (He.frG g as).filter fun q => !decide (q.2.cls = .type "list")
def NoLst (K : Frag) : Prop := ∀ a o, K.lookup a = some o → o.cls ≠ .type "list"
theorem frL_mem {g : Addr → Option Obj} {as : List Addr} {a : Addr} {o : Obj} (h : (frL g as).lookup a = some o) : g a = some o ∧ o.cls ≠ .type "list" := by
  obtain ⟨h1, h2⟩ := List.mem_filter.mp (He.lookup_mem h)
  exact ⟨He.frG_mem h1, fun e => by simp [e] at h2⟩
def obsPG (n : Nat) (fa : List Fct) (fn : List DefP) (g : Addr → Option Obj) : AlP := obsP fa fn (frL g (He.asD g n))
def hookP (n : Nat) (fa : List Fct) (fn : List DefP) : PySem.W.Hook where
  α := AlP
  obs := fun s => obsPG n fa fn s.heap.get?
  val := fun _ => valP fn
  says := fun _ h => ∃ K : Frag, K.In h ∧ NoLst K ∧ SaysP fa fn K
  of := fun _ _ e => ⟨_, fun _ _ q => (frL_mem q).1, fun _ _ q => (frL_mem q).2, e⟩
  keeps := fun _ _ _ ⟨K, hK, nl, c⟩ k => ⟨K, PySem.W.Frag.In.keeps hK k, nl, c⟩
theorem obsPG_eq {n : Nat} {fa : List Fct} {fn : List DefP} {g : Addr → Option Obj} {s : Shared} (h : ∀ a, g a = s.heap.get? a) : obsPG n fa fn g = (hookP n fa fn).obs s := by
  have e : g = s.heap.get? := funext h
  rw [e] <;> rfl
section
variable {fa : List Fct} {fn : List DefP} {K : Frag}
theorem SaysP.fact (c : SaysP fa fn K) (i : Nat) {f : Fct} (h : fa[i]? = some f := by rfl) : f K = true := by
  have c1 := (He.ba (show ((fa.all fun f => f K) && fn.all fun d => d.ok K) = true from congrArg (fun z : AlP => z.1) c)).1
  exact List.all_eq_true.mp c1 f (List.mem_of_getElem? h)
theorem SaysP.def_ (c : SaysP fa fn K) (i : Nat) {d : DefP} (h : fn[i]? = some d := by rfl) : ∃ fd, FnP K d.name d.qual d.st (d.at_ K) fd := by
  have c2 := (He.ba (show ((fa.all fun f => f K) && fn.all fun d => d.ok K) = true from congrArg (fun z : AlP => z.1) c)).2
  have e : fn.map (fun d => fnP K (d.at_ K)) = fn.map DefP.val := congrArg (fun z : AlP => z.2) c
  have e2 : (fn.map fun d => fnP K (d.at_ K))[i]? = (fn.map DefP.val)[i]? := by rw [e]
  rw [List.getElem?_map, List.getElem?_map, h] at e2
  exact DefP.funD (Option.some.inj e2) (List.all_eq_true.mp c2 d (List.mem_of_getElem? h))
end
section
variable {P : Program} {w : World} {K : Frag} {mg : Str → Option Value} {base : Heap}
/-- the rule for a def of the text, found by a path -/
theorem fn_okP {x qual : Str} {st : Stmt} {f : Addr} {fd : FuncData} {N ps : List Str} {k : Nat} {m : SI} (np ns : Nat) (F : FnP K x qual st f fd) (S : FnScope N ps (defScope st)) (hp : ps.length = np) (hN : N.length = ns)
    (hbody : ∀ (cdv : Value) (A : Around) (outer : List Env) (s : Shared) (H : Hp) (E : XK), Room k (bx P w K mg base N qual (defScope st) f cdv A outer s H E).A → PSs (bx P w K mg base N qual (defScope st) f cdv A outer s H E) (defBody st) (rS mg m)) :
    Ok P w K mg base (k + 1) f fd ps (mkFn np ns m) := by
  refine F.ok S (fun vs H Q E q => q.1) fun cdv A outer s H vs Q E hr q => ⟨rS mg m, ?_, fn_body hp hN q⟩
  exact PSs.nox (hbody cdv A outer s H E hr)
end
end F2
set_option Elab.async false
set_option linter.all false
set_option maxRecDepth 100000
set_option maxHeartbeats 4000000
namespace F2
open PySem PySem.Spec PyProof.Rows L2
/-! ### a def that gives a list of its own away: the list becomes data -/
def cutF (n : Nat) (a : A) (h : Hh) : A × Hh := match a with
  | .ref l => if n ≤ l ∧ (h.take n).all (lowO n) = true then match h[l]? with
    | some (.lst xs) => match allD xs with
      | some ds => (.d (.lst ds), h.take n)
      | none => cut n a h
    | _ => cut n a h
    else cut n a h
  | _ => cut n a h
def Wd.froz (w : Wd) (n : Nat) (p : Addr) (o : HO) : Wd := { w with phi_ := w.phi_.take n, fz := fun b => if b = p then some o else w.fz b }
theorem Sm.froz {mg : Mg} {w : Wd} {H : Hp} {h : Hh} (S : Sm mg w H h) {n l : Nat} {p : Addr} {vs : List V} {xs : List A} (hn : n ≤ l) (hp : w.phi_[l]? = some p) (q : h[l]? = some (.lst xs)) (hv : H p = some (.lst vs)) (low : (h.take n).all (lowO n) = true) :
    Sm mg (w.froz n p (.lst vs)) H (h.take n) := by
  have T := S.take low
  have fn : w.fz p = none := by
    rcases S.nf l p _ hp q with z | z
    · exact z
    · cases z
  have le : (w.take n).le00 (w.froz n p (.lst vs)) := ⟨fun a o z => by
    have z' : w.fz a = some o := z
    show (if a = p then some (HO.lst vs) else w.fz a) = some o
    rw [if_neg (fun y => by rw [y, fn] at z'; cases z')]; exact z', fun _ _ z => z⟩
  have ne : ∀ {i : Nat} {a : Addr}, (w.phi_.take n)[i]? = some a → a ≠ p := fun {i a} z y => by
    subst y
    obtain ⟨z1, z2⟩ := take_get z
    have := S.nd i l a z1 hp
    omega
  exact {
    fz := fun a u z => by
      by_cases y : a = p
      · subst y
        have z' : (if a = a then some (HO.lst vs) else w.fz a) = some u := z
        rw [if_pos rfl] at z'; cases z'
        exact .inl hv
      · have z' : (if a = p then some (HO.lst vs) else w.fz a) = some u := z
        rw [if_neg y] at z'
        exact S.fz a u z'
    len := T.len
    nd := T.nd
    th := T.th
    nf := fun i a o z1 z2 => by
      rcases T.nf i a o z1 z2 with z | z
      · refine .inl ?_
        show (if a = p then some (HO.lst vs) else w.fz a) = none
        rw [if_neg (ne z1)]; exact z
      · exact .inr z
    cell := fun i a o z1 z2 => by
      have c := T.cell i a o z1 z2
      cases c with
      | lst e1 e2 => exact .lst e1 (e2.mono00 le)
      | dK e1 e2 => exact .dK e1 (e2.mono00 le)
      | dT e1 e2 => exact .dT e1 (e2.mono00 le)
      | lK e1 e2 => exact .lK e1 (e2.mono00 le)
      | lT e1 e2 => exact .lT e1 (e2.mono00 le)
      | ins e0 e1 e2 => exact .ins e0 e1 (e2.mono00 le)
      | dead => exact .dead
    ow := fun a o z => by
      obtain ⟨e1, e2, e3⟩ := T.ow a o z
      refine ⟨e1, ?_, e3⟩
      have e4 := (S.ow a o z).2.2 l
      show (if a = p then some (HO.lst vs) else w.fz a) = none
      rw [if_neg (fun y => e4 (by rw [y]; exact hp))]
      exact e2
    lk := T.lk
    st := fun a u z nd => by
      by_cases y : a = p
      · subst y
        have z' : (if a = a then some (HO.lst vs) else w.fz a) = some u := z
        rw [if_pos rfl] at z'; cases z'
        exact hv
      · have z' : (if a = p then some (HO.lst vs) else w.fz a) = some u := z
        rw [if_neg y] at z'
        exact S.st a u z' nd }
theorem cutF_ok {mg : Mg} {w : Wd} {h h' : Hh} {H : Hp} (S : Sm mg w H h) {a : A} {Q : VK} (b : Bh mg w (cutF h.length a h').2 (cutF h.length a h').1 Q) : Bh mg w h' a Q := by
  unfold cutF at b
  split at b
  · rename_i l
    split at b
    · rename_i c
      split at b
      · rename_i xs q
        split at b
        · rename_i ds ed
          intro w1 H1 v l1 S1 r1
          cases r1 with
          | @ref _ p hp =>
            cases S1.cell l p _ hp q with
            | @lst _ vs hv rv =>
              have rd := allD_rel ed rv
              have fn : w1.fz p = none := by
                rcases S1.nf l p _ hp q with z | z
                · exact z
                · cases z
              have fzle : FzLe w1.fz (w1.froz h.length p (.lst vs)).fz := fun a o z => by
                show (if a = p then some (HO.lst vs) else w1.fz a) = some o
                rw [if_neg (fun y => by rw [y, fn] at z; cases z)]; exact z
              refine b (w1.froz h.length p (.lst vs)) H1 _ ⟨⟨l1.fz.trans fzle, l1.lk, fun i x z => ?_⟩, l1.ow⟩ (S1.froz c.1 hp q hv c.2) (.d (.lst (vs := vs) ?_ (rd.mono fzle)))
              · have hi : i < h.length := by rw [← S.len]; exact (List.getElem?_eq_some_iff.mp z).1
                show (w1.phi_.take h.length)[i]? = some x
                rw [List.getElem?_take_of_lt hi]; exact l1.phi_ i x z
              · show (if p = p then _ else _) = _
                rw [if_pos rfl]
        · exact cut_ok S b
      · exact cut_ok S b
    · exact cut_ok S b
  · exact cut_ok S b
/-- a def whose result is made data -/
def mkFnF (np ns : Nat) (body : SI) : FnI := fun as h => if as.length = np then
    match body (as.map some ++ List.replicate (ns - np) none) h with
    | some (.nx _ h') => some (cutF h.length (.d .non) h')
    | some (.rt a h') => some (cutF h.length a h')
    | _ => none
  else none
theorem mkFnF_len {np ns : Nat} {m : SI} : ∀ xs h, (mkFnF np ns m xs h).isSome = true → xs.length = np := fun xs h e => by
  unfold mkFnF at e
  split at e
  · assumption
  · cases e
theorem fn_bodyF {mg : Mg} {np ns : Nat} {N ps : List Str} (hp : ps.length = np) (hN : N.length = ns) {m : SI} {vs : List V} {H : Hp} {Q : VK} {E : XK} (q : spI mg ps.length (mkFnF np ns m) vs H Q E) :
    rS mg m { nx := fun _ H' => Q .non H', rt := Q } (L2.start N vs) H := by
  obtain ⟨hl, w, h, as, a, h', S, r, e, b⟩ := q
  unfold mkFnF at e
  have hla : as.length = np := by rw [r.length, hl, hp]
  rw [if_pos hla] at e
  have Eo : EnvOk mg w (as.map some ++ List.replicate (ns - np) none) (L2.start N vs) := by
    unfold L2.start
    rw [hN, hl, hp]
    exact r.some_get
  split at e
  · rename_i ρ' h2 e2
    refine ⟨w, _, h, _, S, Eo, e2, fun w1 H1 σ1 l1 S1 E1 => ?_⟩
    have q : Bh mg w h2 (.d .non) Q := cutF_ok S (by injection e with e; rw [e]; exact b)
    exact q w1 H1 _ l1 S1 (.d .non)
  · rename_i a2 h2 e2
    refine ⟨w, _, h, _, S, Eo, e2, ?_⟩
    exact cutF_ok S (by injection e with e; rw [e]; exact b)
  · cases e
section
variable {P : Program} {w : World} {K : PySem.W.Frag} {mg : Str → Option Value} {base : Heap}
theorem fn_okPF {x qual : Str} {st : Stmt} {f : Addr} {fd : FuncData} {N ps : List Str} {k : Nat} {m : SI} (np ns : Nat) (F : FnP K x qual st f fd) (S : FnScope N ps (defScope st)) (hp : ps.length = np) (hN : N.length = ns)
    (hbody : ∀ (cdv : Value) (A : Around) (outer : List Env) (s : Shared) (H : Hp) (E : XK), Room k (bx P w K mg base N qual (defScope st) f cdv A outer s H E).A → PSs (bx P w K mg base N qual (defScope st) f cdv A outer s H E) (defBody st) (rS mg m)) :
    Ok P w K mg base (k + 1) f fd ps (mkFnF np ns m) := by
  refine F.ok S (fun vs H Q E q => q.1) fun cdv A outer s H vs Q E hr q => ⟨rS mg m, ?_, fn_bodyF hp hN q⟩
  exact PSs.nox (hbody cdv A outer s H E hr)
end
/-! ### words for what is generated -/
def mCall (n : Nat) (F : FnI) (m : AI) : EI := mOn (fun as h => if as.length = n then F as h else none) m
def mMake (c : Str) (n : Nat) (F : FnI) (m : AI) : EI := mOn (fun as h => if as.length + 1 = n then mkObj c F as h else none) m
theorem u1 {k : Nat} {A : Around} (r : Room k A) : A.units + 1 < cLine := by have := r.un; omega
theorem u64 {k : Nat} {A : Around} (r : Room k A) : A.units + 64 < cLine := by have := r.un; omega
theorem u65 {k : Nat} {A : Around} (r : Room k A) : A.units + 65 < cLine := by have := r.un; omega
end F2
set_option Elab.async false
set_option linter.all false
set_option maxRecDepth 100000
set_option maxHeartbeats 4000000
namespace F2
open PySem PySem.Spec PyProof.Rows L2
open PySem.W (Frag)
theorem int_ok2 {K : Frag} {mg : Str → Option Value} {x : Str} {i : Int} (k : ∃ h : Heap, K.In h ∧ h.Ns mainGlobals mg) (c : (He.Fa.int x i).ok K = true) : ∃ t, mg x = some (.int i t) := by
  obtain ⟨h, k1, k2⟩ := k
  exact He.int_ok k1 k2 c
section
variable {X : Cx}
theorem s_par2 (i j : Nat) {x y : Str} {a b : Expr} {m : AI} {px py pt : Pos} {kt k2 pt2} {pos : Pos} (hN : X.N.Nodup) (ha : PA X [a, b] (rA X.mg m)) (hc : X.calm = true := by rfl) (hi : X.N[i]? = some x := by rfl) (hj : X.N[j]? = some y := by rfl) (hij : i ≠ j := by decide)
    (hx : X.env.scope.names.lookup x = some .local := by rfl) (hy : X.env.scope.names.lookup y = some .local := by rfl)
    (hw : swappedStores [.Tuple [.Name x px, .Name y py] kt pt] (.Tuple [a, b] k2 pt2) X.env = pure (some [x, y]) := by rfl)
    (hs : swapsWithSole [.Tuple [.Name x px, .Name y py] kt pt] (.Tuple [a, b] k2 pt2) pos.line X.env = pure false := by rfl) :
    PS X (.Assign [.Tuple [.Name x px, .Name y py] kt pt] (.Tuple [a, b] k2 pt2) pos) (rS X.mg (mPar i j m)) :=
  s_par i j hc hN ha hi hj hij hx hy (ps_par hc hN hi hj hij hx hy ha hw hs)
end
end F2
set_option Elab.async false
set_option linter.all false
set_option maxRecDepth 100000
set_option maxHeartbeats 4000000
namespace F2
open PySem PySem.Spec PyProof.Rows L2
open PySem.W (Frag)
/-! ### a def's promise where nothing is being shown (repr is then to be had) -/
structure OkG (P : Program) (w : World) (K : Frag) (mg : Mg) (base : Heap) (k : Nat) (f : Addr) (fd : FuncData) (ps : List Str) (F : FnI) : Prop where
  run : ∀ (A : Around) (outer : List Env) (s : Shared) (H : Hp) (args : Args) (us : List Value) (vs : List V) (Q : VK) (E : XK), A.guards = some [] → Room k A → Env0 P w K mg base A outer s H → BindsTo s fd args (ps.zip us) → Vals vs us → spI mg ps.length F vs H Q E →
    codeAny (model P w) A (.call (.ref f) args) (CR CX0 outer P w H s Q E) s
section
variable {P : Program} {w : World} {K : Frag} {mg : Mg} {base : Heap} {k : Nat} {f : Addr} {fd : FuncData} {ps : List Str} {F : FnI}
theorem Ok.g (o : Ok P w K mg base k f fd ps F) : OkG P w K mg base k f fd ps F := ⟨fun A outer s H args us vs Q E _ hr => o.run A outer s H args us vs Q E hr⟩
theorem OkG.mono {j : Nat} (o : OkG P w K mg base j f fd ps F) (h : j ≤ k) : OkG P w K mg base k f fd ps F := ⟨fun A outer s H args us vs Q E hg hr => o.run A outer s H args us vs Q E hg (hr.mono h)⟩
theorem fn_okG {x qual : Str} {st : Stmt} {N : List Str} {m : SI} {G : FnI} (np ns : Nat) (FD : FnP K x qual st f fd) (S : FnScope N ps (defScope st)) (hp : ps.length = np) (hN : N.length = ns)
    (hG : ∀ {vs : List V} {H : Hp} {Q : VK} {E : XK}, spI mg ps.length G vs H Q E → rS mg m { nx := fun _ H' => Q .non H', rt := Q } (L2.start N vs) H)
    (hbody : ∀ (cdv : Value) (A : Around) (outer : List Env) (s : Shared) (H : Hp) (E : XK), (bx P w K mg base N qual (defScope st) f cdv A outer s H E).A.guards = some [] → Room k (bx P w K mg base N qual (defScope st) f cdv A outer s H E).A → PSs (bx P w K mg base N qual (defScope st) f cdv A outer s H E) (defBody st) (rS mg m)) :
    OkG P w K mg base (k + 1) f fd ps G := by
  obtain ⟨oc, od, dV, kV, doc, pm, an, cdv, ct, osl, rfl, lk, hcd, _, _⟩ := FD.ex
  refine ⟨fun A outer s H args us vs Q E hgd hr e0 hb rv hsp => ?_⟩
  have len := hsp.1
  have kin : K.In s.heap := e0.mod.kin.keeps fun b o q => (e0.bs b o q).1
  have nolim : s.heap.NoLimit := e0.mod.nolimit.keeps fun b o q => (e0.bs b o q).1
  refine codeAny_call_function hr.depth (kin _ _ lk) rfl S.co S.gen rfl (PySem.W.codeRec_of kin hcd) (hb _ _ _ _ ?_)
  refine wpAny_newFunctionEnv_cells S.kind (fun y hy => ?_) fun env eenv s1 call => ?_
  · obtain ⟨n, v⟩ := y
    rcases S.par n (List.of_mem_zip hy).1 with q | q
    · exact .inl q
    · exact .inr ⟨q, PySem.W.cellsFrom_some _ _ _ (.inl q)⟩
  subst eenv
  refine ⟨nolim.keeps call.toInCall.keep, codeAny_func ?_⟩
  have inv := inv_start (CX := CX0) (E := E) S hr.hd e0 len rv call
  refine wpAny_mono ((PSs.nox (hbody cdv A outer s H E hgd (hr.deeper _))).run [] s1 (L2.start N vs) H _ inv (hG hsp)) (fun fl s' hs => ?_) fun _ _ q => q
  have out : ∀ {σ' : L2.St} {H' : Hp} {v : V} {u : Value}, Inv (cxOf CX0 P w K mg base N qual (defScope st) f cdv A outer s H E) [] σ' H' s' → RelV v u → Q v H' → CE outer P w H s Q u s' := fun {_ H' v _} J r q => ⟨v, H', J.os, J.bare, J.base, J.hok, r, q⟩
  cases fl with
  | ret u => obtain ⟨v, σ', H', J, r, q⟩ := hs; exact out J r q
  | next => obtain ⟨σ', H', J, q⟩ := hs; exact out (v := V.non) (u := Value.none) J rfl q
  | brk => obtain ⟨_, _, _, q⟩ := hs; exact q.elim
  | cont => obtain ⟨_, _, _, q⟩ := hs; exact q.elim
end
section
variable {X : Cx}
/-- f(e, ..) -/
theorem e_callG {k : Nat} {f : Addr} {fd : FuncData} {ps : List Str} {F : FnI} {x : Str} {p pos : Pos} {e : Expr} {es : List Expr} {m : AI} (G : OkG X.prog X.w X.K X.mg X.base k f fd ps F) (hgd : X.A.guards = some []) (hr : Room k X.A) (hm : X.mg x = some (.ref f)) (hk : PySem.W.keepIn X.K (.ref f) = true) (hb : Binds X.K fd ps [])
    (ha : PA X (e :: es) (rA X.mg m)) (hg : Gl X x := by rfl) (hdb : (x == ("__debug__" : Str)) = false := by decide) (he : starEach (e :: es) X.env = (false, eval e X.env) :: starEach es X.env := by rfl) (hpl : (backTo pos (starEach es X.env)).any (·.1) = false := by rfl) :
    PE X (.Call (.Name x p) (e :: es) [] pos) (rE X.mg (mCall ps.length F m)) := by
  refine ⟨fun pins s σ H Q I h => ?_⟩
  refine wpAny_Call_Name_kw (ld_glob I hg hm ?_ hdb)
  obtain ⟨w, ρ, hh, as, h', S, E, e1, k1⟩ := on_split (X := X) (show rE X.mg (mOn (fun as h => if as.length = ps.length then F as h else none) m) σ H Q from h)
  refine PySem.W.callWith_K (h₀ := X.base) I.ok.mod.kin hk (thn (ha.run pos pins s σ H _ I ⟨w, ρ, hh, as, h', S, E, e1, k1⟩) fun us s1 ⟨vs, H1, I1, r, q⟩ => ⟨I1.kIn, ?_⟩) he hpl
  obtain ⟨w2, h2, xs, a, h3, S2, r2, e2, b⟩ := q
  split at e2
  · rename_i hl
    have hlv : vs.length = ps.length := by rw [← r2.length]; exact hl
    have hlu : us.length = ps.length := by rw [← r.length]; exact hlv
    have hbt : BindsTo s1 fd ⟨us, []⟩ (ps.zip us) := by
      have z := hb s1 us I1.kIn (by simpa using hlu)
      simpa using z
    refine wpAny_call (codeAny_mono (G.run X.A X.stack s1 H1 ⟨us, []⟩ us vs Q E0 hgd hr I1.env0 hbt r ⟨hlv, w2, h2, xs, a, h3, S2, r2, e2, b⟩) fun rr s' hq => ?_)
    cases rr with
    | error er => exact pass0 pins σ H1 s1 er s' I1 hq
    | ok fl =>
      cases fl with
      | ret u => exact I1.after hq
      | next => exact False.elim hq
      | brk => exact False.elim hq
      | cont => exact False.elim hq
  · cases e2
end
/-! ### the end -/
/-- the world of the call: the script alone -/
def w00 (a : Addr) (ob : Obj) (ns : List Int) : Wd := ⟨fun b => if b = a then some (.frz ob (.lst (ns.map V.int))) else none, [], fun _ => none, fun _ => none⟩
def H00 (a : Addr) (ob : Obj) (ns : List Int) : Hp := fun b => if b = a then some (.frz ob (.lst (ns.map V.int))) else none
theorem sm00 {mg : Mg} {a : Addr} {ob : Obj} {ns : List Int} : Sm mg (w00 a ob ns) (H00 a ob ns) [] where
  fz := fun b o q => .inl q
  len := rfl
  nd := fun i j b q => by simp [w00] at q
  th := fun i b q => by simp [w00] at q
  nf := fun i b o q => by simp [w00] at q
  cell := fun i b o q => by simp [w00] at q
  ow := fun b o q => by cases q
  lk := fun b o q => by cases q
  st := fun b o q _ => q
theorem walk_G {l : PySem.W.OpenLaw} {n k : Nat} {q : Program} {loose : List Str} {XP : (Str → Option Value) → Heap → Prop} {YP : World → Heap → Prop} {d : DefRec} {x : Str}
    (hn : l.most = some n) (hn2 : n ≤ sizeLine) (hdf : d.params.defaults = []) (hr : Room k callerA)
    (F : ∀ (w : World) (mg : Str → Option Value) (fa : Addr) (h : Heap), YP w h → h.Ns mainGlobals mg → mg d.name = some (.ref fa) →
      ∃ (K : Frag) (fd : FuncData) (Fn : FnI), K.In h ∧ NoLst K ∧ (∀ (s : Shared) (u : Value), BindsTo s fd ⟨[u], []⟩ [(x, u)]) ∧
        (∀ ns : List Int, ns.length ≤ n → ∃ h', Fn [.d (.scr ns)] [] = some (.d (.bl true), h')) ∧
        ∀ base : Heap, K.In base → base.Ns mainGlobals mg → OkG l.prog w K mg base k fa fd [x] Fn) :
    PySem.W.WalkO q loose XP YP l.row.toRowW d [] (fun f vs => PySem.call f vs) := by
  refine Att.attach_call hn hdf fun w s₀ s₁ mg mb fa o pm cd doc a vs ns G Y ho hd hcd hmg hobj hints hlen hgen => ?_
  obtain ⟨K, fd, Fn, kin, nol, hb, hsp, hF⟩ := F w mg fa _ Y G.T.g hmg
  have ka : K.lookup a = none := by
    cases e : K.lookup a with
    | none => rfl
    | some u =>
      have z := kin _ _ e
      rw [hobj] at z
      cases z
      exact absurd rfl (nol _ _ e)
  let ob : Obj := { cls := .type "list", data := .seq vs.toArray }
  have vals := vals_ints hints
  have hH : ∀ {b : Addr} {u : HO}, H00 a ob ns b = some u → b = a ∧ u = .frz ob (.lst (ns.map V.int)) := fun {b u} z => by
    unfold H00 at z
    split at z
    · rename_i e; cases z; exact ⟨e, rfl⟩
    · cases z
  have hHn : ∀ {b : Addr}, b ≠ a → H00 a ob ns b = none := fun {b} z => if_neg z
  have hHa : H00 a ob ns a = some (.frz ob (.lst (ns.map V.int))) := if_pos rfl
  have hok : HOk l.prog w (H00 a ob ns) s₁.heap := fun b u z => by
    obtain ⟨rfl, rfl⟩ := hH z
    exact ⟨hobj, by rw [List.length_map]; exact Nat.le_trans hlen hn2, vs, _, vals, hobj⟩
  have keep : ∀ {b : Addr} {u : Obj}, s₁.heap.get? b = some u → b ≠ a → (hidT s₁.heap (H00 a ob ns)).get? b = some u := fun e z => hidT_get e (hHn z)
  have nsk : ∀ {b : Addr} {m : Str → Option Value}, s₁.heap.Ns b m → (hidT s₁.heap (H00 a ob ns)).Ns b m := fun {b m} ⟨u, es, ep, e, dd, r⟩ => ⟨u, es, ep, keep e (fun z => by
    rw [z, hobj] at e; cases e
    have dd' : Data.seq vs.toArray _ = Data.dict es ep := dd
    cases dd'), dd, r⟩
  have kb : K.In (hidT s₁.heap (H00 a ob ns)) := fun b u e => keep (kin b u e) (fun z => by rw [z, ka] at e; cases e)
  have md : Mod K mg (hidT s₁.heap (H00 a ob ns)) := ⟨kb, nsk G.T.g, ⟨mb, nsk G.T.b, G.T.builtins⟩, let ⟨mc, h1, h2⟩ := G.T.nolimit; ⟨mc, nsk h1, h2⟩⟩
  have e0 : Env0 l.prog w K mg (hidT s₁.heap (H00 a ob ns)) callerA [] s₁ (H00 a ob ns) := ⟨rfl, md, fun b o e => of_hidT e, Nat.le_of_eq (hidT_size _ _), trivial, fun b z => (nomatch z), hok, .of_eq hgen⟩
  obtain ⟨h', hres⟩ := hsp ns hlen
  have rel : RelA mg (w00 a ob ns) (.d (.scr ns)) (.ref a) := .d (.scr (ob := ob) (if_pos rfl))
  refine codeAny_mono ((hF _ kb (nsk G.T.g)).run callerA [] s₁ (H00 a ob ns) ⟨[.ref a], []⟩ [.ref a] [.ref a] (fun v _ => v = .bl true) E0 rfl hr e0 (hb s₁ (.ref a)) (.cons rfl .nil) ⟨rfl, w00 a ob ns, [], [.d (.scr ns)], _, h', sm00, .cons rel .nil, hres, fun w1 H1 v1 l1 S1 r1 => relbl r1⟩) fun r s' z => ?_
  cases r with
  | error e => exact False.elim z
  | ok fl =>
    cases fl with
    | next => exact False.elim z
    | brk => exact False.elim z
    | cont => exact False.elim z
    | ret u =>
      obtain ⟨v, H', os, bare, un, hok', rv, q⟩ := z
      subst q
      obtain rfl : u = Value.bool true := rv
      refine ⟨rfl, OldK.of_keep fun b u e => ?_, os, bare⟩
      by_cases y : b = a
      · subst y
        have z2 := un.frzs b ob _ hHa
        obtain ⟨e2, _⟩ := hok' b _ z2
        rw [hobj] at e; cases e
        exact e2
      · exact un.keep b u e (hHn y) (fun z => nomatch z) (by simp)
end F2
set_option Elab.async false
set_option linter.all false
set_option maxRecDepth 100000
set_option maxHeartbeats 4000000
namespace F2
open PySem PySem.Spec PyProof.Rows L2
section
variable {X : Cx}
/-- a list times a small int -/
def fMulL (cell : Bool) : A → A → Hh → Option (A × Hh) := fun x y h => match y with
  | .d (.int k) => match itemsL x h with
    | some xs => if 0 ≤ k ∧ k < 2 ^ 20 ∧ xs.length * k.toNat ≤ LIM then mkL cell (List.replicate k.toNat xs).flatten h else none
    | none => none
  | _ => none
theorem RelAs.rep {mg : Mg} {w : Wd} {as : List A} {vs : List V} (r : RelAs mg w as vs) : ∀ n : Nat, RelAs mg w (List.replicate n as).flatten (List.replicate n vs).flatten
  | 0 => .nil
  | n + 1 => by
    rw [List.replicate_succ, List.replicate_succ, List.flatten_cons, List.flatten_cons]
    exact r.append (RelAs.rep r n)
theorem o_mulL {cell : Bool} : OpI X (binaryOp .Mult) (fMulL cell) := OpI.of op_rep fun w H h x y a vx vy h' Q S r1 r2 e b => by
  unfold fMulL at e
  split at e
  · rename_i k
    split at e
    · rename_i xs ex
      split at e
      · rename_i hz
        obtain ⟨p, vs, rfl, hp, rp⟩ := itemsL_rel S r1 ex
        rw [relint r2]
        exact ⟨p, k, vs, rfl, rfl, hp, by omega, by omega, lim_size (by rw [← rp.length]; exact hz.2.2), (mkL_ok S (rp.rep _) e b).2⟩
      · cases e
    · cases e
  · cases e
/-- enumerate of a list -/
def enumN (x : A) : Nat → Hh → Option (Option A) := fun i h => match itemsL x h with
  | some xs => match xs[i]? with
    | some (.d a) => some (some (.d (.tup [.int (i : Nat), a])))
    | none => some none
    | _ => none
  | none => none
def srcE (m : AI) : SrcI := fun ρ h => match m ρ h with
  | some ([x], h1) => match itemsL x h1 with
    | some xs => some (⟨enumN x, xs.length⟩, h1)
    | none => none
  | _ => none
theorem i_enum {e : Expr} {m : AI} {p pos tpos : Pos} {elts : List Expr} {kk : Nat} (hm : X.mg "enumerate" = none) (ha : PA X [e] (rA X.mg m)) (hg : Gl X "enumerate" := by rfl) (hs : starEach [e] X.env = [(false, eval e X.env)] := by rfl) :
    PI X (.Tuple elts kk tpos) (.Call (.Name "enumerate" p) [e] [] pos) (iS X.mg (srcE m)) :=
  PI.imp (pi_enum hg hm ha hs) fun σ H R ⟨w, ρ, h, s, h', S, E, e, b⟩ => by
    unfold srcE at e
    split at e
    · rename_i x h1 q1
      split at e
      · rename_i xs ex
        cases e
        refine ⟨w, ρ, h, _, h', S, E, q1, fun w1 H1 vs l1 S1 r1 => ?_⟩
        obtain ⟨v, rfl, rx⟩ := rel1 r1
        obtain ⟨a, us, rfl, ha, ra⟩ := itemsL_rel S1 rx ex
        refine ⟨a, us, rfl, SqL.of ha, b w1 H1 _ l1 S1 fun i w' H' h'' l S' => ⟨fun e2 => ?_, fun z e2 => ?_⟩⟩
        · simp only [enumN] at e2
          split at e2
          · rename_i xs' ex'
            obtain ⟨a', us', ea, ha', ra'⟩ := itemsL_rel S' (rx.mono0 l) ex'
            cases ea
            refine ⟨us', SqL.of ha', ?_⟩
            split at e2
            · cases e2
            · rename_i z1
              rw [← ra'.length]; exact List.getElem?_eq_none_iff.mp z1
            · cases e2
          · cases e2
        · simp only [enumN] at e2
          split at e2
          · rename_i xs' ex'
            obtain ⟨a', us', ea, ha', ra'⟩ := itemsL_rel S' (rx.mono0 l) ex'
            cases ea
            split at e2
            · rename_i d1 q1
              cases e2
              obtain ⟨v1, hv1, r1⟩ := ra'.get q1
              refine ⟨⟨us', v1, SqL.of ha', hv1⟩, fun y H'' ⟨T, x1, e3, hT, e4, k1⟩ => ?_⟩
              subst e3 e4
              have z1 := k1 _ (SqL.of ha')
              rw [hv1] at z1; cases z1
              cases r1 with
              | d r1 => exact pair_new S' (.int _) r1 hT
            · cases e2
            · cases e2
          · cases e2
      · cases e
    · cases e
/-! ### while -/
def FUEL : Nat := 1000000
def whileGo (c : TI') (b : SI) : Nat → En → Hh → Option Out
  | 0, _, _ => none
  | n + 1, ρ, h => match c ρ h with
    | some (true, h1) => match b ρ h1 with
      | some (.nx ρ2 h2) => whileGo c b n ρ2 h2
      | some (.ct ρ2 h2) => whileGo c b n ρ2 h2
      | some (.bk ρ2 h2) => some (.nx ρ2 h2)
      | some (.rt a h2) => some (.rt a h2)
      | none => none
    | some (false, h1) => some (.nx ρ h1)
    | none => none
def mWhile (c : TI') (b : SI) : SI := whileGo c b FUEL
theorem s_while {c : Expr} {body : List Stmt} {mc : TI'} {b : SI} {pos : Pos} (hp : PassesOwn (model X.prog X.w) X.A X.env X.xe) (hc : PT X c (rT X.mg mc)) (hb : PSs X body (rS X.mg b)) : PS X (.While c body [] pos) (rS X.mg (mWhile mc b)) :=
  PS.imp (ps_while hp hc hb) fun D σ H ⟨w, ρ, h, o, S, E, e, bb⟩ => by
    refine ⟨fun m σ H => ∃ w2 ρ2 h2, w.le w2 ∧ Sm X.mg w2 H h2 ∧ EnvOk X.mg w2 ρ2 σ ∧ whileGo mc b m ρ2 h2 = some o, ⟨FUEL, w, ρ, h, .rfl, S, E, e⟩, ?_⟩
    rintro m σ2 H2 ⟨w2, ρ2, h2, l2, S2, E2, e2⟩
    cases m with
    | zero => cases e2
    | succ m =>
      unfold whileGo at e2
      split at e2
      · rename_i h3 e3
        refine ⟨w2, ρ2, h2, true, h3, S2, E2, e3, fun w3 H3 l3 S3 => iteT ⟨fun σ' H' => ∃ w4 ρ4 h4, w.le w4 ∧ Sm X.mg w4 H' h4 ∧ EnvOk X.mg w4 ρ4 σ' ∧ whileGo mc b m ρ4 h4 = some o, fun σ' H' q' => ⟨m, Nat.lt_succ_self m, q'⟩, ?_⟩⟩
        split at e2
        · rename_i ρ4 h4 e4
          exact ⟨w3, ρ2, h3, _, S3, E2.mono l3, e4, fun w5 H5 σ5 l5 S5 E5 => ⟨w5, ρ4, h4, (l2.trans l3).trans l5, S5, E5, e2⟩⟩
        · rename_i ρ4 h4 e4
          exact ⟨w3, ρ2, h3, _, S3, E2.mono l3, e4, fun w5 H5 σ5 l5 S5 E5 => ⟨w5, ρ4, h4, (l2.trans l3).trans l5, S5, E5, e2⟩⟩
        · rename_i ρ4 h4 e4
          cases e2
          exact ⟨w3, ρ2, h3, _, S3, E2.mono l3, e4, fun w5 H5 σ5 l5 S5 E5 => bb w5 H5 σ5 ((l2.trans l3).trans l5) S5 E5⟩
        · rename_i a4 h4 e4
          cases e2
          exact ⟨w3, ρ2, h3, _, S3, E2.mono l3, e4, fun w5 H5 v5 l5 S5 r5 => bb w5 H5 v5 ((l2.trans l3).trans l5) S5 r5⟩
        · cases e2
      · rename_i h3 e3
        cases e2
        exact ⟨w2, ρ2, h2, false, h3, S2, E2, e3, fun w3 H3 l3 S3 => iteF (bb w3 H3 σ2 (l2.trans l3) S3 (E2.mono l3))⟩
      · cases e2
end
end F2
set_option Elab.async false
set_option linter.all false
set_option maxRecDepth 100000
set_option maxHeartbeats 4000000
namespace F2
open PySem PySem.Spec PyProof.Rows L2
section
variable {X : Cx}
def isSeq : PyData → Bool
  | .list _ => true
  | .tuple _ => true
  | _ => false
/-- repr of a list, a tuple -/
def fRepr : List A → Hh → Option (A × Hh)
  | [x], h => match pyOf x h with
    | some p => if isSeq p && p.showable && !p.hasDict && decide (p.depth ≤ 100) && decide (p.shown.length ≤ LIM) then some (.d (.str p.shown), h) else none
    | none => none
  | _, _ => none
theorem c_repr {k : Nat} (hr : Room k X.A) (hg : X.A.guards = some []) : CallI X (.builtin "repr") fRepr := by
  intro pins s σ H vs us Q I rv ⟨w, h, xs, a, h', S, r, e, b⟩
  unfold fRepr at e
  split at e
  · rename_i x
    split at e
    · rename_i p ep
      split at e
      · rename_i c
        simp only [Bool.and_eq_true, Bool.not_eq_true', decide_eq_true_eq] at c
        obtain ⟨⟨⟨⟨c1, c2⟩, c3⟩, c4⟩, c5⟩ := c
        cases e
        obtain ⟨v, rfl, rx⟩ := rel1 r
        obtain ⟨u, rfl, ru⟩ := Vals.one rv
        obtain ⟨as, rd⟩ := Dp.reads I p v u (pyOf_dp S rx ep) ru
        have hv : ∃ l, u = .ref l := by cases rd <;> first | exact ⟨_, rfl⟩ | (simp [isSeq] at c1)
        obtain ⟨l, rfl⟩ := hv
        have hun := hr.un
        exact repr_of_reads' rd c2 (fun z => by rw [c3] at z; cases z) hg (by omega) (fun _ _ q => q) (fun h2 tk1 tk2 hk => ⟨.str p.shown, H, I.kept hk, ⟨_, rfl⟩, b w H _ .rfl S (.d (.str _))⟩) (lim_size c5)
      · cases e
    · cases e
  · cases e
end
end F2
set_option Elab.async false
set_option linter.all false
set_option maxRecDepth 100000
set_option maxHeartbeats 4000000
namespace F2
open PySem PySem.Spec PyProof.Rows L2
section
variable {X : Cx}
/-- a list or a tuple -/
def srcQ (m : EI) : SrcI := fun ρ h => match srcL m ρ h with
  | some r => some r
  | none => srcT m ρ h
theorem PI.or {tg e : Expr} {t t' : TI} (p : PI X tg e t) (q : PI X tg e t') : PI X tg e (fun σ H R => t σ H R ∨ t' σ H R) := ⟨fun pins s σ H R I z => z.elim (p.run pins s σ H R I) (q.run pins s σ H R I)⟩
theorem i_seq {tg l : Expr} {m : EI} (hl : PE X l (rE X.mg m)) : PI X tg l (iS X.mg (srcQ m)) := PI.imp (PI.or (i_list hl) (i_tup hl)) fun σ H R ⟨w, ρ, h, s, h', S, E, e, b⟩ => by
  unfold srcQ at e
  split at e
  · rename_i r q
    cases e
    exact .inl ⟨w, ρ, h, s, h', S, E, q, b⟩
  · exact .inr ⟨w, ρ, h, s, h', S, E, e, b⟩
end
end F2
set_option Elab.async false
set_option linter.all false
set_option maxRecDepth 100000
set_option maxHeartbeats 4000000
namespace F2
open PySem PySem.Spec PyProof.Rows L2
/-! ### calls by names -/
/-- the ones at these places -/
def perm {α : Type} (ix : List Nat) (xs : List α) : List α := ix.filterMap fun i => xs[i]?
theorem vals_at : ∀ {vs : List V} {us : List Value}, Vals vs us → ∀ i : Nat, (vs[i]? = none ∧ us[i]? = none) ∨ ∃ v u, vs[i]? = some v ∧ us[i]? = some u ∧ RelV v u
  | _, _, .nil, i => .inl ⟨rfl, rfl⟩
  | _, _, .cons h t, 0 => .inr ⟨_, _, rfl, rfl, h⟩
  | _, _, .cons h t, i + 1 => by simpa using vals_at t i
theorem Vals.perm' {vs : List V} {us : List Value} (r : Vals vs us) : ∀ ix : List Nat, Vals (perm ix vs) (perm ix us)
  | [] => .nil
  | i :: ix => by
    have ih := Vals.perm' r ix
    unfold perm at ih ⊢
    rcases vals_at r i with ⟨a, b⟩ | ⟨v, u, a, b, h⟩
    · simp only [List.filterMap_cons, a, b]; exact ih
    · simp only [List.filterMap_cons, a, b]; exact .cons h ih
theorem RelAs.at' {mg : Mg} {w : Wd} : ∀ {as : List A} {vs : List V}, RelAs mg w as vs → ∀ i : Nat, (as[i]? = none ∧ vs[i]? = none) ∨ ∃ a v, as[i]? = some a ∧ vs[i]? = some v ∧ RelA mg w a v
  | _, _, .nil, i => .inl ⟨rfl, rfl⟩
  | _, _, .cons h t, 0 => .inr ⟨_, _, rfl, rfl, h⟩
  | _, _, .cons h t, i + 1 => by simpa using RelAs.at' t i
theorem RelAs.perm {mg : Mg} {w : Wd} {as : List A} {vs : List V} (r : RelAs mg w as vs) : ∀ ix : List Nat, RelAs mg w (F2.perm ix as) (F2.perm ix vs)
  | [] => .nil
  | i :: ix => by
    have ih := RelAs.perm r ix
    unfold F2.perm at ih ⊢
    rcases RelAs.at' r i with ⟨a, b⟩ | ⟨v, u, a, b, h⟩
    · simp only [List.filterMap_cons, a, b]; exact ih
    · simp only [List.filterMap_cons, a, b]; exact .cons h ih
/-- a def without defaults, n values by place, the others by names, whose values stand at the places ix -/
theorem kplain {K : PySem.W.Frag} {x qual : Str} {params : Arguments} {body : List Stmt} {scope : Scope} {f : Addr} {fd : FuncData} {ps : List Str} (F : FunD K x qual params body scope [] [] f fd) (n : Nat) (ks : List Str) (ix : List Nat)
    (h : ∀ (kV doc pm : Value) (an : Option Addr) (cdv ct : Value) (us ws : List Value), us.length = n → ws.length = ks.length → bindArgs (PySem.W.fnOf x qual params body scope .none kV doc pm an cdv ct) ⟨us, ks.zip ws⟩ = pure (ps.zip (us ++ perm ix ws))) :
    KBn K fd ps n ks (fun us ws => us ++ perm ix ws) (fun vs zs => vs ++ perm ix zs) := by
  obtain ⟨oc, od, dV, kV, doc, pm, an, cdv, ct, osl, rfl, lk, hcd, hD, hK⟩ := F.ex
  rcases hD with ⟨_, rfl⟩ | ⟨e, _⟩
  · exact ⟨fun s us ws X l1 l2 => .of_eq (h kV doc pm an cdv ct us ws l1 l2), fun r1 r2 => r1.append (Vals.perm' r2 ix)⟩
  · exact absurd rfl e
section
variable {X : Cx} {CX : CXT} {k : Nat} {f C : Addr} {fd : FuncData} {ps ks : List Str} {sp : Sp} {E : XK} {x mt : Str} {p pos apos kpos : Pos} {o e : Expr} {kws : List Keyword} {ta : TE} {tk : TA} {g : List Value → List Value → List Value} {gV : List V → List V → List V} {nm : Option Str}
theorem k_nil : PK X [] (rA X.mg mNil) := ⟨fun pos pins s σ H Q I ⟨w, ρ, h, as, h', S, E, e, b⟩ => by
  cases e
  exact pk_nil.run pos pins s σ H Q I (b w H [] .rfl S .nil)⟩
theorem k_cons (nk : Str) {m : EI} {r : AI} (ha : PE X e (rE X.mg m)) (hr : PK X kws (rA X.mg r)) : PK X (⟨some nk, e, kpos⟩ :: kws) (rA X.mg (mCons m r)) := ⟨fun pos pins s σ H Q I ⟨w, ρ, h, k, h', S, E, e, b⟩ => by
  refine (pk_cons ha hr).run pos pins s σ H Q I ?_
  unfold mCons at e
  split at e
  · rename_i x h1 e1
    split at e
    · rename_i xs h2 e2
      cases e
      exact ⟨w, ρ, h, x, h1, S, E, e1, fun w1 H1 v l1 S1 r1 => ⟨w1, ρ, h1, xs, h', S1, E.mono l1, e2, fun w2 H2 vs l2 S2 r2 => b w2 H2 _ (l1.trans l2) S2 (.cons (r1.mono l2) r2)⟩⟩
    · cases e
  · cases e⟩
theorem pe_callK0 (F : FnOk X.prog X.w X.K X.mg X.base CX k f fd ps sp) (hr : Room k X.A) (hg : Gl X x) (hm : X.mg x = some (.ref f)) (hk : PySem.W.keepIn X.K (.ref f) = true) (hb : KBn X.K fd ps 0 ks g gV) (hx : Passes CX X E)
    (hkw : PK X kws tk) (hall : (backToKw pos (keywordEach kws X.env)).all (·.1.isSome) = true := by rfl) (hks : (backToKw pos (keywordEach kws X.env)).filterMap (·.1) = ks := by rfl) (hdb : (x == ("__debug__" : Str)) = false := by decide)
    (hpl : ((backTo pos (starEach [] X.env)).any (·.1) || (backToKw pos (keywordEach kws X.env)).any (·.1.isNone)) = false := by rfl) :
    PE X (.Call (.Name x p) [] kws pos) (tCallN 0 ks.length sp gV E tNil tk) := by
  refine ⟨fun pins s σ H Q I h => ?_⟩
  refine wpAny_Call_Name_kw (ld_glob I hg hm ?_ hdb)
  refine PySem.W.callWith_KW0 (h₀ := X.base) I.ok.mod.kin hk hall ?_ hpl
  refine thn (hkw.run pos pins s σ H _ I h) fun ws s2 ⟨zs, H2, I2, rz, l1, l2, q2⟩ => ⟨I2.kIn, ?_⟩
  rw [hks]
  exact run_fnN (us := []) (vs := []) F hr hb hx I2 .nil rz rfl l2 q2
def tMethK (C : Addr) (m : Str) (n : Nat) (sp : Sp) (gV : List V → List V → List V) (E : XK) (ta : TE) (tk : TA) : TE := fun σ H Q => ta σ H fun x H1 => ∃ a dx fs, x = .ref a ∧ H1 a = some (.ins C dx fs) ∧ fs.lookup m = none ∧ tk σ H1 fun zs H2 => zs.length = n ∧ sp (gV [.ref a] zs) H2 Q E
theorem pe_methK0 {pl : Sem Bool} (he : PE X o ta) (c : Cls X.K C) (hm : Meth X.K C mt f) (F : FnOk X.prog X.w X.K X.mg X.base CX k f fd ps sp) (hr : Room k X.A) (hb : KBn X.K fd ps 1 ks g gV) (hx : Passes CX X E) (hkw : PK X kws tk)
    (hall : (backToKw pos (keywordEach kws X.env)).all (·.1.isSome) = true := by rfl) (hks : (backToKw pos (keywordEach kws X.env)).filterMap (·.1) = ks := by rfl)
    (hpl : ((backTo pos (starEach [] X.env)).any (·.1) || (backToKw pos (keywordEach kws X.env)).any (·.1.isNone)) = false := by rfl)
    (ht : eval (.Call (.Attribute o mt apos) [] kws pos) X.env = (do
      let ov ← eval o X.env
      standAt apos.atName
      let (f, first) ← holding [ov] (getMethod ov mt pl)
      callWith pos f first (backTo pos (starEach [] X.env)) (backToKw pos (keywordEach kws X.env))) := by rfl) :
    PE X (.Call (.Attribute o mt apos) [] kws pos) (tMethK C mt ks.length sp gV E ta tk) := by
  refine ⟨fun pins s σ H Q I h => ?_⟩
  refine PySem.W.methodCall_KW (pl := pl) (thn (he.run pins s σ H _ I h) fun u s1 ⟨x, H1, I1, rx, a, dx, fs, ex, ea, l, q⟩ => ?_) ht
  subst ex
  obtain rfl : u = Value.ref a := rx
  refine getmeth_ok I1 ea c hm l ?_
  refine PySem.W.callWith_KW0 (first := [.ref a]) (h₀ := X.base) I1.ok.mod.kin hm.kp hall ?_ hpl
  refine thn (hkw.run pos pins s1 σ H1 _ I1 q) fun ws s2 ⟨zs, H2, I2, rz, l2, q2⟩ => ⟨I2.kIn, ?_⟩
  rw [hks]
  exact run_fnN (us := [.ref a]) (vs := [.ref a]) F hr hb hx I2 (.cons rfl .nil) rz rfl l2 q2
end
section
variable {X : Cx} {k : Nat} {f C : Addr} {fd : FuncData} {ps ks : List Str} {F : FnI} {x mt : Str} {p pos apos : Pos} {o : Expr} {kws : List Keyword} {mo : EI} {m : AI}
def mCallK (n : Nat) (ix : List Nat) (F : FnI) (m : AI) : EI := mOn (fun as h => if as.length = n then F (perm ix as) h else none) m
/-- f(k = v, ..) -/
theorem e_callK (ix : List Nat) (G : Ok X.prog X.w X.K X.mg X.base k f fd ps F) (hn : ∀ xs h, (F xs h).isSome = true → xs.length = ps.length) (hr : Room k X.A) (hm : X.mg x = some (.ref f)) (hk : PySem.W.keepIn X.K (.ref f) = true) (hb : KBn X.K fd ps 0 ks (fun us ws => us ++ perm ix ws) (fun vs zs => vs ++ perm ix zs))
    (hkw : PK X kws (rA X.mg m)) (hg : Gl X x := by rfl) (hall : (backToKw pos (keywordEach kws X.env)).all (·.1.isSome) = true := by rfl) (hks : (backToKw pos (keywordEach kws X.env)).filterMap (·.1) = ks := by rfl) (hdb : (x == ("__debug__" : Str)) = false := by decide)
    (hpl : ((backTo pos (starEach [] X.env)).any (·.1) || (backToKw pos (keywordEach kws X.env)).any (·.1.isNone)) = false := by rfl) :
    PE X (.Call (.Name x p) [] kws pos) (rE X.mg (mCallK ks.length ix F m)) :=
  PE.imp (pe_callK0 G hr hg hm hk hb pass0 hkw hall hks hdb hpl) fun σ H Q q => by
    obtain ⟨w, ρ, h, as, h', S, E, e1, k1⟩ := on_split (X := X) q
    refine ⟨w, ρ, h, as, h', S, E, e1, fun w1 H1 vs l1 S1 r1 => ?_⟩
    obtain ⟨w2, h2, xs, a, h3, S2, r2, e2, b⟩ := k1 w1 H1 vs l1 S1 r1
    split at e2
    · rename_i hl
      have rp := RelAs.perm r2 ix
      exact ⟨rfl, by rw [← r2.length]; exact hl, by show (F2.perm ix vs).length = _; rw [← rp.length]; exact hn _ _ (by rw [e2]; rfl), w2, h2, _, a, h3, S2, rp, e2, b⟩
    · cases e2
def mMakeK (c : Str) (n : Nat) (ix : List Nat) (F : FnI) (m : AI) : EI := mOn (fun as h => if as.length = n ∧ (perm ix as).length = n then mkObj c F (perm ix as) h else none) m
/-- C(k = v, ..) -/
theorem e_mkK (c : Str) (ix : List Nat) (hps : ks.length + 1 = ps.length) (hC : X.mg c = some (.ref C)) (M : Mk X.K C f) (G : Ok X.prog X.w X.K X.mg X.base k f fd ps F) (hr : Room (k + 1) X.A) (hb : KBn X.K fd ps 1 ks (fun us ws => us ++ perm ix ws) (fun vs zs => vs ++ perm ix zs))
    (hkw : PK X kws (rA X.mg m)) (hg : Gl X c := by rfl) (hall : (backToKw pos (keywordEach kws X.env)).all (·.1.isSome) = true := by rfl) (hks : (backToKw pos (keywordEach kws X.env)).filterMap (·.1) = ks := by rfl) (hdb : (c == ("__debug__" : Str)) = false := by decide)
    (hpl : ((backTo pos (starEach [] X.env)).any (·.1) || (backToKw pos (keywordEach kws X.env)).any (·.1.isNone)) = false := by rfl) :
    PE X (.Call (.Name c p) [] kws pos) (rE X.mg (mMakeK c ks.length ix F m)) :=
  PE.imp (pe_makeK0 M G hr hg hC hb pass0 hkw hall hks hdb hpl) fun σ H Q q => by
    obtain ⟨w, ρ, h, as, h', S, E, e1, k1⟩ := on_split (X := X) q
    refine ⟨w, ρ, h, as, h', S, E, e1, fun w1 H1 vs l1 S1 r1 => ?_⟩
    obtain ⟨w2, h2, xs, a, h3, S2, r2, e2, b⟩ := k1 w1 H1 vs l1 S1 r1
    split at e2
    · rename_i hl
      refine ⟨rfl, by rw [← r2.length]; exact hl.1, fun x dx hx hdx ne => ?_⟩
      exact mkObj_ok hC S2 (RelAs.perm r2 ix) (by rw [hl.2]; exact hps) e2 b hx hdx ne
    · cases e2
def mMthK (c mt : Str) (n : Nat) (ix : List Nat) (F : FnI) (mo : EI) (r : AI) : EI := fun ρ h => match mo ρ h with
  | some (x, h1) => match fieldsOf c x h1 with
    | some fs => if fs.lookup mt = none then match r ρ h1 with
      | some (xs, h2) => if xs.length = n then F (x :: perm ix xs) h2 else none
      | none => none
      else none
    | none => none
  | none => none
/-- o.m(k = v, ..) -/
theorem e_mthK (c : Str) (ix : List Nat) {pl : Sem Bool} (hC : X.mg c = some (.ref C)) (cl : Cls X.K C) (hm : Meth X.K C mt f) (G : Ok X.prog X.w X.K X.mg X.base k f fd ps F) (hn : ∀ xs h, (F xs h).isSome = true → xs.length = ps.length) (hr : Room k X.A) (hb : KBn X.K fd ps 1 ks (fun us ws => us ++ perm ix ws) (fun vs zs => vs ++ perm ix zs))
    (ho : PE X o (rE X.mg mo)) (hkw : PK X kws (rA X.mg m)) (hall : (backToKw pos (keywordEach kws X.env)).all (·.1.isSome) = true := by rfl) (hks : (backToKw pos (keywordEach kws X.env)).filterMap (·.1) = ks := by rfl)
    (hpl : ((backTo pos (starEach [] X.env)).any (·.1) || (backToKw pos (keywordEach kws X.env)).any (·.1.isNone)) = false := by rfl)
    (ht : eval (.Call (.Attribute o mt apos) [] kws pos) X.env = (do
      let ov ← eval o X.env
      standAt apos.atName
      let (f, first) ← holding [ov] (getMethod ov mt pl)
      callWith pos f first (backTo pos (starEach [] X.env)) (backToKw pos (keywordEach kws X.env))) := by rfl) :
    PE X (.Call (.Attribute o mt apos) [] kws pos) (rE X.mg (mMthK c mt ks.length ix F mo m)) :=
  PE.imp (pe_methK0 (pl := pl) ho cl hm G hr hb pass0 hkw hall hks hpl ht) fun σ H Q ⟨w, ρ, h, a, h', S, E, e, b⟩ => by
    unfold mMthK at e
    split at e
    · rename_i x h1 e1
      split at e
      · rename_i fs ef
        split at e
        · rename_i hl
          split at e
          · rename_i xs h2 e2
            split at e
            · rename_i hx
              refine ⟨w, ρ, h, x, h1, S, E, e1, fun w1 H1 v l1 S1 r1 => ?_⟩
              obtain ⟨p, dx, gs, rfl, hp, rf⟩ := fieldsOf_rel S1 hC r1 ef
              refine ⟨p, dx, gs, rfl, hp, lookup_none rf hl, w1, ρ, h1, xs, h2, S1, E.mono l1, e2, fun w2 H2 vs l2 S2 r2 => ?_⟩
              have r3 : RelAs X.mg w2 (x :: F2.perm ix xs) (V.ref p :: F2.perm ix vs) := .cons (r1.mono l2) (RelAs.perm r2 ix)
              exact ⟨by rw [← r2.length]; exact hx, by show (V.ref p :: F2.perm ix vs).length = _; rw [← r3.length]; exact hn _ _ (by rw [e]; rfl), w2, h2, x :: F2.perm ix xs, a, h', S2, r3, e, b.le (l1.trans l2)⟩
            · cases e
          · cases e
        · cases e
      · cases e
    · cases e
end
end F2
set_option Elab.async false
set_option linter.all false
set_option maxRecDepth 100000
set_option maxHeartbeats 4000000
namespace F2
open PySem PySem.Spec PyProof.Rows L2
/-! ### own str, repr, ==, truth -/
section
variable {X : Cx} {pins : List (Addr × Obj)} {σ : L2.St} {H : Hp} {s : Shared}
/-- an own def called from within -/
theorem own_call {k : Nat} {f : Addr} {fd : FuncData} {ps : List Str} {F : FnI} {A1 : Around} {w : Wd} {h h1 : Hh} {xs : List A} {vs : List V} {us : List Value} {a : A} {Q : VK} (G : Ok X.prog X.w X.K X.mg X.base k f fd ps F) (hr : Room k A1) (e0 : Env0 X.prog X.w X.K X.mg X.base A1 X.stack s H) (hb : Binds X.K fd ps [])
    (I : Inv X pins σ H s) (S : Sm X.mg w H h) (r : RelAs X.mg w xs vs) (rv : Vals vs us) (hl : xs.length = ps.length) (e : F xs h = some (a, h1)) (b : Bh X.mg w h1 a Q) : wpAny (model X.prog X.w) A1 (call (.ref f) us) (EP X pins σ Q) X.xe s := by
  have hsp : spI X.mg ps.length F vs H Q E0 := ⟨by rw [← r.length]; exact hl, w, h, xs, a, h1, S, r, e, b⟩
  have hlu : us.length = ps.length := by rw [← rv.length, ← r.length]; exact hl
  refine wpAny_call (codeAny_mono (G.run A1 X.stack s H ⟨us, []⟩ us vs Q E0 hr e0 (by
    have := hb s us I.kIn (by simpa using hlu)
    simpa using this) rv hsp) fun r s' hq => ?_)
  cases r with
  | error e => exact pass0 pins σ H s e s' I hq
  | ok fl =>
    cases fl with
    | ret w => exact I.after hq
    | next => exact False.elim hq
    | brk => exact False.elim hq
    | cont => exact False.elim hq
def fStrC (c : Str) (F : FnI) : List A → Hh → Option (A × Hh)
  | [x], h => match fieldsOf c x h with
    | some _ => match F [x] h with
      | some (.d (.str y), h1) => some (.d (.str y), h1)
      | _ => none
    | none => none
  | _, _ => none
theorem relstrV {mg : Mg} {w : Wd} {i : Str} {v : V} (r : RelA mg w (.d (.str i)) v) : v = .str i := relstr r
theorem c_strC (c : Str) {C f : Addr} {k : Nat} {fd : FuncData} {ps : List Str} {F : FnI} (hC : X.mg c = some (.ref C)) (M : Meth X.K C "__str__" f) (G : Ok X.prog X.w X.K X.mg X.base k f fd ps F) (h1 : ps.length = 1) (hr : Room (k + 2) X.A) (hb : Binds X.K fd ps []) : CallI X (.type "str") (fStrC c F) := by
  intro pins s σ H vs us Q I rv ⟨w, h, xs, a, h', S, r, e, b⟩
  unfold fStrC at e
  split at e
  · rename_i x
    split at e
    · rename_i fs ef
      split at e
      · rename_i y g eF
        cases e
        obtain ⟨v, rfl, rx⟩ := rel1 r
        obtain ⟨p, dx, gs, rfl, hp, rf⟩ := fieldsOf_rel S hC rx ef
        obtain ⟨u, rfl, ru⟩ := Vals.one rv
        cases ru
        obtain ⟨mA, J, _⟩ := ins_get I.hok hp
        obtain ⟨od, J2, _⟩ := J.look
        have hu := hr.in1.in1.un
        refine PySem.W.kso_call (by omega) I.kIn J2 M.at_ M.fn ?_
        refine wpAny_mono (own_call (Q := fun v H' => v = .str y ∧ Q (.str y) H') G hr.in1.in1 I.env0.in1.in1 hb I S r (.cons rfl .nil) (by rw [h1]; rfl) eF (fun w1 H1 v1 l1 S1 r3 => ?_)) (fun v s' hv => ?_) fun _ _ z => z
        · cases relstrV r3
          exact ⟨rfl, b w1 H1 _ l1 S1 (.d (.str _))⟩
        · obtain ⟨z, H', I', rz, ez, qq⟩ := hv
          subst ez
          obtain ⟨t, q⟩ := (show ∃ t, v = Value.str y t from rz)
          subst q
          exact ⟨.str y, H', I', ⟨_, rfl⟩, qq⟩
      · cases e
    · cases e
  · cases e
theorem c_reprC (c : Str) {C f : Addr} {k : Nat} {fd : FuncData} {ps : List Str} {F : FnI} (hC : X.mg c = some (.ref C)) (M : Meth X.K C "__repr__" f) (G : Ok X.prog X.w X.K X.mg X.base k f fd ps F) (h1 : ps.length = 1) (hr : Room (k + 1) X.A) (hb : Binds X.K fd ps []) : CallI X (.builtin "repr") (fStrC c F) := by
  intro pins s σ H vs us Q I rv ⟨w, h, xs, a, h', S, r, e, b⟩
  unfold fStrC at e
  split at e
  · rename_i x
    split at e
    · rename_i fs ef
      split at e
      · rename_i y g eF
        cases e
        obtain ⟨v, rfl, rx⟩ := rel1 r
        obtain ⟨p, dx, gs, rfl, hp, rf⟩ := fieldsOf_rel S hC rx ef
        obtain ⟨u, rfl, ru⟩ := Vals.one rv
        cases ru
        obtain ⟨mA, J, _⟩ := ins_get I.hok hp
        obtain ⟨od, J2, _⟩ := J.look
        obtain ⟨m, FR⟩ := I.fr
        have hu := hr.in1.un
        refine PySem.W.repr_K (by omega) FR I.ok.mod.kin J2 M.at_ M.fn ?_
        refine wpAny_mono (own_call (Q := fun v H' => v = .str y ∧ Q (.str y) H') G hr.in1 I.env0.in1 hb I S r (.cons rfl .nil) (by rw [h1]; rfl) eF (fun w1 H1 v1 l1 S1 r3 => ?_)) (fun v s' hv => ?_) fun _ _ z => z
        · cases relstrV r3
          exact ⟨rfl, b w1 H1 _ l1 S1 (.d (.str _))⟩
        · obtain ⟨z, H', I', rz, ez, qq⟩ := hv
          subst ez
          obtain ⟨t, q⟩ := (show ∃ t, v = Value.str y t from rz)
          subst q
          exact ⟨.str y, H', I', ⟨_, rfl⟩, qq⟩
      · cases e
    · cases e
  · cases e
end
end F2
set_option Elab.async false
set_option linter.all false
set_option maxRecDepth 100000
set_option maxHeartbeats 4000000
namespace F2
open PySem PySem.Spec PyProof.Rows L2
/-! ### bool of an instance without a truth of its own -/
structure NoTruth (K : PySem.W.Frag) (C : Addr) : Prop where
  hb : PySem.W.findIn K (.ref C) "__bool__" = some none
  hl : PySem.W.findIn K (.ref C) "__len__" = some none
open PySem.Sem (wp) in
theorem meets_bool_own {K : PySem.W.Frag} {p C : Addr} {ox : Obj} {od : Option Obj} (N : NoTruth K C) :
    Meets (Builtin.«bool.__new__» ⟨[.type "bool", .ref p], []⟩) (fun _ R s => (K.In s.heap ∧ PySem.W.InstAt s.heap p ox C od ∧ ∃ h0 L m, PyProof.Rows.Fr h0 L s.heap m ∧ K.In h0) ∧ R (.ok (.ret (.bool true))) s) :=
  Meets.of_wp fun prog w A R s hs => by
    obtain ⟨⟨KI, J, h0, L, m, FR, K0⟩, hs⟩ := hs
    obtain ⟨hp, g, d, tk, os⟩ := s
    have f1 := F.conv_sub_bool
    repeat (any_goals (first | assumption | (with_reducible refine PySem.W.truthy_K0 FR K0 J N.hb N.hl ?_) | wp_step))
    all_goals first | exact ⟨_, rfl, hs⟩ | exact hs | skip
section
variable {X : Cx} {pins : List (Addr × Obj)} {σ : L2.St} {H : Hp} {s : Shared}
def fBoolC (c : Str) : List A → Hh → Option (A × Hh)
  | [x], h => match fieldsOf c x h with
    | some _ => some (.d (.bl true), h)
    | none => none
  | _, _ => none
theorem c_boolC (c : Str) {C : Addr} (hC : X.mg c = some (.ref C)) (N : NoTruth X.K C) : CallI X (.type "bool") (fBoolC c) := by
  intro pins s σ H vs us Q I rv ⟨w, h, xs, a, h', S, r, e, b⟩
  unfold fBoolC at e
  split at e
  · rename_i x
    split at e
    · rename_i fs ef
      cases e
      obtain ⟨v, rfl, rx⟩ := rel1 r
      obtain ⟨p, dx, gs, rfl, hp, rf⟩ := fieldsOf_rel S hC rx ef
      obtain ⟨u, rfl, ru⟩ := Vals.one rv
      cases ru
      obtain ⟨mA, J, _⟩ := ins_get I.hok hp
      obtain ⟨od, J2, _⟩ := J.look
      obtain ⟨m, FR⟩ := I.fr
      exact call_bool_1 (meets_bool_own N) ⟨⟨I.kIn, J2, _, _, _, FR, I.ok.mod.kin⟩, rfl, ⟨.bl true, H, I, rfl, b w H _ .rfl S (.d (.bl _))⟩⟩
    · cases e
  · cases e
/-! ### own == against any value -/
def NF (K : PySem.W.Frag) (C : Addr) : Prop := ∀ T ∈ ["NoneType", "bool", "int", "str", "tuple", "list", "dict"], PySem.W.notFirst K C (.type T) = true
theorem looks_cls {M : Model} {h : Heap} {a : Addr} {o : Obj} {t : Value} (e : h.get? a = some o) (c : o.cls = t) : PySem.W.Looks M h (typeOf (.ref a)) t := by
  rw [← c]
  exact (PySem.W.Looks.ld e).andThen .now
theorem looks_ty {M : Model} {x : V} {u : Value} {T : String} (I : Inv X pins σ H s) (rx : RelV x u) (ty : TyX X.K H x (.type T)) (hT : T ∈ ["NoneType", "bool", "int", "str", "tuple", "list", "dict"]) : PySem.W.Looks M s.heap (typeOf u) (.type T) := by
  cases ty with
  | base b =>
    cases b with
    | non => cases (show u = Value.none from rx); exact .now
    | bl y => cases (show u = Value.bool y from rx); exact .now
    | int i => obtain ⟨t, q⟩ := (show ∃ t, u = Value.int i t from rx); cases q; exact .now
    | str y => obtain ⟨t, q⟩ := (show ∃ t, u = Value.str y t from rx); cases q; exact .now
    | flt y => simp at hT
    | @lst a xs ea =>
      cases (show u = Value.ref a from rx)
      obtain ⟨_, _, n, _, h1⟩ := (show ObjOk X.prog X.w H s.heap a (.lst xs) from I.hok a _ ea)
      exact looks_cls h1 rfl
    | @frz a ob xs ea =>
      cases (show u = Value.ref a from rx)
      obtain ⟨_, _, _, n, _, h1⟩ := (show ObjOk X.prog X.w H s.heap a (.frz ob (.lst xs)) from I.hok a _ ea)
      exact looks_cls h1 rfl
    | @tup a xs ea =>
      cases (show u = Value.ref a from rx)
      obtain ⟨_, _, _, o, h1, h2, _⟩ := (show ObjOk X.prog X.w H s.heap a (.tup xs) from I.hok a _ ea)
      exact looks_cls h1 h2
    | @dK a kvs ea =>
      cases (show u = Value.ref a from rx)
      obtain ⟨_, _, vs, _, o, es, ep, h1, h2, _⟩ := (show ObjOk X.prog X.w H s.heap a (.dK kvs) from I.hok a _ ea)
      exact looks_cls h1 h2.1
    | @dT a kvs ea =>
      cases (show u = Value.ref a from rx)
      obtain ⟨_, _, xs, _, o, es, ep, h1, h2, _⟩ := (show ObjOk X.prog X.w H s.heap a (.dT kvs) from I.hok a _ ea)
      exact looks_cls h1 h2.1
  | byt b => simp at hT
  | set e => simp at hT
  | @kList a o e c =>
    cases (show u = Value.ref a from rx)
    exact looks_cls (I.kIn _ _ e) c
  | @kTuple a o e c =>
    cases (show u = Value.ref a from rx)
    exact looks_cls (I.kIn _ _ e) c
  | @kDict a o e c =>
    cases (show u = Value.ref a from rx)
    exact looks_cls (I.kIn _ _ e) c
  | @fTuple a o xs e =>
    cases (show u = Value.ref a from rx)
    obtain ⟨_, _, _, _, o2, h1, h2, _⟩ := (show ObjOk X.prog X.w H s.heap a (.frz o (.tup xs)) from I.hok a _ e)
    exact looks_cls h1 h2
  | @fDict a o kvs e =>
    cases (show u = Value.ref a from rx)
    obtain ⟨_, _, _, vs, _, o2, es, ep, h1, h2, _⟩ := (show ObjOk X.prog X.w H s.heap a (.frz o (.dK kvs)) from I.hok a _ e)
    exact looks_cls h1 h2.1
theorem tyName_in {x : A} {h : Hh} {T : String} (e : tyName x h = some T) : T ∈ ["NoneType", "bool", "int", "str", "tuple", "list", "dict"] := by
  unfold tyName at e
  split at e <;> first | (cases e; decide) | (split at e <;> first | (cases e; decide) | cases e) | cases e
/-- what stands on the right -/
def isRt (c : Str) (y : A) (h : Hh) : Bool := (fieldsOf c y h).isSome || (tyName y h).isSome
theorem right_ty {M : Model} {c : Str} {C : Addr} {w : Wd} {h : Hh} {y : A} {v : V} {u : Value} (I : Inv X pins σ H s) (hC : X.mg c = some (.ref C)) (nf : NF X.K C) (S : Sm X.mg w H h) (r : RelA X.mg w y v) (ru : RelV v u) (e : isRt c y h = true) :
    ∃ tb, PySem.W.Looks M s.heap (typeOf u) tb ∧ PySem.W.notFirst X.K C tb = true := by
  unfold isRt at e
  rw [Bool.or_eq_true] at e
  rcases e with e | e
  · obtain ⟨fs, ef⟩ := Option.isSome_iff_exists.mp e
    obtain ⟨q, dy, ws, rfl, hq, rg⟩ := fieldsOf_rel S hC r ef
    cases ru
    obtain ⟨mB, J, _⟩ := ins_get I.hok hq
    obtain ⟨od, J2, _⟩ := J.look
    exact ⟨.ref C, J2.type, by simp [PySem.W.notFirst]⟩
  · obtain ⟨T, et⟩ := Option.isSome_iff_exists.mp e
    exact ⟨.type T, looks_ty I ru (tyName_rel S r et) (tyName_in et), nf T (tyName_in et)⟩
def fEqC (neg : Bool) (c : Str) (F : FnI) : A → A → Hh → Option (A × Hh) := fun x y h => match fieldsOf c x h with
  | some _ => if isRt c y h then match F [x, y] h with
    | some (.d (.bl b), h1) => some (.d (.bl (neg ^^ b)), h1)
    | _ => none
    else none
  | none => none
theorem o_eqC (c : Str) {C f : Addr} {fd : FuncData} {ps : List Str} {F : FnI} {k : Nat} (hC : X.mg c = some (.ref C)) (M : Meth X.K C "__eq__" f) (nf : NF X.K C) (G : Ok X.prog X.w X.K X.mg X.base k f fd ps F) (h2 : ps.length = 2) (hr : Room k X.A) (hb : Binds X.K fd ps []) : OpI X (compareOp .Eq) (fEqC false c F) := by
  intro pins s σ H vx vy v u Q I rx ry ⟨w, h, x, y, a, h', S, r1, r2, e, b⟩
  unfold fEqC at e
  split at e
  · rename_i fs ef
    split at e
    · rename_i hy
      split at e
      · rename_i b0 g eF
        cases e
        obtain ⟨p, dx, us, rfl, hp, rf⟩ := fieldsOf_rel S hC r1 ef
        cases rx
        obtain ⟨mA, J, _⟩ := ins_get I.hok hp
        obtain ⟨od, J2, _⟩ := J.look
        obtain ⟨m, FR⟩ := I.fr
        obtain ⟨tb, lt, nt⟩ := right_ty I hC nf S r2 ry hy
        have hu := hr.un
        refine PySem.W.cmp_ofEq (PySem.W.cmp_K (op := .Eq) (by omega) FR I.ok.mod.kin J2 lt nt M.at_ M.fn ?_)
        refine wpAny_mono (own_call (Q := fun v H' => v = .bl b0 ∧ Q (.bl b0) H') G hr I.env0 hb I S (.cons r1 (.cons r2 .nil)) (.cons rfl (.cons ry .nil)) (by rw [h2]; rfl) eF (fun w1 H1 v1 l1 S1 r3 => ?_)) (fun v s' hv => ?_) fun _ _ z => z
        · cases relbl r3
          exact ⟨rfl, by have := b w1 H1 _ l1 S1 (.d (.bl _)); simpa using this⟩
        · obtain ⟨z, H', I', rz, ez, qq⟩ := hv
          subst ez
          cases rz
          exact ⟨.bl b0, H', I', rfl, qq⟩
      · cases e
    · cases e
  · cases e
end
section
variable {prog : Program} {w : World} {A : Around} {E : Value → Shared → Prop} {h : Heap} {g : Array GenState} {d : Drawn} {t : Nat} {os : OsState} {C x f : Addr} {y : Value} {B : String} {bm : List Value}
theorem ne_entry (X : h.OwnEqNoNe x C f B bm) (hu : A.units < cLine) {Q : Fin → Shared → Prop}
    (hcall : wpAny (model prog w) A (call (.ref f) [.ref x, y]) (fun v s' => ∃ b, v = .bool b ∧ Q (.done (.ret (.bool (!b)))) s') E ⟨h, g, d, t, os⟩) :
    wpAny (model prog w) A (Builtin.«object.__ne__» ⟨[.ref x, y], []⟩) Q E ⟨h, g, d, t, os⟩ := by
  unfold Builtin.«object.__ne__»
  repeat (first
    | with_reducible refine wpAny_cRoomFor hu ?_
    | (refine wpAny_bind (m := callSpecialIfBound? (.ref x) (Str.ofString "__eq__") [y])
        (wpAny_callSpecialIfBound?_own X.ownEq (wpAny_mono hcall (fun r s2 hr2 => by
          obtain ⟨b, rfl, hq2⟩ := hr2
          repeat (first | exact hq2 | exact wpAny_pure hq2 | exact wpAny_truthy_bool hq2 | (refine wpAny_bind (m := truthy (.bool _)) (wpAny_truthy_bool ?_)) | wp_step)) fun _ _ e2 => e2)))
    | wp_step)
theorem ne_try (FB : CmpFacts B bm) (X : h.OwnEqNoNe x C f B bm) (hu : A.units + 1 < cLine) {Q : Option Value → Shared → Prop}
    (hcall : wpAny (model prog w) A.in1 (call (.ref f) [.ref x, y]) (fun v s' => ∃ b, v = .bool b ∧ Q (some (.bool (!b))) s') E ⟨h, g, d, t, os⟩) :
    wpAny (model prog w) A (tryCompare (.ref x) "__ne__" y) Q E ⟨h, g, d, t, os⟩ := by
  obtain ⟨ob, fo, n1, q1, N1, b1, hd1, s1, s2, a1, c1, d1, k0, k1, k2, k3, k5, i1, mN, yv, hx, hc, hC, hn, _, _, _, _, _, hne⟩ := id X
  simp only [tryCompare]
  refine wpAny_bind (wpAny_callSpecialIfBound?_inst hx hc hC hn hne FB.mro FB.ne (wpAny_call (codeAny_call_builtin FB.ne.plain F.cmpEntry_ne (wpAny_check_slot_inst F.cmpKind_ne F.cmpSplit_ne (F.cmpArgs_ne _ _) FB.hasObject hx hc hC
    (ne_entry (A := A.in1) X hu (wpAny_mono hcall (fun v s2 hv => ?_) fun _ _ e2 => e2))))))
  obtain ⟨b, rfl, hq⟩ := hv
  first | exact ⟨b, rfl, wpAny_pure hq⟩ | exact ⟨b, rfl, wpAny_pure (wpAny_pure hq)⟩ | exact ⟨b, rfl, hq⟩
theorem ne_rich {K : PySem.W.Frag} {ox : Obj} {od : Option Obj} {tb : Value} (FB : CmpFacts B bm) (X : h.OwnEqNoNe x C f B bm) (KI : K.In h) (I : PySem.W.InstAt h x ox C od) (lt : PySem.W.Looks (model prog w) h (typeOf y) tb) (nt : PySem.W.notFirst K C tb = true) (hu : A.units + 1 < cLine) {Q : Value → Shared → Prop}
    (hcall : wpAny (model prog w) A.in1 (call (.ref f) [.ref x, y]) (fun v s' => ∃ b, v = .bool b ∧ Q (.bool (!b)) s') E ⟨h, g, d, t, os⟩) :
    wpAny (model prog w) A (richCompare .NotEq (.ref x) y) Q E ⟨h, g, d, t, os⟩ := by
  have one : wpAny (model prog w) A (tryCompare (.ref x) "__ne__" y) (fun r s2 => ∃ v, r = some v ∧ Q v s2) E ⟨h, g, d, t, os⟩ := ne_try FB X hu (wpAny_mono hcall (fun v s2 ⟨b, e1, q1⟩ => ⟨b, e1, _, rfl, q1⟩) fun _ _ z => z)
  unfold richCompare
  simp only [oneThing_ref]
  refine wpAny_holding (wpAny_bind (wpAny_cRoomFor (by omega) ?_))
  rw [cmpInfo_NotEq]
  dsimp only
  refine wpAny_bind (I.type.here (wpAny_bind (lt.here ?_)))
  split
  · rename_i q
    have e1 : PySem.W.subIn K tb (.ref C) = some false := by
      rcases Bool.or_eq_true_iff.mp nt with e2 | e2
      · rw [beq_iff_eq.mp e2] at q; simp at q
      · exact beq_iff_eq.mp e2
    refine wpAny_bind ((PySem.W.looks_subIn KI e1).here ?_)
    simp only [Bool.false_eq_true, if_false]
    refine wpAny_bind (wpAny_mono one (fun r s2 z => ?_) fun _ _ z => z)
    obtain ⟨v, rfl, hq⟩ := z
    exact wpAny_pure hq
  · refine wpAny_bind (wpAny_pure ?_)
    simp only [Bool.false_eq_true, if_false]
    refine wpAny_bind (wpAny_mono one (fun r s2 z => ?_) fun _ _ z => z)
    obtain ⟨v, rfl, hq⟩ := z
    exact wpAny_pure hq
end
end F2
set_option Elab.async false
set_option linter.all false
set_option maxRecDepth 100000
set_option maxHeartbeats 4000000
namespace F2
open PySem PySem.Spec PyProof.Rows L2
section
variable {X : Cx}
/-- x != y by an own ==, y any value -/
theorem o_neC2 (c : Str) {C f : Addr} {fd : FuncData} {ps : List Str} {F : FnI} {k : Nat} (hC : X.mg c = some (.ref C)) (Q0 : EqNe X.K C f) (nf : NF X.K C) (G : Ok X.prog X.w X.K X.mg X.base k f fd ps F) (h2 : ps.length = 2) (hr : Room (k + 1) X.A) (hb : Binds X.K fd ps []) : OpI X (compareOp .NotEq) (fEqC true c F) := by
  intro pins s σ H vx vy v u Q I rx ry ⟨w, h, x, y, a, h', S, r1, r2, e, b⟩
  unfold fEqC at e
  split at e
  · rename_i fs ef
    split at e
    · rename_i hy
      split at e
      · rename_i b0 g eF
        cases e
        obtain ⟨p, dx, us, rfl, hp, rf⟩ := fieldsOf_rel S hC r1 ef
        cases rx
        obtain ⟨mA, J, _⟩ := ins_get I.hok hp
        obtain ⟨od, J2, _⟩ := J.look
        have right := right_ty (M := model X.prog X.w) I hC nf S r2 ry hy
        obtain ⟨tb, lt, nt⟩ := right
        obtain ⟨nm, qq, N, bs, hdct, sn, sub, ab, col, dd, k0, k1, k2, k3, k5, newId, of, hl, hns, heq, hne, hlf, hft⟩ := Q0.lk
        have KI := I.kIn
        have XE : s.heap.OwnEqNoNe p C f "object" [.type "object"] :=
          ⟨_, of, nm, qq, N, bs, hdct, sn, sub, ab, col, dd, k0, k1, k2, k3, k5, newId, _, _, J.obj, rfl, KI _ _ hl, PySem.W.isNs_of_in KI hns |> Heap.Ns.of_isNs, nsMap_of_in KI hns heq, KI _ _ hlf, hft, PySem.F.mro_object, rfl, PySem.W.nsMap_none_of_in KI hns hne⟩
        have hcall := own_call (Q := fun v H' => v = .bl b0 ∧ Q (.bl (!b0)) H') G hr.in1 I.env0.in1 hb I S (.cons r1 (.cons r2 .nil)) (.cons rfl (.cons ry .nil)) (by rw [h2]; rfl) eF (fun w1 H1 v1 l1 S1 r3 => by
          cases relbl r3
          have := b w1 H1 _ l1 S1 (.d (.bl _))
          exact ⟨rfl, by simpa using this⟩)
        have hu := hr.un
        have mono : ∀ {A1 : Around}, wpAny (model X.prog X.w) A1 (call (.ref f) [.ref p, u]) (EP X pins σ fun v H' => v = .bl b0 ∧ Q (.bl (!b0)) H') X.xe s → wpAny (model X.prog X.w) A1 (call (.ref f) [.ref p, u]) (fun v s' => ∃ b, v = .bool b ∧ EP X pins σ Q (.bool (!b)) s') X.xe s := fun q => wpAny_mono q (fun v s' ⟨z, H', I', rz, ez, qq⟩ => by
          subst ez
          cases rz
          exact ⟨b0, rfl, .bl (!b0), H', I', rfl, qq⟩) fun _ _ z => z
        have hcall2 := mono hcall
        obtain ⟨hh, g2, d, tk, os⟩ := s
        refine PySem.W.cmp_ofNotEq ?_
        exact ne_rich PySem.F.cmp_object XE KI J2 lt nt (by omega) hcall2
      · cases e
    · cases e
  · cases e
end
end F2
set_option Elab.async false
set_option linter.all false
set_option maxRecDepth 100000
set_option maxHeartbeats 4000000
namespace F2
open PySem PySem.Spec PyProof.Rows L2
section
variable {X : Cx}
/-! ### texts with parts in braces -/
def mFmt (m : EI) : EI := fun ρ h => match m ρ h with
  | some (.d (.str y), h1) => if y.length ≤ LIM then some (.d (.str y), h1) else none
  | some (.d (.int i), h1) => if i.natAbs.log2 < 1920 then some (.d (.str (toString i)), h1) else none
  | _ => none
theorem e_fmt {e : Expr} {m : EI} {pos : Pos} (he : PE X e (rE X.mg m)) : PE X (.FormattedValue e (-1) none pos) (rE X.mg (mFmt m)) := PE.imp (pe_fmt he) fun σ H Q ⟨w, ρ, h, a, h', S, E, e, b⟩ => by
  unfold mFmt at e
  split at e
  · rename_i y h1 e1
    split at e
    · rename_i hz
      cases e
      exact ⟨w, ρ, h, _, _, S, E, e1, fun w1 H1 v l1 S1 r1 => .inl ⟨y, relstr r1, lim_size hz, b w1 H1 _ l1 S1 (.d (.str _))⟩⟩
    · cases e
  · rename_i i h1 e1
    split at e
    · rename_i hz
      cases e
      exact ⟨w, ρ, h, _, _, S, E, e1, fun w1 H1 v l1 S1 r1 => .inr ⟨i, relint r1, hz, b w1 H1 _ l1 S1 (.d (.str _))⟩⟩
    · cases e
  · cases e
def mJs : List EI → Str → EI
  | [], acc => fun _ h => some (.d (.str acc), h)
  | m :: ms, acc => fun ρ h => match m ρ h with
    | some (.d (.str y), h1) => if (acc ++ y).length ≤ LIM then mJs ms (acc ++ y) ρ h1 else none
    | _ => none
theorem js_ok : ∀ (ms : List EI) (acc : Str) {σ : L2.St} {H : Hp} {Q : VK}, rE X.mg (mJs ms acc) σ H Q → tJs (ms.map (rE X.mg)) acc σ H fun out H1 => Q (.str out) H1
  | [], acc, σ, H, Q, ⟨w, ρ, h, a, h', S, E, e, b⟩ => by
    cases e
    exact b w H _ .rfl S (.d (.str _))
  | m :: ms, acc, σ, H, Q, ⟨w, ρ, h, a, h', S, E, e, b⟩ => by
    unfold mJs at e
    split at e
    · rename_i y h1 e1
      split at e
      · rename_i hz
        exact ⟨w, ρ, h, _, _, S, E, e1, fun w1 H1 v l1 S1 r1 => ⟨y, relstr r1, lim_size hz, js_ok ms (acc ++ y) ⟨w1, ρ, h1, a, h', S1, E.mono l1, e, b.le l1⟩⟩⟩
      · cases e
    · cases e
theorem j_nil : PJ X [] (([] : List EI).map (rE X.mg)) := .nil
theorem j_cons {e : Expr} {m : EI} {es : List Expr} {ms : List EI} (h : PE X e (rE X.mg m)) (r : PJ X es (ms.map (rE X.mg))) : PJ X (e :: es) ((m :: ms).map (rE X.mg)) := .cons h r
theorem e_js {v1 v2 : Expr} {rest : List Expr} {ms : List EI} {pos : Pos} (h : PJ X (v1 :: v2 :: rest) (ms.map (rE X.mg))) : PE X (.JoinedStr (v1 :: v2 :: rest) pos) (rE X.mg (mJs ms Str.empty)) := PE.imp (pe_joined h) fun σ H Q q => js_ok ms Str.empty q
end
/-! ### facts -/
def nfB (x : Str) : Fct := fun K => ["NoneType", "bool", "int", "str", "tuple", "list", "dict"].all fun T => PySem.W.notFirst K (He.ga K x) (.type T)
theorem nf_ok {K : PySem.W.Frag} {x : Str} (c : nfB x K = true) : NF K (He.ga K x) := fun T hT => List.all_eq_true.mp c T hT
def ntB (x : Str) : Fct := fun K => He.eqO (PySem.W.findIn K (.ref (He.ga K x)) "__bool__") (some none) && He.eqO (PySem.W.findIn K (.ref (He.ga K x)) "__len__") (some none)
theorem nt_ok {K : PySem.W.Frag} {x : Str} (c : ntB x K = true) : NoTruth K (He.ga K x) := by
  obtain ⟨c1, c2⟩ := He.ba c
  exact ⟨He.eqO_ok c1, He.eqO_ok c2⟩
end F2
set_option Elab.async false
set_option linter.all false
set_option maxRecDepth 100000
set_option maxHeartbeats 4000000
namespace F2
open PySem PySem.Spec PyProof.Rows L2
/-! ### zip of three lists -/
def Itz3 (K : PySem.W.Frag) (a b c : Addr) : It :=
  ⟨fun i H => ∃ (xs ys us : List V) (x y u : V), (SqL K H a xs ∧ SqL K H b ys ∧ SqL K H c us) ∧ xs[i]? = some x ∧ ys[i]? = some y ∧ us[i]? = some u,
    fun i H v H1 => ∃ T x y u, v = .ref T ∧ H T = none ∧ H1 = upd H T (.tup [x, y, u]) ∧ (∀ l, SqL K H a l → l[i]? = some x) ∧ (∀ l, SqL K H b l → l[i]? = some y) ∧ ∀ l, SqL K H c l → l[i]? = some u,
    fun i H => ∃ xs ys us : List V, (SqL K H a xs ∧ SqL K H b ys ∧ SqL K H c us) ∧ (i ≤ xs.length ∧ i ≤ ys.length ∧ i ≤ us.length) ∧ (i = xs.length ∨ i = ys.length ∨ i = us.length)⟩
structure Far3 (z TI TO i1 i2 i3 a b c : Addr) : Prop where
  sep : ZipSep3 z TI TO i1 i2 i3 [i1, a] [i2, b] [i3, c]
  n1 : a ≠ i1
  n2 : b ≠ i2
  n3 : c ≠ i3
theorem far_of (n a b c : Nat) (la : a < n) (lb : b < n) (lc : c < n) : Far3 (n + 5) (n + 3) (n + 4) n (n + 1) (n + 2) a b c := by
  have d : ∀ x y : Nat, x < y ∨ y < x → x ≠ y := fun x y h => by omega
  have ni : ∀ x y u : Nat, (x < y ∨ y < x) → (x < u ∨ u < x) → x ∉ [y, u] := fun x y u h1 h2 z => by
    rcases List.mem_cons.mp z with z | z
    · omega
    · have := List.mem_singleton.mp z
      omega
  have S : ZipSep3 (n + 5) (n + 3) (n + 4) n (n + 1) (n + 2) [n, a] [n + 1, b] [n + 2, c] := {
    TIz := d (n + 3) (n + 5) (by omega)
    TOz := d (n + 4) (n + 5) (by omega)
    TITO := d (n + 3) (n + 4) (by omega)
    TIi1 := d (n + 3) n (by omega)
    mem1 := by simp
    zf1 := ni (n + 5) n a (by omega) (by omega)
    Tf1 := ni (n + 4) n a (by omega) (by omega)
    TIi2 := d (n + 3) (n + 1) (by omega)
    mem2 := by simp
    zf2 := ni (n + 5) (n + 1) b (by omega) (by omega)
    Tf2 := ni (n + 4) (n + 1) b (by omega) (by omega)
    TIi3 := d (n + 3) (n + 2) (by omega)
    mem3 := by simp
    zf3 := ni (n + 5) (n + 2) c (by omega) (by omega)
    Tf3 := ni (n + 4) (n + 2) c (by omega) (by omega)
    sep1_2 := ni n (n + 1) b (by omega) (by omega)
    sep1_3 := ni n (n + 2) c (by omega) (by omega)
    sep2_1 := ni (n + 1) n a (by omega) (by omega)
    sep2_3 := ni (n + 1) (n + 2) c (by omega) (by omega)
    sep3_1 := ni (n + 2) n a (by omega) (by omega)
    sep3_2 := ni (n + 2) (n + 1) b (by omega) (by omega) }
  exact ⟨S, d a n (by omega), d b (n + 1) (by omega), d c (n + 2) (by omega)⟩
theorem turn_zip3 {P : Program} {w : World} {K : PySem.W.Frag} {elts : List Expr} {kk : Nat} {tpos : Pos} {a b c z TI TO i1 i2 i3 : Addr} (D : Far3 z TI TO i1 i2 i3 a b c) :
    Turn P w K (.Tuple elts kk tpos) (Itz3 K a b c) [z, TI, TO, i1, i2, i3] z (fun i h => IsZip h z TI TO .none ∧ IsTupOf3 h TI (.ref i1) (.ref i2) (.ref i3) ∧ (∃ x y u, IsTupOf3 h TO x y u) ∧ h.IsListIter i1 a i ∧ h.IsListIter i2 b i ∧ h.IsListIter i3 c i) where
  mem := by simp
  obj := fun i h st q hq => by
    obtain ⟨hz, hTI, ⟨x, y, u, hTO⟩, ⟨p1, e1, _, d1⟩, ⟨p2, e2, _, d2⟩, ⟨p3, e3, _, d3⟩⟩ := st
    have e' : q = z ∨ q = TI ∨ q = TO ∨ q = i1 ∨ q = i2 ∨ q = i3 := by simpa using hq
    rcases e' with r | r | r | r | r | r
    · rw [r]; exact ⟨_, hz, fun v q => nomatch q⟩
    · rw [r]; exact ⟨_, hTI, fun v q => nomatch q⟩
    · rw [r]; exact ⟨_, hTO, fun v q => nomatch q⟩
    · rw [r]; exact ⟨p1, e1, fun v q => by rw [d1] at q; cases q⟩
    · rw [r]; exact ⟨p2, e2, fun v q => by rw [d2] at q; cases q⟩
    · rw [r]; exact ⟨p3, e3, fun v q => by rw [d3] at q; cases q⟩
  keep := fun i h g st k => by
    obtain ⟨hz, hTI, ⟨x, y, u, hTO⟩, h1, h2, h3⟩ := st
    exact ⟨k z (by simp) _ hz, k TI (by simp) _ hTI, ⟨x, y, u, k TO (by simp) _ hTO⟩, h1.at fun o q => k i1 (by simp) o q, h2.at fun o q => k i2 (by simp) o q, h3.at fun o q => k i3 (by simp) o q⟩
  item := by
    intro X hP hw hK hc i pins s σ H E I hf st hg
    subst hP hw hK
    obtain ⟨hz, hTI, ⟨x0, y0, u0, hTO⟩, h1, h2, h3⟩ := st
    obtain ⟨xs, ys, us, x, y, u, ⟨hqx, hqy, hqu⟩, hx, hy, hu⟩ := hg
    obtain ⟨its, rv, p, _⟩ := I.list hqx
    obtain ⟨its2, rv2, p2, _⟩ := I.list hqy
    obtain ⟨its3, rv3, p3, _⟩ := I.list hqu
    obtain ⟨v1, hv1, rx⟩ := rv.get hx
    obtain ⟨v2, hv2, ry⟩ := rv2.get hy
    obtain ⟨v3, hv3, ru⟩ := rv3.get hu
    have hzl : z < s.heap.objs.size := Heap.lt_size hz
    have hd : X.A.in1.handled = none := I.ok.hd hc
    have D1 := Draws.list (prog := X.prog) (w := X.w) hd i1 a D.n1 its.toArray
    have D2 := Draws.list (prog := X.prog) (w := X.w) hd i2 b D.n2 its2.toArray
    have D3 := Draws.list (prog := X.prog) (w := X.w) hd i3 c D.n3 its3.toArray
    have g1 : its.toArray[i]? = some v1 := by simpa using hv1
    have g2 : its2.toArray[i]? = some v2 := by simpa using hv2
    have g3 : its3.toArray[i]? = some v3 := by simpa using hv3
    refine wpAny_pyNext_zipD3_item D.sep D1 D2 D3 hz hTI hTO ⟨h1, p.isList⟩ ⟨h2, p2.isList⟩ ⟨h3, p3.isList⟩ (Array.getElem?_eq_some_iff.mp g1).1 (Array.getElem?_eq_some_iff.mp g2).1 (Array.getElem?_eq_some_iff.mp g3).1 fun w1 w2 w3 h' tk q1 q2 q3 z' TO' s1 s2 s3 hT hsz hk => ?_
    rw [g1] at q1; cases q1
    rw [g2] at q2; cases q2
    rw [g3] at q3; cases q3
    refine ⟨_, rfl, wpAny_letOwnedTupleGo_zip (s := { s with heap := h', toks := tk }) z' fun h'' z'' sb => ?_⟩
    have hT2 : h''.get? s.heap.objs.size = some { cls := .type "tuple", data := .seq #[v1, v2, v3] } := (sb.2 _ (Nat.ne_of_gt hzl)).trans hT
    have new : ObjOk X.prog X.w (upd H s.heap.objs.size (.tup [x, y, u])) h'' s.heap.objs.size (.tup [x, y, u]) :=
      ⟨by show 3 ≤ sizeLine; decide, [v1, v2, v3], .cons rx (.cons ry (.cons ru .nil)), ⟨_, hT2, rfl, _, rfl⟩⟩
    have I1 : Inv X pins σ (upd H s.heap.objs.size (.tup [x, y, u])) { s with heap := h'', toks := tk } :=
      I.turnedNew (t' := tk) (ch := [z, TI, TO, i1, i2, i3]) (fun o1 o hb q => (sb.2 o1 (fun e => hb (by simp [e]))).trans (hk o1 o (fun e => hb (by simp [e])) (fun e => hb (by simp [e])) (fun e => hb (by simp [e])) (fun e => hb (by simp [e])) (fun e => hb (by simp [e])) q)) hf (Nat.le_refl _) new
    have S := D.sep
    have ni1 : i1 ≠ z := fun e => S.zf1 (by rw [e]; simp)
    have ni2 : i2 ≠ z := fun e => S.zf2 (by rw [e]; simp)
    have ni3 : i3 ≠ z := fun e => S.zf3 (by rw [e]; simp)
    refine ⟨.ref s.heap.objs.size, _, I1, rfl, ⟨_, x, y, u, rfl, I.hok.fresh (Nat.le_refl _), rfl, fun l hl => by rw [I.list_inj hl hqx]; exact hx, fun l hl => by rw [I.list_inj hl hqy]; exact hy, fun l hl => by rw [I.list_inj hl hqu]; exact hu⟩, ⟨z'', ?_, ⟨v1, v2, v3, ?_⟩, ?_, ?_, ?_⟩, fun o1 hcm => ?_⟩
    · exact (sb.2 _ S.TIz).trans (hk _ _ S.TIz S.TITO S.TIi1 S.TIi2 S.TIi3 hTI)
    · exact (sb.2 _ S.TOz).trans TO'
    · exact s1.1.at fun o q => (sb.2 _ ni1).trans q
    · exact s2.1.at fun o q => (sb.2 _ ni2).trans q
    · exact s3.1.at fun o q => (sb.2 _ ni3).trans q
    · have hlt : o1 < s.heap.objs.size := by
        have e' : o1 = z ∨ o1 = TI ∨ o1 = TO ∨ o1 = i1 ∨ o1 = i2 ∨ o1 = i3 := by simpa using hcm
        rcases e' with q | q | q | q | q | q
        · rw [q]; exact hzl
        · rw [q]; exact Heap.lt_size hTI
        · rw [q]; exact Heap.lt_size hTO
        · rw [q]; obtain ⟨_, e1, _⟩ := h1; exact Heap.lt_size e1
        · rw [q]; obtain ⟨_, e2, _⟩ := h2; exact Heap.lt_size e2
        · rw [q]; obtain ⟨_, e3, _⟩ := h3; exact Heap.lt_size e3
      rw [upd_ne (Nat.ne_of_lt hlt)]
      exact (hf o1 hcm).1
  done := by
    intro X hP hw hK hc i pins s σ H E I hf st hg
    subst hP hw hK
    obtain ⟨hz, hTI, ⟨x0, y0, u0, hTO⟩, h1, h2, h3⟩ := st
    obtain ⟨xs, ys, us, ⟨hqx, hqy, hqu⟩, ⟨m1, m2, m3⟩, hend⟩ := hg
    obtain ⟨its, rv, p, _⟩ := I.list hqx
    obtain ⟨its2, rv2, p2, _⟩ := I.list hqy
    obtain ⟨its3, rv3, p3, _⟩ := I.list hqu
    have l1 := rv.length
    have l2 := rv2.length
    have l3 := rv3.length
    have hd : X.A.in1.handled = none := I.ok.hd hc
    have D1 := Draws.list (prog := X.prog) (w := X.w) hd i1 a D.n1 its.toArray
    have D2 := Draws.list (prog := X.prog) (w := X.w) hd i2 b D.n2 its2.toArray
    have D3 := Draws.list (prog := X.prog) (w := X.w) hd i3 c D.n3 its3.toArray
    exact wpAny_pyNext_zipD3_end D.sep D1 D2 D3 hz hTI hTO ⟨h1, p.isList⟩ ⟨h2, p2.isList⟩ ⟨h3, p3.isList⟩ (by simp; omega) (by simp; omega) (by simp; omega) (by simp; omega) fun h' tk hk => ⟨rfl, I.turnedL (t' := tk) (ch := [z, TI, TO, i1, i2, i3]) (fun o1 o hb q =>
      hk o1 o (fun e => hb (by simp [e])) (fun e => hb (by simp [e])) (fun e => hb (by simp [e])) (fun e => hb (by simp [e])) (fun e => hb (by simp [e])) q) hf⟩
  self := fun A i s Q E st h => wpAny_pyIter_zip st.1 h
def iZip3 (K : PySem.W.Frag) (ta : TA) : TI := fun σ H R => ta σ H fun vs H1 => ∃ a b c xs ys us, vs = [.ref a, .ref b, .ref c] ∧ (SqL K H1 a xs ∧ SqL K H1 b ys ∧ SqL K H1 c us) ∧ R (Itz3 K a b c) H1
theorem pi_zip3 {X : Cx} {e e2 e3 : Expr} {ta : TA} {p pos tpos : Pos} {elts : List Expr} {kk : Nat} (hg : Gl X "zip") (hm : X.mg "zip" = none) (ha : PA X [e, e2, e3] ta)
    (hs : starEach [e, e2, e3] X.env = (false, eval e X.env) :: starEach [e2, e3] X.env := by rfl) (hpl : (backTo pos (starEach [e2, e3] X.env)).any (·.1) = false := by rfl) :
    PI X (.Tuple elts kk tpos) (.Call (.Name "zip" p) [e, e2, e3] [] pos) (iZip3 X.K ta) := by
  refine ⟨fun pins s σ H R I h => ?_⟩
  refine Call_ (ld_blt I hg hm PyProof.Rows.boot_zip (PyProof.Rows.callWith_type1 (thn (ha.run pos pins s σ H _ I h) fun us s1 ⟨vs, H1, I1, r1, q1⟩ => ?_) hs hpl))
  obtain ⟨a, b, c, xs, ys, us', ex, ⟨hqx, hqy, hqu⟩, q⟩ := q1
  subst ex
  cases r1 with
  | cons r rr =>
    cases rr with
    | cons r' rr =>
      cases rr with
      | cons r'' rr =>
        cases rr
        cases r
        cases r'
        cases r''
        obtain ⟨its, rv, p1, _⟩ := I1.list hqx
        obtain ⟨its2, rv2, p2, _⟩ := I1.list hqy
        obtain ⟨its3, rv3, p3, _⟩ := I1.list hqu
        have la : a < s1.heap.objs.size := p1.lt
        have lb : b < s1.heap.objs.size := p2.lt
        have lc : c < s1.heap.objs.size := p3.lt
        refine zip_begins3 (begins_list a its.toArray) (begins_list b its2.toArray) (begins_list c its3.toArray) p1.isList p2.isList p3.isList fun h' hz hTI hTO h1 h2 h3 hsz hk => wpAny_pyIter_zip hz ?_
        have I2 : Inv X pins σ H1 { s1 with heap := h' } := I1.kept (t' := s1.toks) hk
        have far := far_of s1.heap.objs.size a b c la lb lc
        refine ⟨s1.heap.objs.size + 5, [s1.heap.objs.size + 5, s1.heap.objs.size + 3, s1.heap.objs.size + 4, s1.heap.objs.size, s1.heap.objs.size + 1, s1.heap.objs.size + 2], _, _, H1, rfl, I2, turn_zip3 far, ⟨hz, hTI, ⟨_, _, _, hTO⟩, ⟨_, h1, rfl, rfl⟩, ⟨_, h2, rfl, rfl⟩, ⟨_, h3, rfl, rfl⟩⟩, fun o1 hcm => ?_, q⟩
        have hle : s1.heap.objs.size ≤ o1 := by
          have big : ∀ k, k ∈ [s1.heap.objs.size + 5, s1.heap.objs.size + 3, s1.heap.objs.size + 4, s1.heap.objs.size, s1.heap.objs.size + 1, s1.heap.objs.size + 2] → s1.heap.objs.size ≤ k := fun k hk => by
            simp only [List.mem_cons, List.not_mem_nil, or_false] at hk
            rcases hk with r | r | r | r | r | r <;> rw [r] <;> first | exact Nat.le_refl _ | exact Nat.le_add_right _ _
          exact big o1 hcm
        exact I1.fpOk hle (I1.hok.fresh hle)
section
variable {X : Cx}
def zip3N (x y u : A) : Nat → Hh → Option (Option A) := fun i h => match itemsL x h with
  | some xs => match itemsL y h with
    | some ys => match itemsL u h with
      | some us => if i ≤ xs.length ∧ i ≤ ys.length ∧ i ≤ us.length then
          if i = xs.length ∨ i = ys.length ∨ i = us.length then some none
          else match xs[i]?, ys[i]?, us[i]? with
            | some (.d a), some (.d b), some (.d c) => some (some (.d (.tup [a, b, c])))
            | _, _, _ => none
        else none
      | none => none
    | none => none
  | none => none
def srcZ3 (m : AI) : SrcI := fun ρ h => match m ρ h with
  | some ([x, y, u], h1) => match itemsL x h1 with
    | some xs => match itemsL y h1 with
      | some _ => match itemsL u h1 with
        | some _ => some (⟨zip3N x y u, xs.length⟩, h1)
        | none => none
      | none => none
    | none => none
  | _ => none
theorem three_new {mg : Mg} {w : Wd} {H : Hp} {h : Hh} (S : Sm mg w H h) {a b c : D} {x y u : V} (rx : RelD mg w.fz a x) (ry : RelD mg w.fz b y) (ru : RelD mg w.fz c u) {T : Addr} (hT : H T = none) :
    ∃ w'', w.le w'' ∧ Sm mg w'' (upd H T (.tup [x, y, u])) h ∧ RelA mg w'' (.d (.tup [a, b, c])) (.ref T) :=
  ⟨w.pure T _, S.le_pure hT, S.pure hT, .d (.tup (vs := [x, y, u]) (by show (if T = T then _ else _) = _; rw [if_pos rfl]) (.cons (rx.mono (S.le_pure hT).fz) (.cons (ry.mono (S.le_pure hT).fz) (.cons (ru.mono (S.le_pure hT).fz) .nil))))⟩
theorem i_zip3 {e1 e2 e3 : Expr} {m : AI} {p pos tpos : Pos} {elts : List Expr} {kk : Nat} (hm : X.mg "zip" = none) (ha : PA X [e1, e2, e3] (rA X.mg m)) (hg : Gl X "zip" := by rfl)
    (hs : starEach [e1, e2, e3] X.env = (false, eval e1 X.env) :: starEach [e2, e3] X.env := by rfl) (hpl : (backTo pos (starEach [e2, e3] X.env)).any (·.1) = false := by rfl) : PI X (.Tuple elts kk tpos) (.Call (.Name "zip" p) [e1, e2, e3] [] pos) (iS X.mg (srcZ3 m)) :=
  PI.imp (pi_zip3 hg hm ha hs hpl) fun σ H R ⟨w, ρ, h, s, h', S, E, e, b⟩ => by
    unfold srcZ3 at e
    split at e
    · rename_i x y u h1 q1
      split at e
      · rename_i xs ex
        split at e
        · rename_i ys ey
          split at e
          · rename_i us eu
            cases e
            refine ⟨w, ρ, h, _, h', S, E, q1, fun w1 H1 vs l1 S1 r1 => ?_⟩
            cases r1 with
            | cons rx t =>
              cases t with
              | cons ry t =>
                cases t with
                | cons ru t =>
                  cases t
                  obtain ⟨a, as, rfl, ha, ra⟩ := itemsL_rel S1 rx ex
                  obtain ⟨c, cs, rfl, hc, rc⟩ := itemsL_rel S1 ry ey
                  obtain ⟨d, ds, rfl, hd, rd⟩ := itemsL_rel S1 ru eu
                  refine ⟨a, c, d, as, cs, ds, rfl, ⟨SqL.of ha, SqL.of hc, SqL.of hd⟩, b w1 H1 _ l1 S1 fun i w' H' h'' l S' => ?_⟩
                  refine ⟨fun e2 => ?_, fun z e2 => ?_⟩
                  · simp only [zip3N] at e2
                    split at e2
                    · rename_i xs' ex'
                      split at e2
                      · rename_i ys' ey'
                        split at e2
                        · rename_i us' eu'
                          obtain ⟨a', as', ea, ha', ra'⟩ := itemsL_rel S' (rx.mono0 l) ex'
                          obtain ⟨c', cs', ec, hc', rc'⟩ := itemsL_rel S' (ry.mono0 l) ey'
                          obtain ⟨d', ds', ed, hd', rd'⟩ := itemsL_rel S' (ru.mono0 l) eu'
                          cases ea; cases ec; cases ed
                          have lx := ra'.length
                          have ly := rc'.length
                          have lu := rd'.length
                          split at e2
                          · rename_i k1
                            split at e2
                            · rename_i k2
                              exact ⟨as', cs', ds', ⟨SqL.of ha', SqL.of hc', SqL.of hd'⟩, by omega, by omega⟩
                            · split at e2 <;> cases e2
                          · cases e2
                        · cases e2
                      · cases e2
                    · cases e2
                  · simp only [zip3N] at e2
                    split at e2
                    · rename_i xs' ex'
                      split at e2
                      · rename_i ys' ey'
                        split at e2
                        · rename_i us' eu'
                          obtain ⟨a', as', ea, ha', ra'⟩ := itemsL_rel S' (rx.mono0 l) ex'
                          obtain ⟨c', cs', ec, hc', rc'⟩ := itemsL_rel S' (ry.mono0 l) ey'
                          obtain ⟨d', ds', ed, hd', rd'⟩ := itemsL_rel S' (ru.mono0 l) eu'
                          cases ea; cases ec; cases ed
                          split at e2
                          · split at e2
                            · cases e2
                            · split at e2
                              · rename_i d1 d2 d3 q1 q2 q3
                                cases e2
                                obtain ⟨v1, hv1, r1⟩ := ra'.get q1
                                obtain ⟨v2, hv2, r2⟩ := rc'.get q2
                                obtain ⟨v3, hv3, r3⟩ := rd'.get q3
                                refine ⟨⟨as', cs', ds', v1, v2, v3, ⟨SqL.of ha', SqL.of hc', SqL.of hd'⟩, hv1, hv2, hv3⟩, fun y H'' ⟨T, x1, x2, x3, e3, hT, e4, k1, k2, k3⟩ => ?_⟩
                                subst e3 e4
                                have z1 := k1 _ (SqL.of ha')
                                have z2 := k2 _ (SqL.of hc')
                                have z3 := k3 _ (SqL.of hd')
                                rw [hv1] at z1; cases z1
                                rw [hv2] at z2; cases z2
                                rw [hv3] at z3; cases z3
                                cases r1 with
                                | d r1 => cases r2 with
                                  | d r2 => cases r3 with
                                    | d r3 => exact three_new S' r1 r2 r3 hT
                              · cases e2
                          · cases e2
                        · cases e2
                      · cases e2
                    · cases e2
          · cases e
        · cases e
      · cases e
    · cases e
end
end F2
set_option Elab.async false
set_option linter.all false
set_option maxRecDepth 100000
set_option maxHeartbeats 4000000
namespace F2
open PySem PySem.Spec PyProof.Rows L2
section
variable {X : Cx}
/-- x != y of two texts, any signs -/
def fNeS : A → A → Hh → Option (A × Hh)
  | .d (.str x), .d (.str y), h => some (.d (.bl (!decide (x = y))), h)
  | _, _, _ => none
theorem o_neS : OpI X (compareOp .NotEq) fNeS := OpI.of op_ne fun w H h x y a vx vy h' Q S r1 r2 e b => by
  unfold fNeS at e
  split at e
  · rename_i i j
    cases e
    rw [relstr r1, relstr r2]
    refine ⟨rfl, ?_⟩
    have z : decide (V.str i = V.str j) = decide (i = j) := by simp
    rw [z]
    exact b w H _ .rfl S (.d (.bl _))
  · cases e
end
end F2
set_option Elab.async false
set_option linter.all false
set_option maxRecDepth 100000
set_option maxHeartbeats 4000000
namespace F2
open PySem PySem.Spec PyProof.Rows L2
open PySem.W (Frag)
/-! ### a written dict of the module: text keys, ints -/
def tabB (x : Str) (kvs : List (Str × Int)) : Fct := fun K => kvs.all fun q => match PySem.W.nsIn K (He.ga K x) q.1 with
  | some (some (.int i _)) => decide (i = q.2)
  | _ => false
/-- what is known of it -/
def Tb (K : Frag) (w : World) (x : Str) (kvs : List (Str × Int)) : Prop := (∃ es n, KDict K w (He.ga K x) es n) ∧
  ∀ z, ∃ r, PySem.W.nsIn K (He.ga K x) z = some r ∧ match lookG kvs z with
    | some i => ∃ t, r = some (.int i t)
    | none => r = none
theorem dicW_none {P : Params} {z : Str} : ∀ {l : List DictEntry} {ks : List Str}, l.map He.keyOf = He.keysIn P ks → z ∉ ks → l.find? (·.key.isStr z) = none ∧ l.any (·.refKey) = false
  | [], _, _, _ => ⟨rfl, rfl⟩
  | e :: r, [], h, _ => by cases h
  | e :: r, k :: ks, h, hz => by
    have h1 : He.keyOf e :: r.map He.keyOf = some (k, PyData.keyHash P k) :: He.keysIn P ks := h
    injection h1 with h2 h3
    obtain ⟨i1, i2⟩ := dicW_none h3 (fun q => hz (List.mem_cons_of_mem _ q))
    unfold He.keyOf at h2
    split at h2
    · rename_i x t q
      have h4 := Option.some.inj h2
      obtain ⟨h5, h6⟩ := Prod.mk.inj h4
      subst h5
      have n1 : e.key.isStr z = false := by
        rw [q]
        show decide (x = z) = false
        exact decide_eq_false fun y => hz (by rw [y]; exact List.mem_cons_self)
      have n2 : e.refKey = false := by
        unfold DictEntry.refKey
        rw [q]
      refine ⟨by rw [List.find?_cons, n1]; exact i1, by rw [List.any_cons, n2, i2]; rfl⟩
    · cases h2
theorem look_mem {κ α : Type} [DecidableEq κ] {k : κ} : ∀ {l : List (κ × α)} {v : α}, lookG l k = some v → (k, v) ∈ l := fun {l v} h => by
  unfold lookG at h
  obtain ⟨p, h1, h2⟩ := Option.map_eq_some_iff.mp h
  have h3 := List.mem_of_find?_eq_some h1
  have h4 : p.1 = k := by
    have h5 := List.find?_some h1
    exact of_decide_eq_true h5
  rw [← h2, ← h4]; exact h3
theorem look_not {κ α : Type} [DecidableEq κ] {k : κ} : ∀ {l : List (κ × α)}, lookG l k = none → k ∉ l.map (·.1) := fun {l} h z => by
  unfold lookG at h
  rw [Option.map_eq_none_iff, List.find?_eq_none] at h
  obtain ⟨p, hp, e⟩ := List.mem_map.mp z
  exact h p hp (decide_eq_true e)
theorem tb_of {K : Frag} {w : World} {x : Str} {kvs : List (Str × Int)} (h1 : He.dicW K (He.ga K x) = some (He.keysIn w.params (kvs.map (·.1)))) (h2 : tabB x kvs K = true) : Tb K w x kvs := by
  refine ⟨He.dicW_ok h1, fun z => ?_⟩
  cases q : lookG kvs z with
  | some i =>
    have h3 := List.all_eq_true.mp h2 _ (look_mem q)
    dsimp only at h3
    split at h3
    · rename_i j t e
      have := of_decide_eq_true h3
      subst this
      exact ⟨_, e, t, rfl⟩
    · cases h3
  | none =>
    refine ⟨none, ?_, rfl⟩
    have hz := look_not q
    obtain ⟨es, n, D⟩ := He.dicW_ok h1
    unfold He.dicW at h1
    rw [D.at_] at h1
    dsimp only at h1
    split at h1
    · obtain ⟨e1, e2⟩ := dicW_none (Option.some.inj h1) hz
      unfold PySem.W.nsIn
      rw [D.at_]
      dsimp only
      rw [e1]
      dsimp only
      rw [e2]
      rfl
    · cases h1
section
variable {X : Cx}
/-- x in TAB, x not in TAB -/
def fInTab (neg : Bool) (kvs : List (Str × Int)) : A → Hh → Option (A × Hh)
  | .d (.str z), h => some (.d (.bl (neg ^^ (lookG kvs z).isSome)), h)
  | _, _ => none
def fIxTab (kvs : List (Str × Int)) : A → Hh → Option (A × Hh)
  | .d (.str z), h => (lookG kvs z).map fun i => (.d (.int i), h)
  | _, _ => none
theorem tab_some {K : Frag} {w : World} {x : Str} {kvs : List (Str × Int)} (T : Tb K w x kvs) (z : Str) : ∃ r, PySem.W.nsIn K (He.ga K x) z = some r ∧ r.isSome = (lookG kvs z).isSome := by
  obtain ⟨r, h1, h2⟩ := T.2 z
  refine ⟨r, h1, ?_⟩
  cases q : lookG kvs z with
  | some i => rw [q] at h2; obtain ⟨t, rfl⟩ := h2; rfl
  | none => rw [q] at h2; rw [h2]; rfl
theorem inTab_q {neg : Bool} {kvs : List (Str × Int)} {x : Str} (T : Tb X.K X.w x kvs) {ma : EI} {σ : L2.St} {H : Hp} {Q : VK} (q : rE X.mg (mUn (fInTab neg kvs) ma) σ H Q) :
    tOp (fun a b H Q => ∃ (z : Str) (r : Option Value), a = .str z ∧ b = .ref (He.ga X.K x) ∧ PySem.W.nsIn X.K (He.ga X.K x) z = some r ∧ Q (.bl (neg ^^ r.isSome)) H) (rE X.mg ma) (tC (.ref (He.ga X.K x))) σ H Q := by
  obtain ⟨w, ρ, h, a, h', S, E, e, k⟩ := un_split q
  refine ⟨w, ρ, h, a, h', S, E, e, fun w1 H1 v l1 S1 r1 => ?_⟩
  obtain ⟨w2, h2, y, b, h3, S2, r2, e2, bb⟩ := k w1 H1 v l1 S1 r1
  unfold fInTab at e2
  split at e2
  · rename_i z
    cases e2
    cases r2 with
    | d r2 =>
      cases r2
      obtain ⟨r, h4, h5⟩ := tab_some T z
      refine ⟨z, r, rfl, rfl, h4, ?_⟩
      rw [h5]
      exact bb w2 H1 _ .rfl S2 (.d (.bl _))
  · cases e2
theorem e_inTab {x : Str} {kvs : List (Str × Int)} {a : Expr} {ma : EI} {p pos : Pos} (T : Tb X.K X.w x kvs) (hm : X.mg x = some (.ref (He.ga X.K x))) (ha : PE X a (rE X.mg ma)) (hg : Gl X x := by rfl) (hd : (x == ("__debug__" : Str)) = false := by decide)
    (hmk : behindInMarks .In (.Name x p) = false := by with_unfolding_all rfl) :
    PE X (.Compare a [.In] [.Name x p] pos) (rE X.mg (mUn (fInTab false kvs) ma)) := by
  obtain ⟨es, n, D⟩ := T.1
  refine PE.imp (pe_cmpR (op_in_kd D) ha (pe_glob (v := .ref (He.ga X.K x)) hg hm rfl hd) hmk) fun σ H Q q => ?_
  have := inTab_q T q
  simpa only [Bool.false_xor] using this
theorem e_notInTab {x : Str} {kvs : List (Str × Int)} {a : Expr} {ma : EI} {p pos : Pos} (T : Tb X.K X.w x kvs) (hm : X.mg x = some (.ref (He.ga X.K x))) (ha : PE X a (rE X.mg ma)) (hg : Gl X x := by rfl) (hd : (x == ("__debug__" : Str)) = false := by decide)
    (hmk : behindInMarks .NotIn (.Name x p) = false := by with_unfolding_all rfl) :
    PE X (.Compare a [.NotIn] [.Name x p] pos) (rE X.mg (mUn (fInTab true kvs) ma)) := by
  obtain ⟨es, n, D⟩ := T.1
  refine PE.imp (pe_cmpR (op_notIn_kd D) ha (pe_glob (v := .ref (He.ga X.K x)) hg hm rfl hd) hmk) fun σ H Q q => ?_
  have := inTab_q T q
  simpa only [Bool.true_xor] using this
theorem t_notInTab {x : Str} {kvs : List (Str × Int)} {a : Expr} {ma : EI} {p pos : Pos} (T : Tb X.K X.w x kvs) (hm : X.mg x = some (.ref (He.ga X.K x))) (ha : PE X a (rE X.mg ma)) (hg : Gl X x := by rfl) (hd : (x == ("__debug__" : Str)) = false := by decide)
    (hmk : behindInMarks .NotIn (.Name x p) = false := by with_unfolding_all rfl) :
    PT X (.Compare a [.NotIn] [.Name x p] pos) (rT X.mg (mBl (mUn (fInTab true kvs) ma))) := by
  obtain ⟨es, n, D⟩ := T.1
  refine PT.imp (pt_cmpR (op_notIn_kd D) ha (pe_glob (v := .ref (He.ga X.K x)) hg hm rfl hd) hmk) fun σ H Q q => ?_
  have := inTab_q T (mBl_split q)
  simp only [Bool.true_xor] at this
  exact this
theorem ix_tab {x : Str} {kvs : List (Str × Int)} (T : Tb X.K X.w x kvs) : IxR X fun vx vy H Q => vx = .ref (He.ga X.K x) ∧ ∃ (z : Str) (i : Int), vy = .str z ∧ lookG kvs z = some i ∧ Q (.int i) H := by
  intro value slice pins s σ H vx vy v u Q I rx ry ⟨ex, z, i, ey, hl, q⟩ hs
  subst ex ey
  obtain ⟨es, n, D⟩ := T.1
  obtain ⟨r, h1, h2⟩ := T.2 z
  rw [hl] at h2
  obtain ⟨t, rfl⟩ := h2
  cases rx
  refine tail_any (kd_type D I) PySem.F.slot_dict_getitem.lookup ?_ hs
  exact op_item_kd D pins s σ H (.ref (He.ga X.K x)) (.str z) (.ref (He.ga X.K x)) u Q I rfl ry ⟨z, _, .int i, rfl, rfl, h1, ⟨t, rfl⟩, q⟩
theorem e_ixTab {x : Str} {kvs : List (Str × Int)} {b : Expr} {mb : EI} {p pos : Pos} (T : Tb X.K X.w x kvs) (hm : X.mg x = some (.ref (He.ga X.K x))) (hb : PE X b (rE X.mg mb)) (hg : Gl X x := by rfl) (hd : (x == ("__debug__" : Str)) = false := by decide) (hs : PlainIx b := by exact fun _ _ => rfl) :
    PE X (.Subscript (.Name x p) b pos) (rE X.mg (mUn (fIxTab kvs) mb)) := PE.imp (pe_ix (ix_tab T) (pe_glob (v := .ref (He.ga X.K x)) hg hm rfl hd) hb hs) fun σ H Q q => by
  obtain ⟨w, ρ, h, a, h', S, E, e, k⟩ := un_split q
  refine ⟨w, ρ, h, a, h', S, E, e, fun w1 H1 v l1 S1 r1 => ⟨rfl, ?_⟩⟩
  obtain ⟨w2, h2, y, b, h3, S2, r2, e2, bb⟩ := k w1 H1 v l1 S1 r1
  unfold fIxTab at e2
  split at e2
  · rename_i z
    obtain ⟨i, h4, h5⟩ := Option.map_eq_some_iff.mp e2
    cases h5
    cases r2 with
    | d r2 => cases r2; exact ⟨z, i, rfl, h4, bb w2 H1 _ .rfl S2 (.d (.int _))⟩
  · cases e2
end
/-! ### the hook, with tables -/
abbrev AlPT : Type := AlP × List (Option (List (Option (Str × Int))))
abbrev TabP : Type := Str × List Str
def obsPT (fa : List Fct) (fn : List DefP) (ts : List TabP) (K : Frag) : AlPT := (obsP fa fn K, ts.map fun t => He.dicW K (He.ga K t.1))
def valPT (fn : List DefP) (ts : List TabP) (w : World) : AlPT := (valP fn, ts.map fun t => some (He.keysIn w.params t.2))
def SaysPT (fa : List Fct) (fn : List DefP) (ts : List TabP) (w : World) (K : Frag) : Prop := obsPT fa fn ts K = valPT fn ts w
def obsPTG (n : Nat) (fa : List Fct) (fn : List DefP) (ts : List TabP) (g : Addr → Option Obj) : AlPT := obsPT fa fn ts (frL g (He.asD g n))
def hookPT (n : Nat) (fa : List Fct) (fn : List DefP) (ts : List TabP) : PySem.W.Hook where
  α := AlPT
  obs := fun s => obsPTG n fa fn ts s.heap.get?
  val := fun w => valPT fn ts w
  says := fun w h => ∃ K : Frag, K.In h ∧ NoLst K ∧ SaysPT fa fn ts w K
  of := fun _ _ e => ⟨_, fun _ _ q => (frL_mem q).1, fun _ _ q => (frL_mem q).2, e⟩
  keeps := fun _ _ _ ⟨K, hK, nl, c⟩ k => ⟨K, PySem.W.Frag.In.keeps hK k, nl, c⟩
theorem obsPTG_eq {n : Nat} {fa : List Fct} {fn : List DefP} {ts : List TabP} {g : Addr → Option Obj} {s : Shared} (h : ∀ a, g a = s.heap.get? a) : obsPTG n fa fn ts g = (hookPT n fa fn ts).obs s := by
  have e : g = s.heap.get? := funext h
  rw [e] <;> rfl
/-- a world whose one choice is told -/
def withFT (w : World) (b : Bool) : World := { w with params := { w.params with followText := fun s => if s = "special-get-raises" then b else w.params.followText s } }
theorem withFT_eq (w : World) : w = withFT w (w.params.followText "special-get-raises") := by
  obtain ⟨d, p⟩ := w
  obtain ⟨a1, a2, a3, a4, a5, ft, a7, a8, a9, a10, a11, a12, a13, a14, a15, a16, a17, a18, a19, a20, a21, a22, a23, a24, a25⟩ := p
  have e : ft = fun s => if s = "special-get-raises" then ft "special-get-raises" else ft s := by
    funext s
    by_cases h : s = "special-get-raises"
    · rw [if_pos h, h]
    · rw [if_neg h]
  show World.mk d _ = World.mk d (Params.mk a1 a2 a3 a4 a5 (fun s => if s = "special-get-raises" then ft "special-get-raises" else ft s) a7 a8 a9 a10 a11 a12 a13 a14 a15 a16 a17 a18 a19 a20 a21 a22 a23 a24 a25)
  rw [← e]
theorem byFT {C : World → Prop} (h : ∀ (w : World), C (withFT w true) ∧ C (withFT w false)) (w : World) : C w := by
  rw [withFT_eq w]
  cases w.params.followText "special-get-raises"
  · exact (h w).2
  · exact (h w).1
section
variable {fa : List Fct} {fn : List DefP} {ts : List TabP} {w : World} {K : Frag}
theorem SaysPT.p (c : SaysPT fa fn ts w K) : SaysP fa fn K := congrArg (fun z : AlPT => z.1) c
theorem SaysPT.tab (c : SaysPT fa fn ts w K) (i : Nat) {t : TabP} (h : ts[i]? = some t := by rfl) : He.dicW K (He.ga K t.1) = some (He.keysIn w.params t.2) := by
  have e : ts.map (fun t => He.dicW K (He.ga K t.1)) = ts.map fun t => some (He.keysIn w.params t.2) := congrArg (fun z : AlPT => z.2) c
  have e2 : (ts.map fun t => He.dicW K (He.ga K t.1))[i]? = (ts.map fun t => some (He.keysIn w.params t.2))[i]? := by rw [e]
  rw [List.getElem?_map, List.getElem?_map, h] at e2
  exact Option.some.inj e2
end
end F2
set_option Elab.async false
set_option linter.all false
set_option maxRecDepth 100000
set_option maxHeartbeats 4000000
/-! list(zip(a, b)): the tuples stay -/
namespace PySem
open Sem (wp)
theorem f2_zip_no_len : typeLookup (.type "zip") "__len__" = pure none := by rw [typeLookup_type, builtinLookup_eq_fast]; kernel_rfl
theorem f2_zip_no_hint : typeLookup (.type "zip") "__length_hint__" = pure none := by rw [typeLookup_type, builtinLookup_eq_fast]; kernel_rfl
section
variable {prog : Program} {w : World} {A : Around} {E : Value → Shared → Prop} {s : Shared} {z TI TO T i1 i2 : Addr} {fp1 fp2 : List Addr} {n1 n2 i : Nat} {P1 P2 : Nat → Value → Prop} {St1 St2 : Nat → Heap → Prop} {f : Bool} {oT : Obj}
theorem zipH_next_item {Q : Value → Shared → Prop} (S : ZipSep2 z TI TO i1 i2 fp1 fp2) (D1 : Draws prog w A i1 fp1 n1 P1 St1) (D2 : Draws prog w A i2 fp2 n2 P2 St2)
    (hz : IsZipHeld s.heap z TI TO T f) (hT : s.heap.get? T = some oT) (hTI : IsTupOf2 s.heap TI (.ref i1) (.ref i2)) (st1 : St1 i s.heap) (st2 : St2 i s.heap) (hlt1 : i < n1) (hlt2 : i < n2)
    (hQ : ∀ x1 x2 h' tk, P1 i x1 → P2 i x2 → IsZipHeld h' z TI TO T true → St1 (i + 1) h' → St2 (i + 1) h' → IsTupOf2 h' s.heap.objs.size x1 x2 → h'.objs.size = s.heap.objs.size + 1 →
      (∀ c o, c ≠ z → c ≠ i1 → c ≠ i2 → s.heap.get? c = some o → h'.get? c = some o) → Q (.ref s.heap.objs.size) { s with heap := h', toks := tk }) :
    wpAny (model prog w) A (Builtin.«zip.__next__» ⟨[.ref z], []⟩) (fun fin s' => ∃ v, fin = .done (.ret v) ∧ Q v s') E s := by
  obtain ⟨hp, g, d, tk0, os⟩ := s
  show wpAny _ _ (field (.ref z) 2 >>= _) _ _ _
  refine wpAny_bind (wpAny_field hz rfl (x := .bool false) rfl ?_)
  show wpAny _ _ (field (.ref z) 3 >>= _) _ _ _
  refine wpAny_bind (wpAny_field hz rfl (x := .ref TI) rfl ?_)
  refine wpAny_bind (wpAny_seqItems hTI rfl ?_)
  show wpAny _ _ (Builtin.SmallTypes.ownedTupleIsFree (.ref z) >>= _) _ _ _
  refine wpAny_bind (wpAny_tupleHeld_zip hz hT fun h₁ hz₁ hs₁ => ?_)
  replace hs₁ : Heap.SameBut z hp h₁ := hs₁
  simp only [Bool.false_eq_true, if_false]
  refine wpAny_bind ?_
  rw [← Array.forIn_toList]
  simp only [List.forIn_cons, List.forIn_nil]
  refine wpAny_bind (wpAny_bind (wpAny_holding ?_))
  show wpAny _ _ (Builtin.SmallTypes.nextOf (.ref i1) >>= _) _ _ ⟨h₁, g, d, tk0, os⟩
  refine wpAny_bind (D1.item i _ _ _ hlt1 (D1.over st1 hs₁ S.zf1) fun x1 p1 tk1 hx1 sn1 hp1 => wpAny_pure ?_)
  replace hp1 : Heap.SameBut i1 h₁ p1 := hp1
  refine wpAny_pure ?_
  refine wpAny_bind (wpAny_bind (wpAny_holding ?_))
  show wpAny _ _ (Builtin.SmallTypes.nextOf (.ref i2) >>= _) _ _ ⟨p1, g, d, tk1, os⟩
  refine wpAny_bind (D2.item i _ _ _ hlt2 (D2.over (D2.over st2 hs₁ S.zf2) hp1 S.sep1_2) fun x2 p2 tk2 hx2 sn2 hp2 => wpAny_pure ?_)
  replace hp2 : Heap.SameBut i2 p1 p2 := hp2
  refine wpAny_pure (wpAny_pure ?_)
  show wpAny _ _ (newTuple [x1, x2] >>= _) _ _ ⟨p2, g, d, tk2, os⟩
  refine wpAny_bind (wpAny_newTuple ?_)
  have hsz : p2.objs.size = hp.objs.size := by rw [hp2.1, hp1.1, hs₁.1]
  have hz₃ : IsZipHeld p2 z TI TO T true := hp2.extBut _ _ S.zi2 (hp1.extBut _ _ S.zi1 hz₁)
  have hk : ∀ c o, c ≠ z → c ≠ i1 → c ≠ i2 → hp.get? c = some o → p2.get? c = some o := fun c o c1 c2 c3 e => hp2.extBut _ _ c3 (hp1.extBut _ _ c2 (hs₁.extBut _ _ c1 e))
  have hj1 : St1 (i + 1) p2 := D1.over sn1 hp2 S.sep2_1
  refine wpAny_pure ⟨_, rfl, ?_⟩
  show Q (.ref p2.objs.size) _
  have hp' : IsTupOf2 (p2.push { cls := .type "tuple", data := .seq #[x1, x2] }) p2.objs.size x1 x2 := Heap.get?_push_size _ rfl
  have hz4 : (p2.push { cls := .type "tuple", data := .seq #[x1, x2] }).objs.size = p2.objs.size + 1 := Heap.size_push ..
  rw [hsz] at hp' hz4 ⊢
  exact hQ x1 x2 _ tk2 hx1 hx2 (Heap.get?_push_of_some _ hz₃) (D1.frame _ _ _ hj1 fun b _ o e => Heap.get?_push_of_some _ e) (D2.frame _ _ _ sn2 fun b _ o e => Heap.get?_push_of_some _ e) hp' hz4 fun c o c1 c2 c3 e => Heap.get?_push_of_some _ (hk c o c1 c2 c3 e)
theorem zipH_next_end {Q : Fin → Shared → Prop} (S : ZipSep2 z TI TO i1 i2 fp1 fp2) (D1 : Draws prog w A i1 fp1 n1 P1 St1) (D2 : Draws prog w A i2 fp2 n2 P2 St2)
    (hz : IsZipHeld s.heap z TI TO T f) (hT : s.heap.get? T = some oT) (hTI : IsTupOf2 s.heap TI (.ref i1) (.ref i2)) (st1 : St1 i s.heap) (st2 : St2 i s.heap) (hle1 : i ≤ n1) (hle2 : i ≤ n2) (hend : i = n1 ∨ i = n2)
    (hE : ∀ h' tk e, (∀ c o, c ≠ z → c ≠ i1 → c ≠ i2 → s.heap.get? c = some o → h'.get? c = some o) → (∃ o, h'.get? e = some o ∧ o.cls = .type "StopIteration") → E (.ref e) { s with heap := h', toks := tk }) :
    wpAny (model prog w) A (Builtin.«zip.__next__» ⟨[.ref z], []⟩) Q E s := by
  obtain ⟨hp, g, d, tk0, os⟩ := s
  show wpAny _ _ (field (.ref z) 2 >>= _) _ _ _
  refine wpAny_bind (wpAny_field hz rfl (x := .bool false) rfl ?_)
  show wpAny _ _ (field (.ref z) 3 >>= _) _ _ _
  refine wpAny_bind (wpAny_field hz rfl (x := .ref TI) rfl ?_)
  refine wpAny_bind (wpAny_seqItems hTI rfl ?_)
  show wpAny _ _ (Builtin.SmallTypes.ownedTupleIsFree (.ref z) >>= _) _ _ _
  refine wpAny_bind (wpAny_tupleHeld_zip hz hT fun h₁ hz₁ hs₁ => ?_)
  replace hs₁ : Heap.SameBut z hp h₁ := hs₁
  simp only [Bool.false_eq_true, if_false]
  refine wpAny_bind ?_
  rw [← Array.forIn_toList]
  simp only [List.forIn_cons, List.forIn_nil]
  refine wpAny_bind (wpAny_bind (wpAny_holding ?_))
  show wpAny _ _ (Builtin.SmallTypes.nextOf (.ref i1) >>= _) _ _ ⟨h₁, g, d, tk0, os⟩
  by_cases hlt1 : i < n1
  · refine wpAny_bind (D1.item i _ _ _ hlt1 (D1.over st1 hs₁ S.zf1) fun x1 p1 tk1 hx1 sn1 hp1 => wpAny_pure ?_)
    replace hp1 : Heap.SameBut i1 h₁ p1 := hp1
    refine wpAny_pure ?_
    have hi2 : i = n2 := by omega
    refine wpAny_bind (wpAny_bind (wpAny_holding ?_))
    show wpAny _ _ (Builtin.SmallTypes.nextOf (.ref i2) >>= _) _ _ ⟨p1, g, d, tk1, os⟩
    refine wpAny_bind (D2.done ⟨p1, g, d, tk1, os⟩ _ _ (by rw [← hi2]; exact D2.over (D2.over st2 hs₁ S.zf2) hp1 S.sep1_2) fun q e hq he => ?_)
    replace hq : Heap.ExtBut i2 p1 q := hq
    exact hE q tk1 e (fun c o c1 c2 c3 x => hq _ _ c3 (hp1.extBut _ _ c2 (hs₁.extBut _ _ c1 x))) he
  · have hi1 : i = n1 := by omega
    refine wpAny_bind (D1.done ⟨h₁, g, d, tk0, os⟩ _ _ (by rw [← hi1]; exact D1.over st1 hs₁ S.zf1) fun q e hq he => ?_)
    replace hq : Heap.ExtBut i1 h₁ q := hq
    exact hE q tk0 e (fun c o c1 c2 _ x => hq _ _ c2 (hs₁.extBut _ _ c1 x)) he
theorem pyNext_zipH_item {Q : Option Value → Shared → Prop} (S : ZipSep2 z TI TO i1 i2 fp1 fp2) (D1 : Draws prog w A.in1 i1 fp1 n1 P1 St1) (D2 : Draws prog w A.in1 i2 fp2 n2 P2 St2)
    (hz : IsZipHeld s.heap z TI TO T f) (hT : s.heap.get? T = some oT) (hTI : IsTupOf2 s.heap TI (.ref i1) (.ref i2)) (st1 : St1 i s.heap) (st2 : St2 i s.heap) (hlt1 : i < n1) (hlt2 : i < n2)
    (hQ : ∀ x1 x2 h' tk, P1 i x1 → P2 i x2 → IsZipHeld h' z TI TO T true → St1 (i + 1) h' → St2 (i + 1) h' → IsTupOf2 h' s.heap.objs.size x1 x2 → h'.objs.size = s.heap.objs.size + 1 →
      (∀ c o, c ≠ z → c ≠ i1 → c ≠ i2 → s.heap.get? c = some o → h'.get? c = some o) → Q (some (.ref s.heap.objs.size)) { s with heap := h', toks := tk }) :
    wpAny (model prog w) A (pyNext (.ref z)) Q E s := by
  have hT' : s.TypeIs (.ref z) "zip" := ⟨_, hz, rfl⟩
  unfold pyNext
  exact wpAny_bind (wpAny_attempt (wpAny_callSpecial?_slot (name := Str.ofString "__next__") hT' F.slot_zip_next
    (wpAny_call_entry F.slot_zip_next hT' F.entry_zip_next
      (zipH_next_item S D1 D2 hz hT hTI st1 st2 hlt1 hlt2 fun x1 x2 h' tk y1 y2 b1 d1 d2 b5 b6 b7 => wpAny_pure (hQ x1 x2 h' tk y1 y2 b1 d1 d2 b5 b6 b7)) (F.args_zip_next_1 _))))
theorem pyNext_zipH_end {Q : Option Value → Shared → Prop} (S : ZipSep2 z TI TO i1 i2 fp1 fp2) (D1 : Draws prog w A.in1 i1 fp1 n1 P1 St1) (D2 : Draws prog w A.in1 i2 fp2 n2 P2 St2)
    (hz : IsZipHeld s.heap z TI TO T f) (hT : s.heap.get? T = some oT) (hTI : IsTupOf2 s.heap TI (.ref i1) (.ref i2)) (st1 : St1 i s.heap) (st2 : St2 i s.heap) (hle1 : i ≤ n1) (hle2 : i ≤ n2) (hend : i = n1 ∨ i = n2)
    (hQ : ∀ h' tk, (∀ c o, c ≠ z → c ≠ i1 → c ≠ i2 → s.heap.get? c = some o → h'.get? c = some o) → Q none { s with heap := h', toks := tk }) : wpAny (model prog w) A (pyNext (.ref z)) Q E s := by
  have hT' : s.TypeIs (.ref z) "zip" := ⟨_, hz, rfl⟩
  unfold pyNext
  refine wpAny_bind (wpAny_attempt (wpAny_callSpecial?_slot (name := Str.ofString "__next__") hT' F.slot_zip_next
    (wpAny_call_entry F.slot_zip_next hT' F.entry_zip_next (zipH_next_end S D1 D2 hz hT hTI st1 st2 hle1 hle2 hend fun h' tk e hk he => ?_) (F.args_zip_next_1 _))))
  obtain ⟨o, ho, hc⟩ := he
  refine wpAny_bind (wpAny_isInstance (T := "StopIteration") (b := true) ⟨o, ho, hc⟩ isSubtype_stop ?_)
  exact wpAny_pure (hQ _ _ hk)
/-- the zip and what it has handed out -/
structure ZAt (h0 : Heap) (z TI TO i1 i2 S : Addr) (P1 P2 : Nat → Value → Prop) (St1 St2 : Nat → Heap → Prop) (i : Nat) (acc : Array Value) (h : Heap) : Prop where
  ti : IsTupOf2 h TI (.ref i1) (.ref i2)
  st1 : St1 i h
  st2 : St2 i h
  zp : (IsZip h z TI TO .none ∧ ∃ a b, IsTupOf2 h TO a b) ∨ ∃ T f oT, IsZipHeld h z TI TO T f ∧ h.get? T = some oT ∧ T ≠ z ∧ T ≠ i1 ∧ T ≠ i2 ∧ T ≠ S
  old : ∀ b o, b ≠ S → h0.get? b = some o → h.get? b = some o
  size : acc.size = i
  to : ∃ o, h.get? TO = some o
  it : ∀ j v, acc[j]? = some v → ∃ T x1 x2, v = .ref T ∧ h0.get? T = none ∧ T ≠ S ∧ T ≠ z ∧ T ≠ TO ∧ T ≠ i1 ∧ T ≠ i2 ∧ IsTupOf2 h T x1 x2 ∧ P1 j x1 ∧ P2 j x2
  inj : ∀ (j j' : Nat) v, acc[j]? = some v → acc[j']? = some v → j = j'
theorem zip_loop {R : Result → Shared → Prop} {h0 : Heap} (Sp : ZipSep2 z TI TO i1 i2 fp1 fp2) (D1 : Draws prog w A.in1.in1 i1 fp1 n1 P1 St1) (D2 : Draws prog w A.in1.in1 i2 fp2 n2 P2 St2) {S : Addr} {res : Value} (hS1 : S ∉ fp1) (hS2 : S ∉ fp2) (hSz : S ≠ z) (hSI : S ≠ TI) (hSO : S ≠ TO)
    (hn : min n1 n2 ≤ sizeLine) (new : ∀ b, b = z ∨ b = TO ∨ b = i1 ∨ b = i2 → h0.get? b = none) :
    ∀ (k i : Nat) (s : Shared) (acc : Array Value) (c : Nat), min n1 n2 - i = k → i ≤ min n1 n2 → ZAt h0 z TI TO i1 i2 S P1 P2 St1 St2 i acc s.heap → s.heap.get? S = some { cls := .type "list", dict := none, data := .seq acc c, slots := #[] } →
    (∀ h' tk acc' c', (∀ b o, b ≠ S → h0.get? b = some o → h'.get? b = some o) → h'.get? S = some { cls := .type "list", dict := none, data := .seq acc' c', slots := #[] } → acc'.size = min n1 n2 →
      (∀ j v, acc'[j]? = some v → ∃ T x1 x2, v = .ref T ∧ h0.get? T = none ∧ T ≠ S ∧ IsTupOf2 h' T x1 x2 ∧ P1 j x1 ∧ P2 j x2) → (∀ (j j' : Nat) v, acc'[j]? = some v → acc'[j']? = some v → j = j') → R (.ok (.ret res)) { s with heap := h', toks := tk }) →
    codeAny (model prog w) A (.builtin "list.extend.loop" ⟨[.ref S, .ref z, res], []⟩) R s := by
  have h0n : ∀ {b o}, h0.get? b = some o → b ≠ z ∧ b ≠ TO ∧ b ≠ i1 ∧ b ≠ i2 := fun {b o} e => by
    have no : ¬ (b = z ∨ b = TO ∨ b = i1 ∨ b = i2) := fun q => by rw [new b q] at e; cases e
    simp only [not_or] at no
    exact no
  have Si1 : S ≠ i1 := fun e => hS1 (by rw [e]; exact Sp.mem1)
  have Si2 : S ≠ i2 := fun e => hS2 (by rw [e]; exact Sp.mem2)
  intro k
  induction k with
  | zero =>
    intro i s acc c hk hi Z hS hR
    refine codeAny_builtin F.entry_extend_loop ?_
    rw [Around.under_plainId F.plain_extend_loop _]
    show wpAny _ A.in1 (pyNext (.ref z) >>= _) _ _ s
    have fin : ∀ h' tk, (∀ c o, c ≠ z → c ≠ TO → c ≠ i1 → c ≠ i2 → s.heap.get? c = some o → h'.get? c = some o) → R (.ok (.ret res)) { s with heap := h', toks := tk } := fun h' tk kp => by
      refine hR h' tk acc c (fun b o hb e => ?_) (kp S _ hSz hSO Si1 Si2 hS) (by rw [Z.size]; omega) (fun j v e => ?_) Z.inj
      · obtain ⟨a1, a2, a3, a4⟩ := h0n e
        exact kp b o a1 a2 a3 a4 (Z.old b o hb e)
      · obtain ⟨T, x1, x2, e1, e2, e3, e4, e5, e6, e7, e8, e9, e10⟩ := Z.it j v e
        exact ⟨T, x1, x2, e1, e2, e3, kp T _ e4 e5 e6 e7 e8, e9, e10⟩
    rcases Z.zp with ⟨hz, a, b, hTO⟩ | ⟨T, f, oT, hz, hT, r1, r2, r3, r4⟩
    · exact wpAny_bind (wpAny_pyNext_zipD2_end Sp D1 D2 hz Z.ti hTO Z.st1 Z.st2 (by omega) (by omega) (by omega) fun h' tk kp => wpAny_pure (fin h' tk kp))
    · exact wpAny_bind (pyNext_zipH_end Sp D1 D2 hz hT Z.ti Z.st1 Z.st2 (by omega) (by omega) (by omega) fun h' tk kp => wpAny_pure (fin h' tk fun c o c1 _ c3 c4 e => kp c o c1 c3 c4 e))
  | succ k ih =>
    intro i s acc c hk hi Z hS hR
    have hlt1 : i < n1 := by omega
    have hlt2 : i < n2 := by omega
    refine codeAny_builtin F.entry_extend_loop ?_
    rw [Around.under_plainId F.plain_extend_loop _]
    show wpAny _ A.in1 (pyNext (.ref z) >>= _) _ _ s
    have lt : ∀ {c o}, s.heap.get? c = some o → s.heap.objs.size ≠ c := fun e => Nat.ne_of_gt (Heap.lt_size e)
    have li1 : s.heap.objs.size ≠ i1 := by obtain ⟨_, e⟩ := D1.live _ _ Z.st1; exact lt e
    have li2 : s.heap.objs.size ≠ i2 := by obtain ⟨_, e⟩ := D2.live _ _ Z.st2; exact lt e
    have lS : s.heap.objs.size ≠ S := lt hS
    have new0 : h0.get? s.heap.objs.size = none := by
      cases q : h0.get? s.heap.objs.size with
      | none => rfl
      | some o => exact absurd rfl (lt (Z.old _ o lS q))
    have go : ∀ x1 x2 h' tk, P1 i x1 → P2 i x2 → s.heap.objs.size ≠ z → s.heap.objs.size ≠ TO → (∃ T f oT, IsZipHeld h' z TI TO T f ∧ h'.get? T = some oT ∧ T ≠ z ∧ T ≠ i1 ∧ T ≠ i2 ∧ T ≠ S) → St1 (i + 1) h' → St2 (i + 1) h' → IsTupOf2 h' s.heap.objs.size x1 x2 → (∃ o, h'.get? TO = some o) →
        (∀ c o, c ≠ z → c ≠ TO → c ≠ i1 → c ≠ i2 → s.heap.get? c = some o → h'.get? c = some o) →
        wpAny (model prog w) A.in1 (updateSeq S (·.push (.ref s.heap.objs.size)) >>= fun _ => again (.builtin "list.extend.loop" ⟨[.ref S, .ref z, res], []⟩))
          (fun fin s' => match fin with | .done f => R (.ok f) s' | .again c' => c'.quiet = true ∧ codeAny (model prog w) A c' R s') (fun e s' => R (.error e) s') { s with heap := h', toks := tk } := by
      intro x1 x2 h' tk y1 y2 lz lO ⟨T, f, oT, hz, hT, r1, r2, r3, r4⟩ d1 d2 hN ⟨oTO, hTO'⟩ kp
      have hS' := kp S _ hSz hSO Si1 Si2 hS
      refine wpAny_bind ?_
      have up : ∀ b o, b ≠ S → h'.get? b = some o → (h'.update S (Obj.mapSeq (·.push (Value.ref s.heap.objs.size)))).get? b = some o := fun b o hb e => (Heap.get?_update_other _ _ (Ne.symm hb)).trans e
      have hto' : ∃ o, (h'.update S (Obj.mapSeq (·.push (Value.ref s.heap.objs.size)))).get? TO = some o := ⟨oTO, up _ _ (Ne.symm hSO) hTO'⟩
      have hnew : ∀ j, acc[j]? ≠ some (Value.ref s.heap.objs.size) := fun j e => by
        obtain ⟨T, x1, x2, e1, e2, e3, e4, e5, e6, e7, e8, e9, e10⟩ := Z.it j _ e
        cases e1
        exact absurd rfl (lt e8)
      have hinj : ∀ (j j' : Nat) v, (acc.push (Value.ref s.heap.objs.size))[j]? = some v → (acc.push (Value.ref s.heap.objs.size))[j']? = some v → j = j' := by
        intro j j' v e e'
        rw [Array.getElem?_push] at e e'
        split at e <;> split at e'
        · rename_i a b; rw [a, b]
        · cases e; exact absurd e' (hnew j')
        · cases e'; exact absurd e (hnew j)
        · exact Z.inj j j' v e e'
      refine wpAny_updateSeq hS' rfl (wpAny_pure ⟨plainId_quiet F.plain_extend_loop _, ih (i + 1) _ (acc.push (.ref s.heap.objs.size)) _ (by omega) (by omega) ?_ (Heap.get?_update_self _ hS' rfl) fun h'' tk' acc' c' a1 a2 a3 a4 a5 => hR h'' tk' acc' c' a1 a2 a3 a4 a5⟩) (by rw [Z.size]; omega) (by show (acc.push _).size ≤ sizeLine + 1; rw [Array.size_push, Z.size]; omega)
      refine ⟨up _ _ (Ne.symm hSI) (kp _ _ Sp.TIz Sp.TITO Sp.TIi1 Sp.TIi2 Z.ti), D1.frame _ _ _ d1 fun b hb o e => up b o (fun q => hS1 (q ▸ hb)) e, D2.frame _ _ _ d2 fun b hb o e => up b o (fun q => hS2 (q ▸ hb)) e,
        .inr ⟨T, f, oT, up _ _ (Ne.symm hSz) hz, up _ _ r4 hT, r1, r2, r3, r4⟩, fun b o hb e => ?_, by rw [Array.size_push, Z.size], hto', fun j v e => ?_, hinj⟩
      · obtain ⟨a1, a2, a3, a4⟩ := h0n e
        exact up b o hb (kp b o a1 a2 a3 a4 (Z.old b o hb e))
      · rw [Array.getElem?_push] at e
        split at e
        · rename_i ej
          rw [Z.size] at ej
          cases e
          subst ej
          exact ⟨_, x1, x2, rfl, new0, lS, lz, lO, li1, li2, up _ _ lS hN, y1, y2⟩
        · obtain ⟨T, x1, x2, e1, e2, e3, e4, e5, e6, e7, e8, e9, e10⟩ := Z.it j v e
          exact ⟨T, x1, x2, e1, e2, e3, e4, e5, e6, e7, up _ _ e3 (kp T _ e4 e5 e6 e7 e8), e9, e10⟩
    rcases Z.zp with ⟨hz, a, b, hTO⟩ | ⟨T, f, oT, hz, hT, r1, r2, r3, r4⟩
    · refine wpAny_bind (wpAny_pyNext_zipD2_item Sp D1 D2 hz Z.ti hTO Z.st1 Z.st2 hlt1 hlt2 fun x1 x2 h' tk y1 y2 b1 b2 d1 d2 b5 b6 kp => ?_)
      exact go x1 x2 h' tk y1 y2 (lt hz) (lt hTO) ⟨s.heap.objs.size, false, _, b1, b5, lt hz, li1, li2, lS⟩ d1 d2 b5 ⟨_, b2⟩ kp
    · refine wpAny_bind (pyNext_zipH_item Sp D1 D2 hz hT Z.ti Z.st1 Z.st2 hlt1 hlt2 fun x1 x2 h' tk y1 y2 b1 d1 d2 b5 b6 kp => ?_)
      obtain ⟨oTO, hTO⟩ := Z.to
      exact go x1 x2 h' tk y1 y2 (lt hz) (lt hTO) ⟨T, true, oT, b1, kp _ _ r1 r2 r3 hT, r1, r2, r3, r4⟩ d1 d2 b5 ⟨oTO, kp _ _ Sp.TOz Sp.Ti1 Sp.Ti2 hTO⟩ fun c o c1 _ c3 c4 e => kp c o c1 c3 c4 e

theorem zip_extend {R : Result → Shared → Prop} {h0 : Heap} (Sp : ZipSep2 z TI TO i1 i2 fp1 fp2) (D1 : Draws prog w A.in1.in1 i1 fp1 n1 P1 St1) (D2 : Draws prog w A.in1.in1 i2 fp2 n2 P2 St2) {S : Addr} {res : Value} {c₀ : Nat} (hS1 : S ∉ fp1) (hS2 : S ∉ fp2) (hSz : S ≠ z) (hSI : S ≠ TI) (hSO : S ≠ TO)
    (hn : min n1 n2 ≤ sizeLine) (new : ∀ b, b = z ∨ b = TO ∨ b = i1 ∨ b = i2 → h0.get? b = none) (hz : IsZip s.heap z TI TO .none) (Z : ZAt h0 z TI TO i1 i2 S P1 P2 St1 St2 0 #[] s.heap) (hS : s.heap.get? S = some { cls := .type "list", data := .seq #[] c₀ })
    (hR : ∀ h' tk acc' c', (∀ b o, b ≠ S → h0.get? b = some o → h'.get? b = some o) → h'.get? S = some { cls := .type "list", dict := none, data := .seq acc' c', slots := #[] } → acc'.size = min n1 n2 →
      (∀ j v, acc'[j]? = some v → ∃ T x1 x2, v = .ref T ∧ h0.get? T = none ∧ T ≠ S ∧ IsTupOf2 h' T x1 x2 ∧ P1 j x1 ∧ P2 j x2) → (∀ (j j' : Nat) v, acc'[j]? = some v → acc'[j']? = some v → j = j') → R (.ok (.ret res)) { s with heap := h', toks := tk }) :
    wpAny (model prog w) A.in1 (Builtin.List.listExtendWith (.ref S) (.ref z) res)
      (fun fin s' => match fin with | .done f => R (.ok f) s' | .again c' => c'.quiet = true ∧ codeAny (model prog w) A c' R s') (fun e s' => R (.error e) s') s := by
  have hT : s.TypeIs (.ref z) "zip" := ⟨_, hz, rfl⟩
  unfold Builtin.List.listExtendWith
  refine wpAny_bind (wpAny_typeOf hT ?_)
  have h1 : Builtin.List.listSameRef (.ref S) (.ref z) = false := by simp [Builtin.List.listSameRef, hSz]
  have h2 : (Value.type "zip" == Value.type "list") = false := by decide
  have h3 : (Value.type "zip" == Value.type "tuple") = false := by decide
  simp only [h1, h2, h3, Bool.or_false, Bool.false_eq_true, if_false]
  refine wpAny_bind (wpAny_pyIter_zip hz ?_)
  refine wpAny_bind (wpAny_holding ?_)
  unfold Builtin.List.listLengthHint
  refine wpAny_bind (wpAny_specialOf hT f2_zip_no_len ?_)
  show wpAny _ A.in1 (specialOf (Value.ref z) (Str.ofString "__length_hint__") >>= _) _ _ _
  refine wpAny_bind (wpAny_specialOf hT f2_zip_no_hint ?_)
  refine wpAny_pure ?_
  show wpAny _ A.in1 (rule "list.extend.makes-room" >>= fun _ => Builtin.List.listTouch (.ref S) >>= fun _ =>
    again (.builtin "list.extend.loop" ⟨[.ref S, .ref z, res], []⟩)) _ _ _
  refine wpAny_bind (wpAny_rule ?_)
  refine wpAny_bind ?_
  show wpAny _ A.in1 (updateSeq S (·.push .none) >>= fun _ => updateSeq S (·.pop)) _ _ _
  refine wpAny_bind (wpAny_updateSeq hS rfl ?_)
  have hS₂ := Heap.get?_update_self (Obj.mapSeq (·.push Value.none)) hS rfl
  refine wpAny_updateSeq (hz := by seq_fits) hS₂ rfl ?_
  have hS₃ := Heap.get?_update_self (Obj.mapSeq (·.pop)) hS₂ rfl
  have oth : ∀ b o, b ≠ S → s.heap.get? b = some o → ((s.heap.update S (Obj.mapSeq (·.push Value.none))).update S (Obj.mapSeq (·.pop))).get? b = some o :=
    fun b o hb e => (Heap.get?_update_other _ _ (Ne.symm hb)).trans ((Heap.get?_update_other _ _ (Ne.symm hb)).trans e)
  refine wpAny_pure ⟨plainId_quiet F.plain_extend_loop _, zip_loop Sp D1 D2 hS1 hS2 hSz hSI hSO hn new (min n1 n2) 0 _ #[] _ rfl (Nat.zero_le _) ?_ hS₃ fun h' tk acc' c' a1 a2 a3 a4 a5 => hR h' tk acc' c' a1 a2 a3 a4 a5⟩
  obtain ⟨oTO, hTO⟩ := Z.to
  have zp0 : ∃ a b, IsTupOf2 s.heap TO a b := by
    rcases Z.zp with ⟨_, q⟩ | ⟨T, f, oT, q, _⟩
    · exact q
    · have e : some _ = some _ := hz.symm.trans q
      simp at e
      exact absurd e.1 (by simp [rawInt])
  obtain ⟨a, b, hab⟩ := zp0
  exact ⟨oth _ _ (Ne.symm hSI) Z.ti, D1.frame _ _ _ Z.st1 fun b hb o e => oth b o (fun q => hS1 (q ▸ hb)) e, D2.frame _ _ _ Z.st2 fun b hb o e => oth b o (fun q => hS2 (q ▸ hb)) e, .inl ⟨oth _ _ (Ne.symm hSz) hz, a, b, oth _ _ (Ne.symm hSO) hab⟩,
    fun b o hb e => oth b o hb (Z.old b o hb e), rfl, ⟨oTO, oth _ _ (Ne.symm hSO) hTO⟩, fun j v e => by simp at e, fun j j' v e => by simp at e⟩
theorem zip_init {R : Result → Shared → Prop} {h0 : Heap} (Sp : ZipSep2 z TI TO i1 i2 fp1 fp2) (D1 : Draws prog w A.in1.in1 i1 fp1 n1 P1 St1) (D2 : Draws prog w A.in1.in1 i2 fp2 n2 P2 St2) {S : Addr} (hS1 : S ∉ fp1) (hS2 : S ∉ fp2) (hSz : S ≠ z) (hSI : S ≠ TI) (hSO : S ≠ TO)
    (hn : min n1 n2 ≤ sizeLine) (new : ∀ b, b = z ∨ b = TO ∨ b = i1 ∨ b = i2 → h0.get? b = none) (hz : IsZip s.heap z TI TO .none) {a b : Value} (hTI : IsTupOf2 s.heap TI (.ref i1) (.ref i2)) (hTO : IsTupOf2 s.heap TO a b) (st1 : St1 0 s.heap) (st2 : St2 0 s.heap) (old : ∀ b o, b ≠ S → h0.get? b = some o → s.heap.get? b = some o) (hS : s.heap.get? S = some { cls := .type "list", data := .seq #[] })
    (hR : ∀ h' tk acc' c', (∀ b o, b ≠ S → h0.get? b = some o → h'.get? b = some o) → h'.get? S = some { cls := .type "list", dict := none, data := .seq acc' c', slots := #[] } → acc'.size = min n1 n2 →
      (∀ j v, acc'[j]? = some v → ∃ T x1 x2, v = .ref T ∧ h0.get? T = none ∧ T ≠ S ∧ IsTupOf2 h' T x1 x2 ∧ P1 j x1 ∧ P2 j x2) → (∀ (j j' : Nat) v, acc'[j]? = some v → acc'[j']? = some v → j = j') → R (.ok (.ret .none)) { s with heap := h', toks := tk }) :
    wpAny (model prog w) A.in1 (Builtin.«list.__init__» ⟨[.ref S, .ref z], []⟩)
      (fun fin s' => match fin with | .done f => R (.ok f) s' | .again c' => c'.quiet = true ∧ codeAny (model prog w) A c' R s') (fun e s' => R (.error e) s') s := by
  show wpAny _ A.in1 (do let old ← Builtin.List.listItems (.ref S); Builtin.List.listUpdate (.ref S) (fun _ => #[]); letGo old.toList.reverse; Builtin.List.listExtendWith (.ref S) (.ref z) .none) _ _ s
  refine wpAny_bind ?_
  unfold Builtin.List.listItems
  refine wpAny_bind (wpAny_seqItems hS rfl (wpAny_pure ?_))
  show wpAny _ A.in1 (updateSeq S (fun _ => #[]) >>= fun _ => letGo (#[] : Array Value).toList.reverse >>= fun _ => Builtin.List.listExtendWith (.ref S) (.ref z) .none) _ _ s
  refine wpAny_bind (wpAny_updateSeq hS rfl ?_)
  have hS₂ := Heap.get?_update_self (Obj.mapSeq (fun _ => (#[] : Array Value))) hS rfl
  have oth : ∀ b o, b ≠ S → s.heap.get? b = some o → (s.heap.update S (Obj.mapSeq (fun _ => (#[] : Array Value)))).get? b = some o :=
    fun b o hb e => (Heap.get?_update_other _ _ (Ne.symm hb)).trans e
  refine wpAny_bind (wpAny_letGo ?_)
  refine zip_extend Sp D1 D2 hS1 hS2 hSz hSI hSO hn new (oth _ _ (Ne.symm hSz) hz) ?_ hS₂ fun h' tk acc' c' a1 a2 a3 a4 a5 => hR h' tk acc' c' a1 a2 a3 a4 a5
  exact ⟨oth _ _ (Ne.symm hSI) hTI, D1.frame _ _ _ st1 fun b hb o e => oth b o (fun q => hS1 (q ▸ hb)) e, D2.frame _ _ _ st2 fun b hb o e => oth b o (fun q => hS2 (q ▸ hb)) e, .inl ⟨oth _ _ (Ne.symm hSz) hz, a, b, oth _ _ (Ne.symm hSO) hTO⟩,
    fun b o hb e => oth b o hb (old b o hb e), rfl, ⟨_, oth _ _ (Ne.symm hSO) hTO⟩, fun j v e => by simp at e, fun j j' v e => by simp at e⟩
theorem zip_list {Q : Value → Shared → Prop} {h0 : Heap} (Sp : ZipSep2 z TI TO i1 i2 fp1 fp2) (D1 : Draws prog w A.in1.in1.in1 i1 fp1 n1 P1 St1) (D2 : Draws prog w A.in1.in1.in1 i2 fp2 n2 P2 St2) (l1 : ∀ b ∈ fp1, b < s.heap.objs.size) (l2 : ∀ b ∈ fp2, b < s.heap.objs.size)
    (hn : min n1 n2 ≤ sizeLine) (new : ∀ b, b = z ∨ b = TO ∨ b = i1 ∨ b = i2 → h0.get? b = none) (hz : IsZip s.heap z TI TO .none) {a b : Value} (hTI : IsTupOf2 s.heap TI (.ref i1) (.ref i2)) (hTO : IsTupOf2 s.heap TO a b) (st1 : St1 0 s.heap) (st2 : St2 0 s.heap) (old : ∀ b o, h0.get? b = some o → s.heap.get? b = some o)
    (hQ : ∀ h' tk acc' c', (∀ b o, h0.get? b = some o → h'.get? b = some o) → h'.get? s.heap.objs.size = some { cls := .type "list", dict := none, data := .seq acc' c', slots := #[] } → acc'.size = min n1 n2 →
      (∀ j v, acc'[j]? = some v → ∃ T x1 x2, v = .ref T ∧ h0.get? T = none ∧ T ≠ s.heap.objs.size ∧ IsTupOf2 h' T x1 x2 ∧ P1 j x1 ∧ P2 j x2) → (∀ (j j' : Nat) v, acc'[j]? = some v → acc'[j']? = some v → j = j') → Q (.ref s.heap.objs.size) { s with heap := h', toks := tk }) :
    wpAny (model prog w) A (call (.type "list") [.ref z]) Q E s := by
  refine callType_codes (Q₁ := fun obj s₁ => obj = .ref s.heap.objs.size ∧ s₁ = { s with heap := s.heap.push { cls := .type "list", data := .seq #[] } }) PySem.F.called_list (PySem.F.typeCall_list_1 _) PySem.F.entry_list_init
    (code_list_new _ ⟨rfl, rfl⟩) fun obj s₁ h₁ => ?_
  obtain ⟨rfl, rfl⟩ := h₁
  have hS : (s.heap.push { cls := .type "list", data := .seq #[] }).get? s.heap.objs.size = some { cls := .type "list", data := .seq #[] } := Heap.get?_push_size _ rfl
  have up : ∀ b o, s.heap.get? b = some o → (s.heap.push { cls := .type "list", data := .seq #[] }).get? b = some o := fun b o e => Heap.get?_push_of_some _ e
  have ne : ∀ {b o}, s.heap.get? b = some o → s.heap.objs.size ≠ b := fun e => Nat.ne_of_gt (Heap.lt_size e)
  refine ⟨⟨_, hS, rfl⟩, PySem.F.args_list_init_2 _ _, zip_init (A := A.in1) (h0 := h0) Sp D1 D2 (fun hm => Nat.lt_irrefl _ (l1 _ hm)) (fun hm => Nat.lt_irrefl _ (l2 _ hm)) (ne hz) (ne hTI) (ne hTO) hn new (up _ _ hz) (up _ _ hTI) (up _ _ hTO) (D1.frame _ _ _ st1 fun b _ o e => up b o e) (D2.frame _ _ _ st2 fun b _ o e => up b o e)
    (fun b o _ e => up b o (old b o e)) hS fun h' tk acc' c' a1 a2 a3 a4 a5 => ⟨rfl, hQ h' tk acc' c' (fun b o e => a1 b o (Ne.symm (ne (old b o e))) e) a2 a3 a4 a5⟩⟩
end
end PySem
set_option Elab.async false
set_option linter.all false
set_option maxRecDepth 100000
set_option maxHeartbeats 4000000
namespace F2
open PySem PySem.Spec PyProof.Rows L2
open PySem.W (Frag)
/-- what can be zipped: how its iterator begins, and what it draws -/
structure SeqArg (prog : Program) (w : World) (s : Shared) (a : Addr) (its : List Value) : Prop where
  go : ∃ (ob : Obj) (Hq : Heap → Prop), Begins (.ref a) ob Hq ∧ Hq s.heap ∧ ∀ (A : Around) (it : Addr), A.handled = none → a ≠ it → ∃ St : Nat → Heap → Prop, Draws prog w A it [it, a] its.length (fun i v => its[i]? = some v) St ∧ ∀ h : Heap, h.get? it = some ob → Hq h → St 0 h
  lt : a < s.heap.objs.size
section
variable {X : Cx} {pins : List (Addr × Obj)} {σ : L2.St} {H : Hp} {s : Shared} {a : Addr} {xs : List V}
theorem seqArg (I : Inv X pins σ H s) (h : SqL X.K H a xs ∨ SqT X.K H a xs) : ∃ its : List Value, Vals xs its ∧ SeqArg X.prog X.w s a its ∧ xs.length ≤ sizeLine := by
  rcases h with h | h
  · obtain ⟨its, rv, p, z⟩ := I.list h
    refine ⟨its, rv, ⟨⟨_, _, begins_list a its.toArray, p.isList, fun A it hh ne => ⟨fun i h => h.IsListIter it a i ∧ h.IsList a its.toArray, by simpa using Draws.list (prog := X.prog) (w := X.w) hh it a ne its.toArray, fun h e q => ⟨⟨_, e, rfl, rfl⟩, q⟩⟩⟩, p.lt⟩, z⟩
  · obtain ⟨its, rv, p, z⟩ := I.tuple h
    refine ⟨its, rv, ⟨⟨_, _, begins_tuple a its.toArray, p, fun A it hh ne => ⟨fun i h => h.IsTupleIter it a i ∧ h.IsTuple a its.toArray, by simpa using Draws.tuple (prog := X.prog) (w := X.w) hh it a ne its.toArray, fun h e q => ⟨⟨_, e, rfl, rfl⟩, q⟩⟩⟩, p.lt⟩, z⟩
end
/-- many new objects -/
def updL (H : Hp) : List (Addr × HO) → Hp
  | [] => H
  | p :: r => updL (upd H p.1 p.2) r
section
variable {X : Cx} {pins : List (Addr × Obj)} {σ : L2.St}
theorem updL_none : ∀ {L : List (Addr × HO)} {H : Hp} {b : Addr}, (∀ p ∈ L, p.1 ≠ b) → updL H L b = H b
  | [], _, _, _ => rfl
  | p :: r, H, b, h => by
    show updL (upd H p.1 p.2) r b = _
    rw [updL_none fun q hq => h q (List.mem_cons_of_mem _ hq)]
    exact upd_ne (Ne.symm (h p List.mem_cons_self))
theorem laidMany : ∀ {L : List (Addr × HO)} {H : Hp} {s : Shared} {h' : Heap} {t' : Nat}, Inv X pins σ H s → (∀ b u, s.heap.get? b = some u → h'.get? b = some u) → (∀ p ∈ L, s.heap.get? p.1 = none ∧ H p.1 = none) → (L.map (·.1)).Nodup →
    (∀ p ∈ L, ∀ (H2 : Hp) (h2 : Heap), (∀ o, h'.get? p.1 = some o → h2.get? p.1 = some o) → ObjOk X.prog X.w H2 h2 p.1 p.2) → Inv X pins σ (updL H L) { s with heap := h', toks := t' }
  | [], H, s, h', t', I, k, _, _, _ => I.kept k
  | p :: r, H, s, h', t', I, k, nw, nd, ob => by
    obtain ⟨G, g1, g2⟩ := restrict h' fun b => decide (b = p.1) || (s.heap.get? b).isSome
    have gp : G.get? p.1 = h'.get? p.1 := g1 p.1 (by simp)
    have kk : ∀ b u, s.heap.get? b = some u → G.get? b = some u := fun b u e => by
      rw [g1 b (by rw [e]; simp)]; exact k b u e
    obtain ⟨n1, n2⟩ := nw p List.mem_cons_self
    rw [List.map_cons, List.nodup_cons] at nd
    have I1 : Inv X pins σ (upd H p.1 p.2) { s with heap := G, toks := s.toks } := I.laidN kk n1 n2 (ob p List.mem_cons_self _ _ fun o e => by rw [gp]; exact e)
    have I2 := laidMany (L := r) (h' := h') (t' := t') I1 (fun b u e => by
      have e : G.get? b = some u := e
      by_cases c : (decide (b = p.1) || (s.heap.get? b).isSome) = true
      · rw [g1 b c] at e; exact e
      · rw [g2 b (by simpa using c)] at e; cases e) (fun q hq => by
      have ne : q.1 ≠ p.1 := fun z => nd.1 (by rw [← z]; exact List.mem_map_of_mem hq)
      obtain ⟨m1, m2⟩ := nw q (List.mem_cons_of_mem _ hq)
      refine ⟨?_, by rw [upd_ne ne]; exact m2⟩
      show G.get? q.1 = none
      exact g2 q.1 (by simp [ne, m1])) nd.2 fun q hq => ob q (List.mem_cons_of_mem _ hq)
    exact I2
/-- the pairs of a zip -/
def prs : List Addr → List V → List V → List (Addr × HO)
  | T :: Ts, x :: xs, y :: ys => (T, .tup [x, y]) :: prs Ts xs ys
  | _, _, _ => []
theorem prs_fst : ∀ {Ts : List Addr} {xs ys : List V}, Ts.length = min xs.length ys.length → (prs Ts xs ys).map (·.1) = Ts
  | [], _, _, _ => by simp [prs]
  | T :: Ts, [], _, h => by simp at h
  | T :: Ts, x :: xs, [], h => by simp at h
  | T :: Ts, x :: xs, y :: ys, h => by
    simp only [prs, List.map_cons]
    rw [prs_fst (by simp at h ⊢; omega)]
theorem prs_mem : ∀ {Ts : List Addr} {xs ys : List V} {p : Addr × HO}, p ∈ prs Ts xs ys → ∃ (j : Nat) (x y : V), Ts[j]? = some p.1 ∧ xs[j]? = some x ∧ ys[j]? = some y ∧ p.2 = .tup [x, y]
  | T :: Ts, x :: xs, y :: ys, p, h => by
    simp only [prs, List.mem_cons] at h
    rcases h with h | h
    · subst h; exact ⟨0, x, y, rfl, rfl, rfl, rfl⟩
    · obtain ⟨j, u, v, h1, h2, h3, h4⟩ := prs_mem h
      exact ⟨j + 1, u, v, by simpa using h1, by simpa using h2, by simpa using h3, h4⟩
  | [], _, _, p, h => by simp [prs] at h
  | _ :: _, [], _, p, h => by simp [prs] at h
  | _ :: _, _ :: _, [], p, h => by simp [prs] at h
theorem sep2_of (n a b : Nat) (la : a < n) (lb : b < n) : ZipSep2 (n + 4) (n + 2) (n + 3) n (n + 1) [n, a] [n + 1, b] := by
  have d : ∀ x y : Nat, x < y ∨ y < x → x ≠ y := fun x y h => by omega
  have ni : ∀ x y u : Nat, (x < y ∨ y < x) → (x < u ∨ u < x) → x ∉ [y, u] := fun x y u h1 h2 z => by
    rcases List.mem_cons.mp z with z | z
    · omega
    · have := List.mem_singleton.mp z
      omega
  exact {
    TIz := d (n + 2) (n + 4) (by omega)
    TOz := d (n + 3) (n + 4) (by omega)
    TITO := d (n + 2) (n + 3) (by omega)
    TIi1 := d (n + 2) n (by omega)
    mem1 := by simp
    zf1 := ni (n + 4) n a (by omega) (by omega)
    Tf1 := ni (n + 3) n a (by omega) (by omega)
    TIi2 := d (n + 2) (n + 1) (by omega)
    mem2 := by simp
    zf2 := ni (n + 4) (n + 1) b (by omega) (by omega)
    Tf2 := ni (n + 3) (n + 1) b (by omega) (by omega)
    sep1_2 := ni n (n + 1) b (by omega) (by omega)
    sep2_1 := ni (n + 1) n a (by omega) (by omega) }
theorem far4 (n c : Nat) (h : c < n) : ¬ (c = n + 4 ∨ c = n + 3 ∨ c = n ∨ c = n + 1) := by omega
theorem low2 (n m a c : Nat) (hm : m ≤ n + 1) (ha : a < n) (h : c ∈ [m, a]) : c < n + 5 := by
  rcases List.mem_cons.mp h with r | r
  · omega
  · have := List.mem_singleton.mp r
    omega
def tZipL (K : Frag) (ta : TA) : TE := fun σ H Q => ta σ H fun vs H1 => ∃ a b xs ys, vs = [.ref a, .ref b] ∧ (SqL K H1 a xs ∨ SqT K H1 a xs) ∧ (SqL K H1 b ys ∨ SqT K H1 b ys) ∧
  ∀ (Ts : List Addr) (S : Addr), Ts.length = min xs.length ys.length → Ts.Nodup → (∀ T ∈ Ts, H1 T = none) → H1 S = none → S ∉ Ts → Q (.ref S) (upd (updL H1 (prs Ts xs ys)) S (.lst (Ts.map V.ref)))
theorem refs_of : ∀ (l : List Value), (∀ v ∈ l, ∃ T, v = Value.ref T) → ∃ Ts : List Addr, l = Ts.map Value.ref
  | [], _ => ⟨[], rfl⟩
  | v :: l, h => by
    obtain ⟨T, rfl⟩ := h v List.mem_cons_self
    obtain ⟨Ts, rfl⟩ := refs_of l fun u hu => h u (List.mem_cons_of_mem _ hu)
    exact ⟨T :: Ts, rfl⟩
theorem vals_refs : ∀ (Ts : List Addr), Vals (Ts.map V.ref) (Ts.map Value.ref)
  | [] => .nil
  | T :: Ts => .cons rfl (vals_refs Ts)
theorem pe_zipL {e e2 : Expr} {ta : TA} {p p2 pos q : Pos} (hc : X.calm = true) (hg0 : Gl X "list") (hm0 : X.mg "list" = none) (hg : Gl X "zip") (hm : X.mg "zip" = none) (ha : PA X [e, e2] ta)
    (hs : starEach [e, e2] X.env = (false, eval e X.env) :: starEach [e2] X.env) (hpl : (backTo pos (starEach [e2] X.env)).any (·.1) = false) 
    (hs2 : starEach [.Call (.Name "zip" p) [e, e2] [] pos] X.env = (false, eval (.Call (.Name "zip" p) [e, e2] [] pos) X.env) :: starEach [] X.env) :
    PE X (.Call (.Name "list" p2) [.Call (.Name "zip" p) [e, e2] [] pos] [] q) (tZipL X.K ta) := by
  refine ⟨fun pins s σ H Q I h => ?_⟩
  refine Call_ (ld_blt I hg0 hm0 PyProof.Rows.boot_list ?_)
  refine PyProof.Rows.callWith_type1 (PyProof.Rows.args_cons ?_ hs2) hs2 rfl
  refine Call_ (ld_blt I hg hm PyProof.Rows.boot_zip (PyProof.Rows.callWith_type1 (thn (ha.run pos pins s σ H _ I h) fun us s1 ⟨vs, H1, I1, r1, q1⟩ => ?_) hs hpl))
  obtain ⟨a, b, xs, ys, ex, hqx, hqy, q⟩ := q1
  subst ex
  cases r1 with
  | cons r rr =>
    cases rr with
    | cons r' rr =>
      cases rr
      cases r
      cases r'
      obtain ⟨its, rv, ⟨⟨o1, K1, B1, k1, dr1⟩, la⟩, z1⟩ := seqArg I1 hqx
      obtain ⟨its2, rv2, ⟨⟨o2, K2, B2, k2, dr2⟩, lb⟩, z2⟩ := seqArg I1 hqy
      refine zip_begins2 B1 B2 k1 k2 fun h' hz hTI hTO h1 h2 hsz hk => ?_
      refine PyProof.Rows.args_nil ?_
      generalize en : s1.heap.objs.size = n at *
      have hd : X.A.handled = none := I1.ok.hd hc
      obtain ⟨St1, D1, d1⟩ := dr1 X.A.in1.in1.in1 n hd (Nat.ne_of_lt la)
      obtain ⟨St2, D2, d2⟩ := dr2 X.A.in1.in1.in1 (n + 1) hd (Nat.ne_of_lt (Nat.lt_succ_of_lt lb))
      have Sp := sep2_of n a b la lb
      have new : ∀ c, c = n + 4 ∨ c = n + 3 ∨ c = n ∨ c = n + 1 → s1.heap.get? c = none := fun c hc => by
        cases z : s1.heap.get? c with
        | none => rfl
        | some o =>
          have := Heap.lt_size z
          rw [en] at this
          exact absurd hc (far4 n c this)
      refine zip_list (h0 := s1.heap) Sp D1 D2 (fun c hc => ?_) (fun c hc => ?_) (by rw [← rv.length]; omega) new hz hTI hTO (d1 _ h1 (B1.keeps _ _ k1 hk)) (d2 _ h2 (B2.keeps _ _ k2 hk)) hk fun h'' tk acc c' a1 a2 a3 a4 a5 => ?_
      · rw [hsz]; exact low2 n n a c (Nat.le_succ _) la hc
      · rw [hsz]; exact low2 n (n + 1) b c (Nat.le_refl _) lb hc
      · obtain ⟨Ts, eT⟩ := refs_of acc.toList fun v hv => by
          obtain ⟨j, hj⟩ := List.mem_iff_getElem?.mp hv
          obtain ⟨T, _, _, e, _⟩ := a4 j v (by simpa using hj)
          exact ⟨T, e⟩
        have hat : ∀ j T, Ts[j]? = some T → acc[j]? = some (Value.ref T) := fun j T e => by
          rw [← Array.getElem?_toList, eT, List.getElem?_map, e]; rfl
        have hl : Ts.length = min xs.length ys.length := by
          have e : acc.toList.length = Ts.length := by rw [eT, List.length_map]
          rw [Array.length_toList, a3, ← rv.length, ← rv2.length] at e
          exact e.symm
        have hnd : Ts.Nodup := List.pairwise_iff_getElem.mpr fun j j' hj hj' hlt e => by
          have := a5 j j' _ (hat j _ (List.getElem?_eq_getElem hj)) (by rw [hat j' _ (List.getElem?_eq_getElem hj'), e])
          omega
        have hmem : ∀ T ∈ Ts, ∃ j, Ts[j]? = some T := fun T hT => List.mem_iff_getElem?.mp hT
        have hH : ∀ c, s1.heap.get? c = none → H1 c = none := fun c z => I1.hok.gone z
        have hnew : ∀ T ∈ Ts, s1.heap.get? T = none ∧ T ≠ h'.objs.size := fun T hT => by
          obtain ⟨j, hj⟩ := hmem T hT
          obtain ⟨T', x1, x2, e1, e2, e3, e4, e5, e6⟩ := a4 j _ (hat j T hj)
          cases e1
          exact ⟨e2, e3⟩
        have hS0 : s1.heap.get? h'.objs.size = none := by
          cases z : s1.heap.get? h'.objs.size with
          | none => rfl
          | some o => exact absurd (Heap.lt_size (hk _ _ z)) (Nat.lt_irrefl _)
        have fin := q Ts h'.objs.size hl hnd (fun T hT => hH T (hnew T hT).1) (hH _ hS0) (fun hm => (hnew _ hm).2 rfl)
        have lenT : Ts.length ≤ sizeLine := by rw [hl]; omega
        refine ⟨.ref h'.objs.size, _, ?_, rfl, fin⟩
        have I2 : Inv X pins σ (updL H1 (prs Ts xs ys ++ [(h'.objs.size, .lst (Ts.map V.ref))])) { s1 with heap := h'', toks := tk } := by
          refine laidMany I1 a1 (fun p hp => ?_) ?_ fun p hp H2 h2 kp => ?_
          · rcases List.mem_append.mp hp with hp | hp
            · obtain ⟨j, x, y, e1, _⟩ := prs_mem hp
              have := (hnew p.1 (List.mem_of_getElem? e1)).1
              exact ⟨this, hH _ this⟩
            · rw [List.mem_singleton.mp hp]; exact ⟨hS0, hH _ hS0⟩
          · rw [List.map_append, prs_fst hl]
            refine List.nodup_append.mpr ⟨hnd, by simp, fun T hT c hc => ?_⟩
            simp only [List.map_cons, List.map_nil, List.mem_singleton] at hc
            rw [hc]; exact (hnew T hT).2
          · rcases List.mem_append.mp hp with hp | hp
            · obtain ⟨j, x, y, e1, e2, e3, e4⟩ := prs_mem hp
              obtain ⟨T', x1, x2, f1, f2, f3, f4, f5, f6⟩ := a4 j _ (hat j p.1 e1)
              cases f1
              rw [e4]
              obtain ⟨u1, g1, r1⟩ := rv.get e2
              obtain ⟨u2, g2, r2⟩ := rv2.get e3
              have f5' : its[j]? = some x1 := f5
              have f6' : its2[j]? = some x2 := f6
              rw [f5'] at g1
              rw [f6'] at g2
              cases g1
              cases g2
              exact ⟨by show 2 ≤ sizeLine; decide, [x1, x2], .cons r1 (.cons r2 .nil), ⟨_, kp _ f4, rfl, _, rfl⟩⟩
            · rw [List.mem_singleton.mp hp] at kp ⊢
              refine ⟨by rw [List.length_map]; exact lenT, Ts.map Value.ref, c', vals_refs Ts, ?_⟩
              have := kp _ a2
              rw [← eT]
              simpa using this
        have e : updL H1 (prs Ts xs ys ++ [(h'.objs.size, .lst (Ts.map V.ref))]) = upd (updL H1 (prs Ts xs ys)) h'.objs.size (.lst (Ts.map V.ref)) := by
          have app : ∀ (L : List (Addr × HO)) (H : Hp) (p : Addr × HO), updL H (L ++ [p]) = upd (updL H L) p.1 p.2 := by
            intro L
            induction L with
            | nil => intro H p; rfl
            | cons c L ih => intro H p; exact ih _ p
          exact app _ _ _
        rw [e] at I2
        exact I2
end
end F2
set_option Elab.async false
set_option linter.all false
set_option maxRecDepth 100000
set_option maxHeartbeats 4000000
namespace F2
open PySem PySem.Spec PyProof.Rows L2
open PySem.W (Frag)
/-- the items of a list or a tuple -/
def seqA (x : A) (h : Hh) : Option (List A) := match itemsL x h with
  | some xs => some xs
  | none => itemsT x
theorem seqA_rel {mg : Mg} {w : Wd} {H : Hp} {h : Hh} {K : Frag} (S : Sm mg w H h) {x : A} {v : V} {xs : List A} (r : RelA mg w x v) (e : seqA x h = some xs) : ∃ a vs, v = .ref a ∧ (SqL K H a vs ∨ SqT K H a vs) ∧ RelAs mg w xs vs := by
  unfold seqA at e
  split at e
  · rename_i ys ey
    cases e
    obtain ⟨a, vs, e1, e2, e3⟩ := itemsL_rel S r ey
    exact ⟨a, vs, e1, .inl (SqL.of e2), e3⟩
  · obtain ⟨a, vs, e1, e2, e3⟩ := itemsT_rel S r e
    exact ⟨a, vs, e1, .inr (sqT_rd e2), e3⟩
def pairD2 (a b : D) : D := .tup [a, b]
def fZipL : List A → Hh → Option (A × Hh)
  | [x, y], h => match seqA x h with
    | some xs => match allD xs with
      | some ds => match seqA y h with
        | some ys => match allD ys with
          | some es => some (.d (.lst (List.zipWith pairD2 ds es)), h)
          | none => none
        | none => none
      | none => none
    | none => none
  | _, _ => none
theorem zip_sm {mg : Mg} : ∀ {Ts : List Addr} {xs ys : List V} {ds es : List D} {w : Wd} {H : Hp} {h : Hh}, Sm mg w H h → Ts.length = min xs.length ys.length → Ts.Nodup → (∀ T ∈ Ts, H T = none) → RelDs mg w.fz ds xs → RelDs mg w.fz es ys →
    ∃ w', w.le w' ∧ Sm mg w' (updL H (prs Ts xs ys)) h ∧ RelDs mg w'.fz (List.zipWith pairD2 ds es) (Ts.map V.ref)
  | [], xs, ys, ds, es, w, H, h, S, hl, _, _, r1, r2 => by
    refine ⟨w, .rfl, S, ?_⟩
    have : List.zipWith pairD2 ds es = [] := by
      have := r1.length
      have := r2.length
      rw [← List.length_eq_zero_iff, List.length_zipWith]
      simp at hl
      omega
    rw [this]; exact .nil
  | T :: Ts, [], ys, _, _, _, _, _, _, hl, _, _, _, _ => by simp at hl
  | T :: Ts, _ :: _, [], _, _, _, _, _, _, hl, _, _, _, _ => by simp at hl
  | T :: Ts, x :: xs, y :: ys, ds, es, w, H, h, S, hl, nd, hn, r1, r2 => by
    cases r1 with
    | @cons d _ ds _ hd td =>
      cases r2 with
      | @cons e _ es _ he te =>
        rw [List.nodup_cons] at nd
        have hT := hn T List.mem_cons_self
        have l1 : w.le (w.pure T (.tup [x, y])) := S.le_pure hT
        have S1 : Sm mg (w.pure T (.tup [x, y])) (upd H T (.tup [x, y])) h := S.pure hT
        obtain ⟨w', l2, S2, r3⟩ := zip_sm (Ts := Ts) S1 (by simp at hl; omega) nd.2 (fun U hU => by
          rw [upd_ne (fun z => nd.1 (by rw [← z]; exact hU))]; exact hn U (List.mem_cons_of_mem _ hU)) (td.mono l1.fz) (te.mono l1.fz)
        refine ⟨w', l1.trans l2, S2, .cons ?_ r3⟩
        refine .tup (vs := [x, y]) (l2.fz _ _ ?_) (.cons ((hd.mono l1.fz).mono l2.fz) (.cons ((he.mono l1.fz).mono l2.fz) .nil))
        show (if T = T then _ else _) = _
        rw [if_pos rfl]
section
variable {X : Cx}
theorem e_zipL {e e2 : Expr} {m : AI} {p p2 pos q : Pos} (hc : X.calm = true) (hm0 : X.mg "list" = none) (hm : X.mg "zip" = none) (ha : PA X [e, e2] (rA X.mg m)) (hg0 : Gl X "list" := by rfl) (hg : Gl X "zip" := by rfl)
    (hs : starEach [e, e2] X.env = (false, eval e X.env) :: starEach [e2] X.env := by rfl) (hpl : (backTo pos (starEach [e2] X.env)).any (·.1) = false := by rfl)
    (hs2 : starEach [.Call (.Name "zip" p) [e, e2] [] pos] X.env = (false, eval (.Call (.Name "zip" p) [e, e2] [] pos) X.env) :: starEach [] X.env := by rfl) :
    PE X (.Call (.Name "list" p2) [.Call (.Name "zip" p) [e, e2] [] pos] [] q) (rE X.mg (mOn fZipL m)) := PE.imp (pe_zipL hc hg0 hm0 hg hm ha hs hpl hs2) fun σ H Q q => by
  obtain ⟨w, ρ, h, as, h', S, E, e, k⟩ := on_split (X := X) q
  refine ⟨w, ρ, h, as, h', S, E, e, fun w1 H1 vs l1 S1 r1 => ?_⟩
  obtain ⟨w2, h2, xs, a, h3, S2, r2, e2, b⟩ := k w1 H1 vs l1 S1 r1
  unfold fZipL at e2
  split at e2
  · rename_i x y
    obtain ⟨v, u, rfl, rx, ry⟩ := rel2 r2
    split at e2
    · rename_i xs ex
      split at e2
      · rename_i ds ed
        split at e2
        · rename_i ys ey
          split at e2
          · rename_i es ee
            cases e2
            obtain ⟨p1, v1, rfl, s1, q1⟩ := seqA_rel (K := X.K) S2 rx ex
            obtain ⟨p2, v2, rfl, s2, q2⟩ := seqA_rel (K := X.K) S2 ry ey
            refine ⟨p1, p2, v1, v2, rfl, s1, s2, fun Ts T hl hnd hn hT hTs => ?_⟩
            obtain ⟨w3, l3, S3, r3⟩ := zip_sm S2 hl hnd hn (allD_rel ed q1) (allD_rel ee q2)
            have hT3 : updL H1 (prs Ts v1 v2) T = none := by
              rw [updL_none fun p hp z => ?_]
              · exact hT
              · obtain ⟨j, _, _, e1, _⟩ := prs_mem hp
                exact hTs (by rw [← z]; exact List.mem_of_getElem? e1)
            refine b (w3.pure T _) _ _ (l3.trans (S3.le_pure hT3)) (S3.pure hT3) (.d (.lst (vs := Ts.map V.ref) ?_ (r3.mono (S3.le_pure hT3).fz)))
            show (if T = T then _ else _) = _
            rw [if_pos rfl]
          · cases e2
        · cases e2
      · cases e2
    · cases e2
  · cases e2
/-! is, with truths -/
def fIsB (neg : Bool) : A → A → Hh → Option (A × Hh)
  | .d (.bl a), .d (.bl b), h => some (.d (.bl (neg ^^ decide (a = b))), h)
  | _, _, _ => none
theorem o_isB : OpI X (compareOp .Is) (fIsB false) := OpI.of op_is_bl fun w H h x y a vx vy h' Q S r1 r2 e b => by
  unfold fIsB at e
  split at e
  · cases e
    cases r1 with
    | d r1 =>
      cases r1
      cases r2 with
      | d r2 =>
        cases r2
        exact ⟨_, _, rfl, rfl, b w H _ .rfl S (.d (by rw [Bool.false_xor]; exact .bl _))⟩
  · cases e
theorem o_isNotB : OpI X (compareOp .IsNot) (fIsB true) := OpI.of op_isnot_bl fun w H h x y a vx vy h' Q S r1 r2 e b => by
  unfold fIsB at e
  split at e
  · cases e
    cases r1 with
    | d r1 =>
      cases r1
      cases r2 with
      | d r2 =>
        cases r2
        exact ⟨_, _, rfl, rfl, b w H _ .rfl S (.d (by rw [Bool.true_xor]; exact .bl _))⟩
  · cases e
/-! list of a dict -/
def fListD (cell : Bool) : List A → Hh → Option (A × Hh)
  | [x], h => match tabOf x h with
    | some (.k kvs) => mkL cell (kvs.map fun p => .d (keyD p.1)) h
    | _ => none
  | _, _ => none
theorem c_listD {cell : Bool} (hc : X.calm = true) : CallI X (.type "list") (fListD cell) := CallI.of (call_listD hc) fun w H h xs vs a h' Q S r e b => by
  unfold fListD at e
  split at e
  · rename_i x
    obtain ⟨v, rfl, rx⟩ := rel1 r
    split at e
    · rename_i kvs et
      obtain ⟨p, rfl, tr⟩ := tabOf_rel S rx et
      cases tr with
      | k h1 h2 => exact ⟨p, _, rfl, h1, (mkL_ok S h2.keysA e b).2⟩
    · cases e
  · cases e
/-! tuple + tuple -/
def fCatT : A → A → Hh → Option (A × Hh) := fun x y h => match itemsT x with
  | some xs => match itemsT y with
    | some ys => if xs.length + ys.length ≤ LIM then (if xs = [] then some (y, h) else if ys = [] then some (x, h) else mkT (xs ++ ys) h) else none
    | none => none
  | none => none
end
end F2
set_option Elab.async false
set_option linter.all false
set_option maxRecDepth 100000
set_option maxHeartbeats 4000000
namespace HT
open PySem PySem.Spec PyProof.Rows
section
variable {prog : Program} {w : World} {A : Around} {E : Value → Shared → Prop} {s : Shared}
theorem places_rev (n : Nat) : Builtin.Slice.slicePlaces ((n : Int) - 1) (-1) (-1) = n := by
  unfold Builtin.Slice.slicePlaces
  have h1 : ¬ ((-1 : Int) > 0) := by omega
  have h2 : (-(-1) : Int) = 1 := by omega
  simp only [h1, if_false, h2, Int.ediv_one]
  split <;> omega
theorem fm_congr {α β : Type} {f g : α → Option β} : ∀ {l : List α}, (∀ x ∈ l, f x = g x) → l.filterMap f = l.filterMap g
  | [], _ => rfl
  | a :: l, h => by rw [List.filterMap_cons, List.filterMap_cons, h a List.mem_cons_self, fm_congr fun x hx => h x (List.mem_cons_of_mem _ hx)]
theorem pick_rev (items : Array Value) : ((List.range items.size).filterMap fun (m : Nat) => items[(((items.size : Int) - 1) + (m : Int) * (-1)).toNat]?).toArray = items.toList.reverse.toArray := by
  have e : ∀ m ∈ List.range items.size, items[(((items.size : Int) - 1) + (m : Int) * (-1)).toNat]? = items[items.size - 1 - m]? := by
    intro m hm
    have := List.mem_range.mp hm
    have : (((items.size : Int) - 1) + (m : Int) * (-1)).toNat = items.size - 1 - m := by omega
    rw [this]
  rw [fm_congr e]
  have e2 : (List.range items.size).filterMap (fun m => items[items.size - 1 - m]?) = ((List.range items.size).map fun k => items.size - 1 - k).filterMap (items[·]?) := by
    rw [List.filterMap_map]; rfl
  rw [e2, PySem.W.krv_range, List.filterMap_reverse, PySem.W.krv_all]
theorem sliceApplied_rev {sl : Addr} {vs : Value} {n : Nat} {Q : Int × Int × Nat → Shared → Prop} (hs : s.heap.IsSliceOf sl .none .none vs) (ps : IsPart vs (some (-1)))
    (h : Q ((n : Int) - 1, -1, n) s) : wpAny (model prog w) A (Builtin.Slice.sliceApplied (.ref sl) (pure (n : Int))) Q E s := by
  obtain ⟨os, hos, hcs, hds⟩ := id hs
  unfold Builtin.Slice.sliceApplied Builtin.Slice.sliceFields
  refine wpAny_bind (wpAny_bind (wpAny_field hos hds (x := .none) rfl (wpAny_bind (wpAny_field hos hds (x := .none) rfl (wpAny_bind (wpAny_field hos hds (x := vs) rfl (wpAny_pure ?_)))))))
  refine wpAny_bind (slicePart_ ps ?_)
  show wpAny _ _ (if ((-1 : Int) == 0) = true then _ else _) _ _ s
  rw [if_neg (by decide)]
  refine wpAny_bind (slicePart_none (wpAny_bind (slicePart_none (wpAny_bind (wpAny_pure ?_)))))
  show wpAny _ _ (match Builtin.Slice.sliceAdjust none none (-1) (n : Int) with | (lo, hi) => pure (lo, (-1 : Int), Builtin.Slice.slicePlaces lo hi (-1))) _ _ s
  have e : Builtin.Slice.sliceAdjust none none (-1) (n : Int) = ((n : Int) - 1, -1) := by
    unfold Builtin.Slice.sliceAdjust
    simp
  rw [e]
  show wpAny _ _ (pure ((n : Int) - 1, (-1 : Int), Builtin.Slice.slicePlaces ((n : Int) - 1) (-1) (-1))) _ _ s
  rw [places_rev]
  exact wpAny_pure h
theorem getItem_tuple_rev {t sl : Addr} {items : Array Value} {vs : Value} {Q : Value → Shared → Prop} (ht : IsTup s.heap t items) (hs : s.heap.IsSliceOf sl .none .none vs) (ps : IsPart vs (some (-1)))
    (h : Q (.ref s.heap.objs.size) { s with heap := s.heap.push { cls := .type "tuple", data := .seq items.toList.reverse.toArray } })
    (hsz : items.size ≤ sizeLine) : wpAny (model prog w) A (getItem (.ref t) (.ref sl)) Q E s := by
  have htake : sizeOk (.seq items.toList.reverse.toArray) := by
    show items.toList.reverse.toArray.size ≤ sizeLine
    rw [List.size_toArray, List.length_reverse, Array.length_toList]
    omega
  obtain ⟨os, hos, hcs, hds⟩ := id hs
  have hTs : s.TypeIs (.ref sl) "slice" := ⟨os, hos, hcs⟩
  unfold getItem
  try with_reducible refine wpAny_holding ?_
  first | refine wpAny_bind (wpAny_pure ?_) | skip
  refine wpAny_bind (wpAny_sequenceKey ht.typeIs (by decide) ?_)
  refine wpAny_bind (wpAny_callSpecial?_slot (name := Str.ofString "__getitem__") ht.typeIs PyProof.Rows.slot_tuple_getitem
    (wpAny_call_entry PyProof.Rows.slot_tuple_getitem ht.typeIs entry_tuple_getitem ?_ (args_tuple_getitem _ _)))
  show wpAny _ _ (Builtin.Tuple.tupleItemsOf (.ref t) >>= _) _ _ s
  refine wpAny_bind (tupleItemsOf_ ht ?_)
  refine wpAny_bind (wpAny_typeOf hTs ?_)
  rw [if_pos (by decide)]
  refine wpAny_bind (sliceApplied_rev hs ps ?_)
  have hno : ¬ ((((items.size : Int) - 1) == 0 && (-1 : Int) == 1 && (items.size == items.size)) = true) := by
    intro q
    rw [Bool.and_eq_true, Bool.and_eq_true] at q
    exact absurd q.1.2 (by decide)
  show wpAny _ _ (if (((items.size : Int) - 1) == 0 && (-1 : Int) == 1 && (items.size == items.size)) = true then _ else _) _ _ s
  rw [if_neg hno, pick_rev]
  first
    | exact wpAny_bind (m := Builtin.Tuple.tupleExact _) (wpAny_newObj_type (wpAny_pure ⟨_, rfl, wpAny_pure h⟩) htake)
    | exact wpAny_bind (m := Builtin.Tuple.tupleExact _) (wpAny_newObj_type (wpAny_bind (wpAny_pure (wpAny_pure ⟨_, rfl, wpAny_pure h⟩))) htake)
    | exact wpAny_bind (wpAny_bind (m := Builtin.Tuple.tupleExact _) (wpAny_newObj_type (wpAny_pure (wpAny_pure ⟨_, rfl, wpAny_pure h⟩)) htake))
    | exact wpAny_bind (wpAny_bind (m := Builtin.Tuple.tupleExact _) (wpAny_newObj_type (wpAny_pure ⟨_, rfl, wpAny_pure h⟩) htake))
end
end HT
namespace F2
open PySem PySem.Spec PyProof.Rows L2
open PySem.W (Frag)
section
variable {X : Cx}
/-- what a step of 1 or -1 leaves -/
def stp (i : Int) {α : Type} (xs : List α) : List α := if i = 1 then xs else xs.reverse
def tStp (K : Frag) (te ts : TE) : TE := fun σ H Q => te σ H fun x H1 => ts σ H1 fun y H2 => ∃ i : Int, y = .int i ∧ ∃ a : Addr, x = .ref a ∧
  ((∃ xs, SqL K H2 a xs ∧ (i = 1 ∨ i = -1) ∧ ∀ p, H2 p = none → Q (.ref p) (upd H2 p (.lst (stp i xs)))) ∨
   (∃ xs, SqT K H2 a xs ∧ i = -1 ∧ ∀ p, H2 p = none → Q (.ref p) (upd H2 p (.tup xs.reverse))))
theorem pe_stp {e st : Expr} {te ts : TE} {p3 pos : Pos} (he : PE X e te) (hst : PE X st ts) (hsub : ∀ v r, subscripted (.Slice none none (some st) p3) false v r = operate [v, r] (getItem v r) := by intro _ _; rfl) :
    PE X (.Subscript e (.Slice none none (some st) p3) pos) (tStp X.K te ts) := by
  refine ⟨fun pins s σ H Q I h => ?_⟩
  refine Subscript_ (thn (he.run pins s σ H _ I h) fun v s1 ⟨x, H1, I1, r1, q1⟩ => ?_)
  refine wpAny_Slice (thn (po_none.run pins s1 σ H1 (fun o H2 => o = none ∧ H2 = H1) I1 ⟨rfl, rfl⟩) fun vl s2 ⟨l, H2, I2, pl, el, e2⟩ => ?_)
  subst el e2
  refine thn (po_none.run pins s2 σ H2 (fun o H3 => o = none ∧ H3 = H2) I2 ⟨rfl, rfl⟩) fun vu s3 ⟨u, H3, I3, pu, eu, e3⟩ => ?_
  subst eu e3
  have hp : PO X (some st) (fun σ H Q => ts σ H fun y H' => ∃ i, y = .int i ∧ Q (some i) H') := po_some hst
  refine thn (hp.run pins s3 σ H3 (fun o H4 => match o with
    | some i => ∃ a : Addr, x = .ref a ∧ ((∃ xs, SqL X.K H4 a xs ∧ (i = 1 ∨ i = -1) ∧ ∀ p, H4 p = none → Q (.ref p) (upd H4 p (.lst (stp i xs)))) ∨
     (∃ xs, SqT X.K H4 a xs ∧ i = -1 ∧ ∀ p, H4 p = none → Q (.ref p) (upd H4 p (.tup xs.reverse))))
    | none => False) I3 q1) fun vs s4 ⟨o, H4, I4, ps, k⟩ => ?_
  cases o with
  | none => exact k.elim
  | some i =>
  obtain ⟨a, ex, k⟩ := k
  subst ex
  cases r1
  have I5 : Inv X pins σ H4 { s4 with heap := s4.heap.push { cls := .type "slice", data := .fields #[vl, vu, vs] } } := I4.kept (t' := s4.toks) fun b ob q => Heap.get?_push_of_some _ q
  show wpAny (model X.prog X.w) X.A (subscriptTail e (.Slice none none (some st) p3) (.ref a) (.ref s4.heap.objs.size)) (EP X pins σ Q) X.xe { s4 with heap := s4.heap.push { cls := .type "slice", data := .fields #[vl, vu, vs] } }
  rcases k with ⟨xs, hx, hi, q⟩ | ⟨xs, hx, rfl, q⟩
  · obtain ⟨its, r, ht, hz⟩ := I5.list hx
    have hlen := r.length
    refine tail_any (ops := [.ref a, .ref s4.heap.objs.size]) ht.isList.typeIs (PySem.slot_list_getitem.lookup) ?_ (hsub _ _)
    refine wpAny_getItem_list_slice ht.isList (Heap.IsSliceOf.new _ vl vu vs) pl pu ps (by rcases hi with rfl | rfl <;> decide) ?_ (by rw [List.size_toArray]; omega)
    have ep : slicePick its.toArray none none (some i) = (stp i its).toArray := by
      rcases hi with rfl | rfl
      · show slicePick its.toArray none none none = _
        rw [slicePick_all]; rfl
      · rw [PySem.W.krv_pick]; rfl
    rw [ep]
    have rs : Vals (stp i xs) (stp i its) := by
      unfold stp
      split
      · exact r
      · exact r.reverse
    refine ⟨.ref _, _, I5.laid (t' := s4.toks) (o := .lst (stp i xs)) (fun b ob q => Heap.get?_push_of_some _ q) (Nat.le_refl _) ?_, rfl, q _ (I5.hok.fresh (Nat.le_refl _))⟩
    have el : (stp i xs).length = xs.length := by unfold stp; split <;> simp
    exact ⟨by rw [el]; exact hz, _, 0, rs, Heap.get?_push_size _ rfl⟩
  · obtain ⟨its, r, ht, hz⟩ := I5.tuple hx
    have hlen := r.length
    cases pl
    cases pu
    refine tail_any (ops := [.ref a, .ref s4.heap.objs.size]) ht.typeIs (PyProof.Rows.slot_tuple_getitem.lookup) ?_ (hsub _ _)
    refine HT.getItem_tuple_rev ht (Heap.IsSliceOf.new _ _ _ _) ps ?_ (by rw [List.size_toArray]; omega)
    refine ⟨.ref _, _, I5.laid (t' := s4.toks) (o := .tup xs.reverse) (fun b ob q => Heap.get?_push_of_some _ q) (Nat.le_refl _) ?_, rfl, q _ (I5.hok.fresh (Nat.le_refl _))⟩
    exact ⟨by rw [List.length_reverse]; exact hz, _, by simpa using r.reverse, ⟨_, Heap.get?_push_size _ rfl, rfl, _, rfl⟩⟩
/-- xs[::step] of a list, t[::-1] of a tuple -/
def fStp (cell : Bool) : A → A → Hh → Option (A × Hh)
  | x, .d (.int i), h => match itemsL x h with
    | some xs => if i = 1 ∨ i = -1 then mkL cell (stp i xs) h else none
    | none => match itemsT x with
      | some xs => if i = -1 then mkT xs.reverse h else none
      | none => none
  | _, _, _ => none
theorem RelAs.stp {mg : Mg} {w : Wd} {i : Int} {as : List A} {vs : List V} (r : RelAs mg w as vs) : RelAs mg w (F2.stp i as) (F2.stp i vs) := by
  unfold F2.stp
  split
  · exact r
  · exact r.reverse
theorem e_stp (cell : Bool) {e st : Expr} {m ms : EI} {p3 pos : Pos} (he : PE X e (rE X.mg m)) (hst : PE X st (rE X.mg ms)) (hsub : ∀ v r, subscripted (.Slice none none (some st) p3) false v r = operate [v, r] (getItem v r) := by intro _ _; rfl) :
    PE X (.Subscript e (.Slice none none (some st) p3) pos) (rE X.mg (mBin (fStp cell) m ms)) := PE.imp (pe_stp he hst hsub) fun σ H Q q => by
  obtain ⟨w, ρ, h, x, h1, S, E, e1, k⟩ := bin_split (X := X) q
  refine ⟨w, ρ, h, x, h1, S, E, e1, fun w1 H1 v l1 S1 r1 => ?_⟩
  obtain ⟨w2, ρ2, h2, y, h3, S2, E2, e2, k2⟩ := k w1 H1 v l1 S1 r1
  refine ⟨w2, ρ2, h2, y, h3, S2, E2, e2, fun w3 H3 u l3 S3 r3 => ?_⟩
  obtain ⟨w4, h4, x', y', a, h5, S4, rx, ry, e4, b⟩ := k2 w3 H3 u l3 S3 r3
  unfold fStp at e4
  split at e4
  · rename_i i
    rw [relint ry]
    split at e4
    · rename_i xs ex
      split at e4
      · rename_i hi
        obtain ⟨p, us, rfl, hp, rp⟩ := itemsL_rel S4 rx ex
        exact ⟨i, rfl, p, rfl, .inl ⟨us, SqL.of hp, hi, (mkL_ok S4 rp.stp e4 b).2⟩⟩
      · cases e4
    · split at e4
      · rename_i xs ex
        split at e4
        · rename_i hi
          obtain ⟨p, us, rfl, hp, rp⟩ := itemsT_rel S4 rx ex
          exact ⟨i, rfl, p, rfl, .inr ⟨us, sqT_rd hp, hi, (mkT_ok S4 rp.reverse e4 b).2⟩⟩
        · cases e4
      · cases e4
  · cases e4
/-! tuple + tuple -/
theorem o_catT : OpI X (binaryOp .Add) fCatT := OpI.of op_catA fun w H h x y a vx vy h' Q S r1 r2 e b => by
  unfold fCatT at e
  split at e
  · rename_i xs ex
    split at e
    · rename_i ys ey
      split at e
      · rename_i hz
        obtain ⟨p, us, rfl, hp, rp⟩ := itemsT_rel S r1 ex
        obtain ⟨q, ws, rfl, hq, rq⟩ := itemsT_rel S r2 ey
        refine ⟨p, q, us, ws, rfl, rfl, sqT_rd hp, sqT_rd hq, lim_size (by rw [← rp.length, ← rq.length]; exact hz), fun z => ?_, fun z z2 => ?_, fun z z2 => ?_⟩
        · have : xs = [] := by cases rp <;> first | rfl | cases z
          rw [if_pos this] at e
          cases e
          exact b w H _ .rfl S r2
        · have n1 : xs ≠ [] := fun y => z (by rw [y] at rp; cases rp; rfl)
          have n2 : ys = [] := by cases rq <;> first | rfl | cases z2
          rw [if_neg n1, if_pos n2] at e
          cases e
          exact b w H _ .rfl S r1
        · have n1 : xs ≠ [] := fun y => z (by rw [y] at rp; cases rp; rfl)
          have n2 : ys ≠ [] := fun y => z2 (by rw [y] at rq; cases rq; rfl)
          rw [if_neg n1, if_neg n2] at e
          exact (mkT_ok S (rp.append rq) e b).2
      · cases e
    · cases e
  · cases e
/-! max of a list -/
def intsA : List A → Option (List Int)
  | [] => some []
  | .d (.int i) :: r => (intsA r).map (i :: ·)
  | _ :: _ => none
theorem intsA_rel {mg : Mg} {w : Wd} : ∀ {as : List A} {vs : List V} {ns : List Int}, RelAs mg w as vs → intsA as = some ns → vs = ns.map V.int
  | _, _, _, .nil, e => by cases e; rfl
  | _, _, ns, .cons (a := a) (as := as) h t, e => by
    cases h with
    | @d x v hd =>
      cases hd with
      | int i =>
        have e' : (intsA as).map (i :: ·) = some ns := e
        obtain ⟨ms, e1, e2⟩ := Option.map_eq_some_iff.mp e'
        subst e2
        rw [intsA_rel t e1]; rfl
      | _ => cases e
    | ref _ => cases e
    | tp _ _ => cases e
def maxI : List Int → Int
  | [] => 0
  | [i] => i
  | i :: r => max i (maxI r)
theorem maxI_spec : ∀ {ns : List Int}, ns ≠ [] → maxI ns ∈ ns ∧ ∀ y ∈ ns, y ≤ maxI ns
  | [i], _ => ⟨by simp [maxI], fun y hy => by rw [List.mem_singleton.mp hy]; exact Int.le_refl _⟩
  | i :: j :: r, _ => by
    obtain ⟨h1, h2⟩ := maxI_spec (ns := j :: r) (by simp)
    have e : maxI (i :: j :: r) = max i (maxI (j :: r)) := rfl
    rw [e]
    refine ⟨?_, fun y hy => ?_⟩
    · rcases Int.le_total i (maxI (j :: r)) with q | q
      · rw [Int.max_eq_right q]; exact List.mem_cons_of_mem _ h1
      · rw [Int.max_eq_left q]; exact List.mem_cons_self
    · rcases List.mem_cons.mp hy with q | q
      · rw [q]; exact Int.le_max_left _ _
      · exact Int.le_trans (h2 y q) (Int.le_max_right _ _)
theorem maxI_eq {ns : List Int} {m : Int} (h1 : m ∈ ns) (h2 : ∀ y ∈ ns, y ≤ m) : m = maxI ns := by
  have ne : ns ≠ [] := fun z => by rw [z] at h1; cases h1
  obtain ⟨a, b⟩ := maxI_spec ne
  exact Int.le_antisymm (b m h1) (h2 _ a)
def fMaxL : List A → Hh → Option (A × Hh)
  | [x], h => match itemsL x h with
    | some xs => match intsA xs with
      | some ns => if ns = [] then none else some (.d (.int (maxI ns)), h)
      | none => none
    | none => none
  | _, _ => none
theorem c_maxL (hc : X.calm = true) : CallI X (.builtin "max") fMaxL := CallI.of (cr_max hc) fun w H h xs vs a h' Q S r e b => by
  unfold fMaxL at e
  split at e
  · rename_i x
    obtain ⟨v, rfl, rx⟩ := rel1 r
    split at e
    · rename_i ys ey
      split at e
      · rename_i ns en
        split at e
        · cases e
        · rename_i hne
          cases e
          obtain ⟨p, us, rfl, hp, rp⟩ := itemsL_rel S rx ey
          have := intsA_rel rp en
          subst this
          refine ⟨p, ns, rfl, SqL.of hp, List.length_pos_iff.mpr hne, fun m hm hle => ?_⟩
          rw [maxI_eq hm hle]
          exact b w H _ .rfl S (.d (.int _))
      · cases e
    · cases e
  · cases e
/-! sum of a list -/
def fSumL : List A → Hh → Option (A × Hh)
  | [x], h => match itemsL x h with
    | some xs => (intsA xs).map fun ns => (.d (.int ns.sum), h)
    | none => none
  | _, _ => none
theorem c_sumL (hc : X.calm = true) : CallI X (.builtin "sum") fSumL := CallI.of (cr_sum hc) fun w H h xs vs a h' Q S r e b => by
  unfold fSumL at e
  split at e
  · rename_i x
    obtain ⟨v, rfl, rx⟩ := rel1 r
    split at e
    · rename_i ys ey
      obtain ⟨ns, en, e2⟩ := Option.map_eq_some_iff.mp e
      cases e2
      obtain ⟨p, us, rfl, hp, rp⟩ := itemsL_rel S rx ey
      have := intsA_rel rp en
      subst this
      exact ⟨p, ns, rfl, SqL.of hp, b w H _ .rfl S (.d (.int _))⟩
    · cases e
  · cases e
/-! {k: v} -/
def mDisp1 (mk mv : EI) : EI := fun ρ h => match mk ρ (h ++ [.dK []]) with
  | some (.d y, h1) => match keyOf y with
    | some k => match mv ρ h1 with
      | some (z, h2) => match h2[h.length]? with
        | some (.dK []) => some (.ref h.length, h2.set h.length (.dK [(k, z)]))
        | _ => none
      | none => none
    | none => none
  | _ => none
theorem e_disp1 {k v : Expr} {mk mv : EI} {pos : Pos} (hk : PE X k (rE X.mg mk)) (hv : PE X v (rE X.mg mv)) : PE X (.Dict [some k] [v] pos) (rE X.mg (mDisp1 mk mv)) :=
  PE.imp (pe_disp (pps_cons hk hv pps_nil) rfl rfl (by simp) (by simp)) fun σ H Q ⟨w, ρ, h, a, h', S, E, e, b⟩ p hp => by
    unfold mDisp1 at e
    split at e
    · rename_i y h1 e1
      split at e
      · rename_i kk ek
        split at e
        · rename_i z h2 e2
          split at e
          · rename_i e3
            cases e
            have l0 : w.le (w.cell p) := S.le_cell
            have S0 : Sm X.mg (w.cell p) (upd H p (.dK [])) (h ++ [.dK []]) := S.new hp (.dK upd_same .nil)
            have hphi_ : (w.cell p).phi_[h.length]? = some p := by
              show (w.phi_ ++ [p])[h.length]? = some p
              rw [← S.len]; simp
            refine ⟨w.cell p, ρ, _, _, h1, S0, E.mono l0, e1, fun w1 H1 x1 l1 S1 r1 => ?_⟩
            refine ⟨w1, ρ, h1, _, h2, S1, (E.mono l0).mono l1, e2, fun w2 H2 x2 l2 S2 r2 => ?_⟩
            have hphi_2 := l2.phi_ _ _ (l1.phi_ _ _ hphi_)
            have ey : x1 = kV kk := by cases r1 with | d r1 => exact keyOf_rel r1 ek
            have hD : H2 p = some (.dK []) := by
              cases S2.cell _ p _ hphi_2 e3 with
              | dK h1 h2 => cases h2; exact h1
            refine ⟨hD, [(kk, x2)], by rw [ey]; rfl, by simp, ?_⟩
            refine b w2 _ _ ((l0.trans l1).trans l2) (S2.write hphi_2 (fun u q => by rw [e3] at q; cases q; exact True.intro) (.dK (ks := [(kk, x2)]) (by rw [upd_same]; rfl) (.cons r2 .nil))) (.ref hphi_2)
          · cases e
        · cases e
      · cases e
    · cases e
end
end F2
set_option Elab.async false
set_option linter.all false
set_option maxRecDepth 100000
set_option maxHeartbeats 4000000
namespace F2
open PySem PySem.Spec PyProof.Rows L2
section
variable {X : Cx}
/-- in a tuple of data -/
def fInT (neg : Bool) : A → A → Hh → Option (A × Hh) := fun x y h => match pyOf x h with
  | some p => match pyOf y h with
    | some (.tuple qs) => if SeqAt.shaped p && SeqAt.shaped (.tuple qs) then some (.d (.bl (neg ^^ qs.any fun z => PyData.eqv z p)), h) else none
    | _ => none
  | none => none
theorem o_inT (hu : X.A.units + 65 < cLine) : OpI X (compareOp .In) (fInT false) := by
  intro pins s σ H vx vy v u Q I rx ry ⟨w, hh, x, y, a, h', S, r1, r2, e, b⟩
  unfold fInT at e
  split at e
  · rename_i p ep
    split at e
    · rename_i qs eq
      split at e
      · rename_i c
        cases e
        rw [Bool.and_eq_true] at c
        obtain ⟨as, q1⟩ := Dp.reads I p vx v (pyOf_dp S r1 ep) rx
        obtain ⟨bs, q2⟩ := Dp.reads I (.tuple qs) vy u (pyOf_dp S r2 eq) ry
        exact SeqAt.in_tuple_reads q2 q1 (SeqAt.canLay_of_shaped c.2) (SeqAt.canLay_of_shaped c.1) (room_in_shaped c.1 hu) ⟨.bl _, H, I, rfl, b w H _ .rfl S (.d (by rw [Bool.false_xor]; exact .bl _))⟩
      · cases e
    · cases e
  · cases e
/-- repr of a truth -/
def fReprB : List A → Hh → Option (A × Hh)
  | [.d (.bl b)], h => some (.d (.str (if b then "True" else "False")), h)
  | _, _ => none
theorem c_reprB : CallI X (.builtin "repr") fReprB := by
  intro pins s σ H vs us Q I rv ⟨w, h, xs, a, h', S, r, e, b⟩
  unfold fReprB at e
  split at e
  · rename_i k
    cases e
    obtain ⟨v, rfl, rx⟩ := rel1 r
    obtain ⟨u, rfl, ru⟩ := Vals.one rv
    cases rx with
    | d rx =>
      cases rx
      cases ru
      exact PySem.P.repr_of_bool ⟨.str (if k then "True" else "False"), H, I.tok _, ⟨_, rfl⟩, b w H _ .rfl S (.d (.str _))⟩
  · cases e
end
end F2
set_option Elab.async false
set_option linter.all false
set_option maxRecDepth 100000
set_option maxHeartbeats 0
namespace K52
open PySem PySem.Spec PyProof.Rows L2 F2
open PySem.W (Frag)
def top (i : Nat) : Stmt := PySem.Challenge.pw_basetrees_k52_whole_choices_judged.main.body.getD i (.Pass ⟨0, 0, 0, 0⟩)
def kid (s : Stmt) (i : Nat) : Stmt := match s with
  | .ClassDef (body := b) .. => b.getD i (.Pass ⟨0, 0, 0, 0⟩)
  | _ => .Pass ⟨0, 0, 0, 0⟩
def fa : List Fct := [
  fun K => (He.Fa.glo "is_integer").ok K,
  fun K => (He.Fa.glo "is_weight").ok K,
  fun K => (He.Fa.glo "is_name").ok K,
  fun K => (He.Fa.glo "is_one_of").ok K,
  fun K => (He.Fa.glo "read_web").ok K,
  fun K => (He.Fa.glo "is_new_name").ok K,
  fun K => (He.Fa.glo "are_sources").ok K,
  fun K => (He.Fa.glo "first_full").ok K,
  fun K => (He.Fa.glo "_may_be_chosen").ok K,
  fun K => (He.Fa.glo "accepts").ok K,
  fun K => (He.Fa.glo "_shows_verdict").ok K,
  fun K => (He.Fa.glo "_shows_open").ok K,
  fun K => (He.Fa.glo "_is_choice").ok K,
  fun K => (He.Fa.glo "_kept").ok K,
  fun K => (He.Fa.glo "_is_short").ok K,
  fun K => (He.Fa.glo "_is_lot").ok K,
  fun K => (He.Fa.glo "_how_many").ok K,
  fun K => (He.Fa.glo "_part_with").ok K,
  fun K => (He.Fa.glo "_ways_of").ok K,
  fun K => (He.Fa.glo "_shows_best").ok K,
  fun K => (He.Fa.glo "_are_prices").ok K,
  fun K => (He.Fa.glo "_are_integers").ok K,
  fun K => (He.Fa.glo "_are_so_many").ok K,
  fun K => (He.Fa.glo "_law_urn").ok K,
  fun K => (He.Fa.glo "_law_pull").ok K,
  fun K => (He.Fa.glo "_law_of").ok K,
  fun K => (He.Fa.glo "_law_words").ok K,
  fun K => (He.Fa.glo "_law_rows").ok K,
  fun K => (He.Fa.glo "_law_text").ok K,
  fun K => (He.Fa.glo "_law_lines").ok K,
  fun K => (He.Fa.glo "_law_inner").ok K,
  fun K => (He.Fa.glo "_law_tuples").ok K,
  fun K => (He.Fa.glo "_law_is_choice").ok K,
  fun K => (He.Fa.glo "_law_bent").ok K,
  fun K => (He.Fa.glo "_law_right").ok K,
  fun K => (He.Fa.glo "law").ok K,
  fun K => (He.Fa.free "abs").ok K,
  fun K => (He.Fa.free "all").ok K,
  fun K => (He.Fa.free "bool").ok K,
  fun K => (He.Fa.free "dict").ok K,
  fun K => (He.Fa.free "divmod").ok K,
  fun K => (He.Fa.free "int").ok K,
  fun K => (He.Fa.free "isinstance").ok K,
  fun K => (He.Fa.free "len").ok K,
  fun K => (He.Fa.free "list").ok K,
  fun K => (He.Fa.free "max").ok K,
  fun K => (He.Fa.free "min").ok K,
  fun K => (He.Fa.free "range").ok K,
  fun K => (He.Fa.free "repr").ok K,
  fun K => (He.Fa.free "set").ok K,
  fun K => (He.Fa.free "str").ok K,
  fun K => (He.Fa.free "sum").ok K,
  fun K => (He.Fa.free "tuple").ok K,
  fun K => (He.Fa.free "zip").ok K,
  fun K => (He.Fa.int "MOST_COPIES" 40).ok K,
  fun K => (He.Fa.int "MOST_WEIGHT" 1000000000000).ok K,
  fun K => (He.Fa.int "LONGEST_NAME" 8).ok K,
  fun K => (He.Fa.glo "WORDS").ok K,
  tabB "WORDS" [("has", 2), ("lacks", 2), ("sure", 4), ("never", 4), ("open", 4), ("count", 3), ("best", 4)],
  gsB]
def fn : List DefP := [
  ⟨fun K => He.ga K "is_integer", "is_integer", "is_integer", (top 3)⟩,
  ⟨fun K => He.ga K "is_weight", "is_weight", "is_weight", (top 4)⟩,
  ⟨fun K => He.ga K "is_name", "is_name", "is_name", (top 7)⟩,
  ⟨fun K => He.ga K "is_one_of", "is_one_of", "is_one_of", (top 8)⟩,
  ⟨fun K => He.ga K "read_web", "read_web", "read_web", (top 10)⟩,
  ⟨fun K => He.ga K "is_new_name", "is_new_name", "is_new_name", (top 11)⟩,
  ⟨fun K => He.ga K "are_sources", "are_sources", "are_sources", (top 12)⟩,
  ⟨fun K => He.ga K "first_full", "first_full", "first_full", (top 13)⟩,
  ⟨fun K => He.ga K "_may_be_chosen", "_may_be_chosen", "_may_be_chosen", (top 14)⟩,
  ⟨fun K => He.ga K "accepts", "accepts", "accepts", (top 17)⟩,
  ⟨fun K => He.ga K "_shows_verdict", "_shows_verdict", "_shows_verdict", (top 18)⟩,
  ⟨fun K => He.ga K "_shows_open", "_shows_open", "_shows_open", (top 19)⟩,
  ⟨fun K => He.ga K "_is_choice", "_is_choice", "_is_choice", (top 20)⟩,
  ⟨fun K => He.ga K "_kept", "_kept", "_kept", (top 21)⟩,
  ⟨fun K => He.ga K "_is_short", "_is_short", "_is_short", (top 22)⟩,
  ⟨fun K => He.ga K "_is_lot", "_is_lot", "_is_lot", (top 23)⟩,
  ⟨fun K => He.ga K "_how_many", "_how_many", "_how_many", (top 24)⟩,
  ⟨fun K => He.ga K "_part_with", "_part_with", "_part_with", (top 25)⟩,
  ⟨fun K => He.ga K "_ways_of", "_ways_of", "_ways_of", (top 26)⟩,
  ⟨fun K => He.ga K "_shows_best", "_shows_best", "_shows_best", (top 27)⟩,
  ⟨fun K => He.ga K "_are_prices", "_are_prices", "_are_prices", (top 28)⟩,
  ⟨fun K => He.ga K "_are_integers", "_are_integers", "_are_integers", (top 29)⟩,
  ⟨fun K => He.ga K "_are_so_many", "_are_so_many", "_are_so_many", (top 30)⟩,
  ⟨fun K => He.ga K "_law_urn", "_law_urn", "_law_urn", (top 32)⟩,
  ⟨fun K => He.ga K "_law_pull", "_law_pull", "_law_pull", (top 33)⟩,
  ⟨fun K => He.ga K "_law_of", "_law_of", "_law_of", (top 34)⟩,
  ⟨fun K => He.ga K "_law_words", "_law_words", "_law_words", (top 35)⟩,
  ⟨fun K => He.ga K "_law_rows", "_law_rows", "_law_rows", (top 36)⟩,
  ⟨fun K => He.ga K "_law_text", "_law_text", "_law_text", (top 37)⟩,
  ⟨fun K => He.ga K "_law_lines", "_law_lines", "_law_lines", (top 38)⟩,
  ⟨fun K => He.ga K "_law_inner", "_law_inner", "_law_inner", (top 39)⟩,
  ⟨fun K => He.ga K "_law_tuples", "_law_tuples", "_law_tuples", (top 40)⟩,
  ⟨fun K => He.ga K "_law_is_choice", "_law_is_choice", "_law_is_choice", (top 41)⟩,
  ⟨fun K => He.ga K "_law_bent", "_law_bent", "_law_bent", (top 42)⟩,
  ⟨fun K => He.ga K "_law_right", "_law_right", "_law_right", (top 43)⟩,
  ⟨fun K => He.ga K "law", "law", "law", (top 44)⟩]
abbrev R : PySem.W.OpenRow := PySem.W.OpenLaw.row PySem.Challenge.rw_basetrees_k52_whole_choices_judged
def ts : List TabP := [("WORDS", ["has", "lacks", "sure", "never", "open", "count", "best"])]
abbrev hk : PySem.W.Hook := hookPT 6 fa fn ts
def ob (s : PySem.W.SharedT) : AlPT := obsPTG 6 fa fn ts (HandSHeadRun.getT s)
theorem ob_eq (s : PySem.W.SharedT) : ob s = hk.obs s.abs := obsPTG_eq (HandSHeadRun.getT_eq s)
def loose : List Str := [("MOST_COPIES" : Str), ("MOST_WEIGHT" : Str), ("is_integer" : Str), ("is_weight" : Str), ("LONGEST_NAME" : Str), ("is_name" : Str), ("is_one_of" : Str), ("read_web" : Str), ("is_new_name" : Str), ("are_sources" : Str), ("first_full" : Str), ("_may_be_chosen" : Str), ("WORDS" : Str), ("accepts" : Str), ("_shows_verdict" : Str), ("_shows_open" : Str), ("_is_choice" : Str), ("_kept" : Str), ("_is_short" : Str), ("_is_lot" : Str), ("_how_many" : Str), ("_part_with" : Str), ("_ways_of" : Str), ("_shows_best" : Str), ("_are_prices" : Str), ("_are_integers" : Str), ("_are_so_many" : Str), ("_law_urn" : Str), ("_law_pull" : Str), ("_law_of" : Str), ("_law_words" : Str), ("_law_rows" : Str), ("_law_text" : Str), ("_law_lines" : Str), ("_law_inner" : Str), ("_law_tuples" : Str), ("_law_is_choice" : Str), ("_law_bent" : Str), ("_law_right" : Str)]
theorem run (w : World) : HandSHeadRun.RunEq R (PySem.W.view R.prog [44]) hk ob 4000 loose w := byFT (C := fun w => HandSHeadRun.RunEq R (PySem.W.view R.prog [44]) hk ob 4000 loose w) (fun w => ⟨by
  intro os
  kernel_rfl, by
  intro os
  kernel_rfl⟩) w
end K52
set_option Elab.async false
set_option linter.all false
set_option maxRecDepth 100000
set_option maxHeartbeats 0
namespace K52
open PySem PySem.Spec PyProof.Rows L2 F2
open PySem.W (Frag)
/-- the facts by names -/
structure Txt (K : Frag) (mg : Str → Option Value) (fd : Nat → FuncData) (w : World) : Prop where
  kin : ∃ h : Heap, K.In h ∧ h.Ns mainGlobals mg
  glo_is_integer : mg "is_integer" = some (.ref (He.ga K "is_integer"))
  glo_is_weight : mg "is_weight" = some (.ref (He.ga K "is_weight"))
  glo_is_name : mg "is_name" = some (.ref (He.ga K "is_name"))
  glo_is_one_of : mg "is_one_of" = some (.ref (He.ga K "is_one_of"))
  glo_read_web : mg "read_web" = some (.ref (He.ga K "read_web"))
  glo_is_new_name : mg "is_new_name" = some (.ref (He.ga K "is_new_name"))
  glo_are_sources : mg "are_sources" = some (.ref (He.ga K "are_sources"))
  glo_first_full : mg "first_full" = some (.ref (He.ga K "first_full"))
  glo_may_be_chosen : mg "_may_be_chosen" = some (.ref (He.ga K "_may_be_chosen"))
  glo_accepts : mg "accepts" = some (.ref (He.ga K "accepts"))
  glo_shows_verdict : mg "_shows_verdict" = some (.ref (He.ga K "_shows_verdict"))
  glo_shows_open : mg "_shows_open" = some (.ref (He.ga K "_shows_open"))
  glo_is_choice : mg "_is_choice" = some (.ref (He.ga K "_is_choice"))
  glo_kept : mg "_kept" = some (.ref (He.ga K "_kept"))
  glo_is_short : mg "_is_short" = some (.ref (He.ga K "_is_short"))
  glo_is_lot : mg "_is_lot" = some (.ref (He.ga K "_is_lot"))
  glo_how_many : mg "_how_many" = some (.ref (He.ga K "_how_many"))
  glo_part_with : mg "_part_with" = some (.ref (He.ga K "_part_with"))
  glo_ways_of : mg "_ways_of" = some (.ref (He.ga K "_ways_of"))
  glo_shows_best : mg "_shows_best" = some (.ref (He.ga K "_shows_best"))
  glo_are_prices : mg "_are_prices" = some (.ref (He.ga K "_are_prices"))
  glo_are_integers : mg "_are_integers" = some (.ref (He.ga K "_are_integers"))
  glo_are_so_many : mg "_are_so_many" = some (.ref (He.ga K "_are_so_many"))
  glo_law_urn : mg "_law_urn" = some (.ref (He.ga K "_law_urn"))
  glo_law_pull : mg "_law_pull" = some (.ref (He.ga K "_law_pull"))
  glo_law_of : mg "_law_of" = some (.ref (He.ga K "_law_of"))
  glo_law_words : mg "_law_words" = some (.ref (He.ga K "_law_words"))
  glo_law_rows : mg "_law_rows" = some (.ref (He.ga K "_law_rows"))
  glo_law_text : mg "_law_text" = some (.ref (He.ga K "_law_text"))
  glo_law_lines : mg "_law_lines" = some (.ref (He.ga K "_law_lines"))
  glo_law_inner : mg "_law_inner" = some (.ref (He.ga K "_law_inner"))
  glo_law_tuples : mg "_law_tuples" = some (.ref (He.ga K "_law_tuples"))
  glo_law_is_choice : mg "_law_is_choice" = some (.ref (He.ga K "_law_is_choice"))
  glo_law_bent : mg "_law_bent" = some (.ref (He.ga K "_law_bent"))
  glo_law_right : mg "_law_right" = some (.ref (He.ga K "_law_right"))
  glo_law : mg "law" = some (.ref (He.ga K "law"))
  free_abs : mg "abs" = none
  free_all : mg "all" = none
  free_bool : mg "bool" = none
  free_dict : mg "dict" = none
  free_divmod : mg "divmod" = none
  free_int : mg "int" = none
  free_isinstance : mg "isinstance" = none
  free_len : mg "len" = none
  free_list : mg "list" = none
  free_max : mg "max" = none
  free_min : mg "min" = none
  free_range : mg "range" = none
  free_repr : mg "repr" = none
  free_set : mg "set" = none
  free_str : mg "str" = none
  free_sum : mg "sum" = none
  free_tuple : mg "tuple" = none
  free_zip : mg "zip" = none
  int_MOST_COPIES : (He.Fa.int "MOST_COPIES" 40).ok K = true
  int_MOST_WEIGHT : (He.Fa.int "MOST_WEIGHT" 1000000000000).ok K = true
  int_LONGEST_NAME : (He.Fa.int "LONGEST_NAME" 8).ok K = true
  glo_WORDS : mg "WORDS" = some (.ref (He.ga K "WORDS"))
  tab_WORDS : Tb K w "WORDS" [("has", 2), ("lacks", 2), ("sure", 4), ("never", 4), ("open", 4), ("count", 3), ("best", 4)]
  gs : gsB K = true
  f_is_integer : FnP K "is_integer" "is_integer" (top 3) (He.ga K "is_integer") (fd 0)
  f_is_weight : FnP K "is_weight" "is_weight" (top 4) (He.ga K "is_weight") (fd 1)
  f_is_name : FnP K "is_name" "is_name" (top 7) (He.ga K "is_name") (fd 2)
  f_is_one_of : FnP K "is_one_of" "is_one_of" (top 8) (He.ga K "is_one_of") (fd 3)
  f_read_web : FnP K "read_web" "read_web" (top 10) (He.ga K "read_web") (fd 4)
  f_is_new_name : FnP K "is_new_name" "is_new_name" (top 11) (He.ga K "is_new_name") (fd 5)
  f_are_sources : FnP K "are_sources" "are_sources" (top 12) (He.ga K "are_sources") (fd 6)
  f_first_full : FnP K "first_full" "first_full" (top 13) (He.ga K "first_full") (fd 7)
  f_may_be_chosen : FnP K "_may_be_chosen" "_may_be_chosen" (top 14) (He.ga K "_may_be_chosen") (fd 8)
  f_accepts : FnP K "accepts" "accepts" (top 17) (He.ga K "accepts") (fd 9)
  f_shows_verdict : FnP K "_shows_verdict" "_shows_verdict" (top 18) (He.ga K "_shows_verdict") (fd 10)
  f_shows_open : FnP K "_shows_open" "_shows_open" (top 19) (He.ga K "_shows_open") (fd 11)
  f_is_choice : FnP K "_is_choice" "_is_choice" (top 20) (He.ga K "_is_choice") (fd 12)
  f_kept : FnP K "_kept" "_kept" (top 21) (He.ga K "_kept") (fd 13)
  f_is_short : FnP K "_is_short" "_is_short" (top 22) (He.ga K "_is_short") (fd 14)
  f_is_lot : FnP K "_is_lot" "_is_lot" (top 23) (He.ga K "_is_lot") (fd 15)
  f_how_many : FnP K "_how_many" "_how_many" (top 24) (He.ga K "_how_many") (fd 16)
  f_part_with : FnP K "_part_with" "_part_with" (top 25) (He.ga K "_part_with") (fd 17)
  f_ways_of : FnP K "_ways_of" "_ways_of" (top 26) (He.ga K "_ways_of") (fd 18)
  f_shows_best : FnP K "_shows_best" "_shows_best" (top 27) (He.ga K "_shows_best") (fd 19)
  f_are_prices : FnP K "_are_prices" "_are_prices" (top 28) (He.ga K "_are_prices") (fd 20)
  f_are_integers : FnP K "_are_integers" "_are_integers" (top 29) (He.ga K "_are_integers") (fd 21)
  f_are_so_many : FnP K "_are_so_many" "_are_so_many" (top 30) (He.ga K "_are_so_many") (fd 22)
  f_law_urn : FnP K "_law_urn" "_law_urn" (top 32) (He.ga K "_law_urn") (fd 23)
  f_law_pull : FnP K "_law_pull" "_law_pull" (top 33) (He.ga K "_law_pull") (fd 24)
  f_law_of : FnP K "_law_of" "_law_of" (top 34) (He.ga K "_law_of") (fd 25)
  f_law_words : FnP K "_law_words" "_law_words" (top 35) (He.ga K "_law_words") (fd 26)
  f_law_rows : FnP K "_law_rows" "_law_rows" (top 36) (He.ga K "_law_rows") (fd 27)
  f_law_text : FnP K "_law_text" "_law_text" (top 37) (He.ga K "_law_text") (fd 28)
  f_law_lines : FnP K "_law_lines" "_law_lines" (top 38) (He.ga K "_law_lines") (fd 29)
  f_law_inner : FnP K "_law_inner" "_law_inner" (top 39) (He.ga K "_law_inner") (fd 30)
  f_law_tuples : FnP K "_law_tuples" "_law_tuples" (top 40) (He.ga K "_law_tuples") (fd 31)
  f_law_is_choice : FnP K "_law_is_choice" "_law_is_choice" (top 41) (He.ga K "_law_is_choice") (fd 32)
  f_law_bent : FnP K "_law_bent" "_law_bent" (top 42) (He.ga K "_law_bent") (fd 33)
  f_law_right : FnP K "_law_right" "_law_right" (top 43) (He.ga K "_law_right") (fd 34)
  f_law : FnP K "law" "law" (top 44) (He.ga K "law") (fd 35)
section
variable {P : Program} {w : World} {K : Frag} {mg : Str → Option Value} {base : Heap} {fd : Nat → FuncData}
def m_is_integer : SI := (mRet (mAnd (mIsi "int" (mVar 0)) (mNot (mIsi "bool" (mVar 0)))))
def fn_is_integer : FnI := mkFn 1 1 m_is_integer
theorem len_is_integer : ∀ xs h, (fn_is_integer xs h).isSome = true → xs.length = 1 := mkFn_len
theorem sc_is_integer : FnScope ["value"] ["value"] (defScope (top 3)) := ⟨rfl, rfl, rfl, by decide +kernel, rfl, by decide +kernel, by decide +kernel⟩
theorem b_is_integer (T : Txt K mg fd w) : Binds K (fd 0) ["value"] [] := T.f_is_integer.bindsN fun _ _ _ _ _ _ us hl => match us, hl with | [_], _ => rfl
theorem ok_is_integer (T : Txt K mg fd w) : Ok P w K mg base 1 (He.ga K "is_integer") (fd 0) ["value"] fn_is_integer := by
  exact fn_okP 1 1 T.f_is_integer sc_is_integer rfl rfl fun cdv A outer s H E hr => (s_one (s_ret (e_and (e_isi "int" T.free_isinstance T.free_int (e_var 0)) (e_one (e_not (e_isi "bool" T.free_isinstance T.free_bool (e_var 0)))))))
def m_is_weight : SI := mStuck
def fn_is_weight : FnI := mkFn 1 1 m_is_weight
theorem len_is_weight : ∀ xs h, (fn_is_weight xs h).isSome = true → xs.length = 1 := mkFn_len
theorem sc_is_weight : FnScope ["value"] ["value"] (defScope (top 4)) := ⟨rfl, rfl, rfl, by decide +kernel, rfl, by decide +kernel, by decide +kernel⟩
theorem b_is_weight (T : Txt K mg fd w) : Binds K (fd 1) ["value"] [] := T.f_is_weight.bindsN fun _ _ _ _ _ _ us hl => match us, hl with | [_], _ => rfl
theorem ok_is_weight (T : Txt K mg fd w) : Ok P w K mg base 1 (He.ga K "is_weight") (fd 1) ["value"] fn_is_weight := by
  exact fn_okP 1 1 T.f_is_weight sc_is_weight rfl rfl fun cdv A outer s H E hr => (s_one s_stuck)
def m_is_name : SI := (mSeq (mIfS (mOrT (mNotT (mTru (mIsi "str" (mVar 0)))) (mBl (mBin fGt (mOn (orC fLen fLenD) (mCons (mVar 0) mNil)) (mC (.int 8))))) (mRet (mC (.bl false))) mSkip) (mRet (mAnd (mMet "str" (fStr0 Txt.isascii) (mVar 0) mNil) (mAnd (mMet "str" (fStr0 Txt.isalpha) (mVar 0) mNil) (mMet "str" (fStr0 Txt.islower) (mVar 0) mNil)))))
def fn_is_name : FnI := mkFn 1 1 m_is_name
theorem len_is_name : ∀ xs h, (fn_is_name xs h).isSome = true → xs.length = 1 := mkFn_len
theorem sc_is_name : FnScope ["value"] ["value"] (defScope (top 7)) := ⟨rfl, rfl, rfl, by decide +kernel, rfl, by decide +kernel, by decide +kernel⟩
theorem b_is_name (T : Txt K mg fd w) : Binds K (fd 2) ["value"] [] := T.f_is_name.bindsN fun _ _ _ _ _ _ us hl => match us, hl with | [_], _ => rfl
theorem ok_is_name (T : Txt K mg fd w) : Ok P w K mg base 1 (He.ga K "is_name") (fd 2) ["value"] fn_is_name := by
  obtain ⟨t_LONGEST_NAME, h_LONGEST_NAME⟩ := int_ok2 T.kin T.int_LONGEST_NAME
  exact fn_okP 1 1 T.f_is_name sc_is_name rfl rfl fun cdv A outer s H E hr => (s_cons (s_if (PW.pt (t_or (t_not (t_val (e_isi "str" T.free_isinstance T.free_str (e_var 0)))) (t_or1 (t_cmp o_gt (e_blt (c_len.or c_lenD) T.free_len (a_cons (e_var 0) a_nil)) (e_gint h_LONGEST_NAME))))) (s_one (s_ret e_bl)) s_nil) (s_one (s_ret (e_and (e_met0 PySem.F.plainAttrs_str PySem.F.slot_str_isascii PySem.F.type_str_isascii (m_str0 mt_isascii) (e_var 0)) (e_and (e_met0 PySem.F.plainAttrs_str PySem.F.slot_str_isalpha PySem.F.type_str_isalpha (m_str0 mt_isalpha) (e_var 0)) (e_one (e_met0 PySem.F.plainAttrs_str PySem.F.slot_str_islower PySem.F.type_str_islower (m_str0 mt_islower) (e_var 0))))))))
def m_is_one_of : SI := (mRet (mAnd (mIsi "str" (mVar 0)) (mBin (fIn false) (mVar 0) (mVar 1))))
def fn_is_one_of : FnI := mkFn 2 2 m_is_one_of
theorem len_is_one_of : ∀ xs h, (fn_is_one_of xs h).isSome = true → xs.length = 2 := mkFn_len
theorem sc_is_one_of : FnScope ["value", "names"] ["value", "names"] (defScope (top 8)) := ⟨rfl, rfl, rfl, by decide +kernel, rfl, by decide +kernel, by decide +kernel⟩
theorem b_is_one_of (T : Txt K mg fd w) : Binds K (fd 3) ["value", "names"] [] := T.f_is_one_of.bindsN fun _ _ _ _ _ _ us hl => match us, hl with | [_, _], _ => rfl
theorem ok_is_one_of (T : Txt K mg fd w) : Ok P w K mg base 1 (He.ga K "is_one_of") (fd 3) ["value", "names"] fn_is_one_of := by
  exact fn_okP 2 2 T.f_is_one_of sc_is_one_of rfl rfl fun cdv A outer s H E hr => (s_one (s_ret (e_and (e_isi "str" T.free_isinstance T.free_str (e_var 0)) (e_one (e_cmp (o_in (by exact u65 hr)) (e_var 0) (e_var 1))))))
def m_first_full : SI := (mSeq (mFor (srcQ (mVar 0)) (gN 2) (mIfS (mBl (mBin (fEqD false) (mOn (orC fLen fLenD) (mCons (mBin fIx (mVar 1) (mVar 2)) mNil)) (mC (.int 2)))) (mRet (mVar 2)) mSkip)) (mRet (mC .non)))
def fn_first_full : FnI := mkFn 2 3 m_first_full
theorem len_first_full : ∀ xs h, (fn_first_full xs h).isSome = true → xs.length = 2 := mkFn_len
theorem sc_first_full : FnScope ["sources", "all_copies", "source"] ["sources", "all_copies"] (defScope (top 13)) := ⟨rfl, rfl, rfl, by decide +kernel, rfl, by decide +kernel, by decide +kernel⟩
theorem b_first_full (T : Txt K mg fd w) : Binds K (fd 7) ["sources", "all_copies"] [] := T.f_first_full.bindsN fun _ _ _ _ _ _ us hl => match us, hl with | [_, _], _ => rfl
theorem ok_first_full (T : Txt K mg fd w) : Ok P w K mg base 1 (He.ga K "first_full") (fd 7) ["sources", "all_copies"] fn_first_full := by
  exact fn_okP 2 3 T.f_first_full sc_first_full rfl rfl fun cdv A outer s H E hr => (s_cons (s_for PassesOwn.never rfl (i_seq (e_var 0)) (g_name 2 (by exact sc_first_full.nd)) (s_one (s_if (t_cmp (o_eqD (by exact u64 hr)) (e_blt (c_len.or c_lenD) T.free_len (a_cons (e_ix (by exact u1 hr) (e_var 1) (e_var 2)) a_nil)) e_int) (s_one (s_ret (e_var 2))) s_nil))) (s_one (s_ret e_non)))
def m_are_sources : SI := (mSeq (mIfS (mBl (mBin (fEqD false) (mOn (orC fLen fLenD) (mCons (mVar 0) mNil)) (mC (.int 1)))) (mRet (mCall 2 fn_is_one_of (mCons (mBin fIx (mVar 0) (mC (.int 0))) (mCons (mVar 1) mNil)))) mSkip) (mSeq (mIfS (mBl (mBin (fEqD false) (mOn (orC fLen fLenD) (mCons (mVar 0) mNil)) (mC (.int 2)))) (mRet (mAnd (mCall 2 fn_is_one_of (mCons (mBin fIx (mVar 0) (mC (.int 0))) (mCons (mVar 1) mNil))) (mAnd (mCall 2 fn_is_one_of (mCons (mBin fIx (mVar 0) (mC (.int 1))) (mCons (mVar 1) mNil))) (mBin (fEqD true) (mBin fIx (mVar 0) (mC (.int 0))) (mBin fIx (mVar 0) (mC (.int 1))))))) mSkip) (mRet (mC (.bl false)))))
def fn_are_sources : FnI := mkFn 2 2 m_are_sources
theorem len_are_sources : ∀ xs h, (fn_are_sources xs h).isSome = true → xs.length = 2 := mkFn_len
theorem sc_are_sources : FnScope ["values", "names"] ["values", "names"] (defScope (top 12)) := ⟨rfl, rfl, rfl, by decide +kernel, rfl, by decide +kernel, by decide +kernel⟩
theorem b_are_sources (T : Txt K mg fd w) : Binds K (fd 6) ["values", "names"] [] := T.f_are_sources.bindsN fun _ _ _ _ _ _ us hl => match us, hl with | [_, _], _ => rfl
theorem ok_are_sources (T : Txt K mg fd w) : Ok P w K mg base 2 (He.ga K "are_sources") (fd 6) ["values", "names"] fn_are_sources := by
  exact fn_okP 2 2 T.f_are_sources sc_are_sources rfl rfl fun cdv A outer s H E hr => (s_cons (s_if (t_cmp (o_eqD (by exact u64 hr)) (e_blt (c_len.or c_lenD) T.free_len (a_cons (e_var 0) a_nil)) e_int) (s_one (s_ret (e_call (ok_is_one_of T) (by exact hr.mono (by decide)) T.glo_is_one_of T.f_is_one_of.kp (b_is_one_of T) (a_cons (e_ix (by exact u1 hr) (e_var 0) e_int) (a_cons (e_var 1) a_nil))))) s_nil) (s_cons (s_if (t_cmp (o_eqD (by exact u64 hr)) (e_blt (c_len.or c_lenD) T.free_len (a_cons (e_var 0) a_nil)) e_int) (s_one (s_ret (e_and (e_call (ok_is_one_of T) (by exact hr.mono (by decide)) T.glo_is_one_of T.f_is_one_of.kp (b_is_one_of T) (a_cons (e_ix (by exact u1 hr) (e_var 0) e_int) (a_cons (e_var 1) a_nil))) (e_and (e_call (ok_is_one_of T) (by exact hr.mono (by decide)) T.glo_is_one_of T.f_is_one_of.kp (b_is_one_of T) (a_cons (e_ix (by exact u1 hr) (e_var 0) e_int) (a_cons (e_var 1) a_nil))) (e_one (e_cmp (o_neD (by exact u64 hr)) (e_ix (by exact u1 hr) (e_var 0) e_int) (e_ix (by exact u1 hr) (e_var 0) e_int))))))) s_nil) (s_one (s_ret e_bl))))
def m_may_be_chosen : SI := (mSeq (mIfS (mNotT (mTru (mVar 1))) (mRet (mNot (mVar 0))) mSkip) (mRet (mAnd (mCall 2 fn_are_sources (mCons (mVar 0) (mCons (mVar 1) mNil))) (mBin (fIs false) (mCall 2 fn_first_full (mCons (mVar 0) (mCons (mVar 1) mNil))) (mC .non)))))
def fn_may_be_chosen : FnI := mkFn 2 2 m_may_be_chosen
theorem len_may_be_chosen : ∀ xs h, (fn_may_be_chosen xs h).isSome = true → xs.length = 2 := mkFn_len
theorem sc_may_be_chosen : FnScope ["sources", "all_copies"] ["sources", "all_copies"] (defScope (top 14)) := ⟨rfl, rfl, rfl, by decide +kernel, rfl, by decide +kernel, by decide +kernel⟩
theorem b_may_be_chosen (T : Txt K mg fd w) : Binds K (fd 8) ["sources", "all_copies"] [] := T.f_may_be_chosen.bindsN fun _ _ _ _ _ _ us hl => match us, hl with | [_, _], _ => rfl
theorem ok_may_be_chosen (T : Txt K mg fd w) : Ok P w K mg base 3 (He.ga K "_may_be_chosen") (fd 8) ["sources", "all_copies"] fn_may_be_chosen := by
  exact fn_okP 2 2 T.f_may_be_chosen sc_may_be_chosen rfl rfl fun cdv A outer s H E hr => (s_cons (s_if (t_not (t_val (e_var 1))) (s_one (s_ret (e_not (e_var 0)))) s_nil) (s_one (s_ret (e_and (e_call (ok_are_sources T) (by exact hr.mono (by decide)) T.glo_are_sources T.f_are_sources.kp (b_are_sources T) (a_cons (e_var 0) (a_cons (e_var 1) a_nil))) (e_one (e_cmp o_is (e_call (ok_first_full T) (by exact hr.mono (by decide)) T.glo_first_full T.f_first_full.kp (b_first_full T) (a_cons (e_var 0) (a_cons (e_var 1) a_nil))) e_non))))))
def m_is_new_name : SI := (mRet (mAnd (mCall 1 fn_is_name (mCons (mVar 0) mNil)) (mBin (fIn true) (mVar 0) (mVar 1))))
def fn_is_new_name : FnI := mkFn 2 2 m_is_new_name
theorem len_is_new_name : ∀ xs h, (fn_is_new_name xs h).isSome = true → xs.length = 2 := mkFn_len
theorem sc_is_new_name : FnScope ["value", "names"] ["value", "names"] (defScope (top 11)) := ⟨rfl, rfl, rfl, by decide +kernel, rfl, by decide +kernel, by decide +kernel⟩
theorem b_is_new_name (T : Txt K mg fd w) : Binds K (fd 5) ["value", "names"] [] := T.f_is_new_name.bindsN fun _ _ _ _ _ _ us hl => match us, hl with | [_, _], _ => rfl
theorem ok_is_new_name (T : Txt K mg fd w) : Ok P w K mg base 2 (He.ga K "is_new_name") (fd 5) ["value", "names"] fn_is_new_name := by
  exact fn_okP 2 2 T.f_is_new_name sc_is_new_name rfl rfl fun cdv A outer s H E hr => (s_one (s_ret (e_and (e_call (ok_is_name T) (by exact hr.mono (by decide)) T.glo_is_name T.f_is_name.kp (b_is_name T) (a_cons (e_var 0) a_nil)) (e_one (e_cmp (o_notIn (by exact u65 hr)) (e_var 0) (e_var 1))))))
def m_read_web : SI := (mSeq (mIfS (mNotT (mTru (mIsi "str" (mVar 0)))) (mRet (mC .non)) mSkip) (mSeq (mAsg (mDnewK true) (gN 1)) (mSeq (mAsg (mDnewK true) (gN 2)) (mSeq (mFor (srcQ (mMet "str" (fSplit false) (mVar 0) (mCons (mC (.str "; ")) mNil))) (gN 3) (mSeq (mAsg (mMet "str" (fSplit false) (mVar 3) (mCons (mC (.str " ")) mNil)) (gStar1 (gN 4) (gN 5))) (mSeq (mIfS (mOrT (mNotT (mTru (mCall 2 fn_is_new_name (mCons (mVar 4) (mCons (mVar 2) mNil))))) (mNotT (mTru (mCall 2 fn_may_be_chosen (mCons (mVar 5) (mCons (mVar 2) mNil)))))) (mRet (mC .non)) mSkip) (mSeq (mFor (srcQ (mVar 5)) (gN 6) (mDrop (mMet "list" fAppend (mBin fIx (mVar 2) (mVar 6)) (mCons (mVar 4) mNil)))) (mSeq (mAsg (mVar 5) (gSub (mVar 1) (mVar 4))) (mAsg (mOn (mkL true) mNil) (gSub (mVar 2) (mVar 4)))))))) (mSeq (mIfS (mBl (mBin fGt (mOn (orC fLen fLenD) (mCons (mVar 1) mNil)) (mC (.int 40)))) (mRet (mC .non)) mSkip) (mRet (mOn mkT (mCons (mVar 1) (mCons (mVar 2) mNil)))))))))
def fn_read_web : FnI := mkFn 1 7 m_read_web
theorem len_read_web : ∀ xs h, (fn_read_web xs h).isSome = true → xs.length = 1 := mkFn_len
theorem sc_read_web : FnScope ["text", "all_sources", "all_copies", "part", "name", "sources", "source"] ["text"] (defScope (top 10)) := ⟨rfl, rfl, rfl, by decide +kernel, rfl, by decide +kernel, by decide +kernel⟩
theorem b_read_web (T : Txt K mg fd w) : Binds K (fd 4) ["text"] [] := T.f_read_web.bindsN fun _ _ _ _ _ _ us hl => match us, hl with | [_], _ => rfl
theorem ok_read_web (T : Txt K mg fd w) : Ok P w K mg base 4 (He.ga K "read_web") (fd 4) ["text"] fn_read_web := by
  obtain ⟨t_MOST_COPIES, h_MOST_COPIES⟩ := int_ok2 T.kin T.int_MOST_COPIES
  exact fn_okP 1 7 T.f_read_web sc_read_web rfl rfl fun cdv A outer s H E hr => (s_cons (s_if (t_not (t_val (e_isi "str" T.free_isinstance T.free_str (e_var 0)))) (s_one (s_ret e_non)) s_nil) (s_cons (s_set 1 (by exact sc_read_web.nd) (e_dnewK true)) (s_cons (s_set 2 (by exact sc_read_web.nd) (e_dnewK true)) (s_cons (s_for PassesOwn.never rfl (i_seq (e_met PySem.F.plainAttrs_str PySem.F.slot_str_split PySem.F.type_str_split (m_split (cell := false)) (e_var 0) (a_cons e_str a_nil))) (g_name 3 (by exact sc_read_web.nd)) (s_cons (s_asg (e_met PySem.F.plainAttrs_str PySem.F.slot_str_split PySem.F.type_str_split (m_split (cell := false)) (e_var 3) (a_cons e_str a_nil)) (g_star1 rfl (pg_name (by exact sc_read_web.nd) rfl (Or.inl rfl) (.inl rfl)) (pg_name (by exact sc_read_web.nd) rfl (Or.inl rfl) (.inl rfl)))) (s_cons (s_if (PW.pt (t_or (t_not (t_val (e_call (ok_is_new_name T) (by exact hr.mono (by decide)) T.glo_is_new_name T.f_is_new_name.kp (b_is_new_name T) (a_cons (e_var 4) (a_cons (e_var 2) a_nil))))) (t_or1 (t_not (t_val (e_call (ok_may_be_chosen T) (by exact hr.mono (by decide)) T.glo_may_be_chosen T.f_may_be_chosen.kp (b_may_be_chosen T) (a_cons (e_var 5) (a_cons (e_var 2) a_nil)))))))) (s_one (s_ret e_non)) s_nil) (s_cons (s_for PassesOwn.never rfl (i_seq (e_var 5)) (g_name 6 (by exact sc_read_web.nd)) (s_one (s_expr (e_met PySem.F.plainAttrs_list PySem.F.slot_list_append PySem.F.type_list_append m_append (e_ix (by exact u1 hr) (e_var 2) (e_var 6)) (a_cons (e_var 4) a_nil))))) (s_cons (s_put (by exact u1 hr) (e_var 1) (e_var 4) (e_var 5)) (s_one (s_put (by exact u1 hr) (e_var 2) (e_var 4) (e_lst true a_nil)))))))) (s_cons (s_if (t_cmp o_gt (e_blt (c_len.or c_lenD) T.free_len (a_cons (e_var 1) a_nil)) (e_gint h_MOST_COPIES)) (s_one (s_ret e_non)) s_nil) (s_one (s_ret (e_tup (a_cons (e_var 1) (a_cons (e_var 2) a_nil))))))))))
def m_are_so_many : SI := (mRet (mAnd (mIsi "tuple" (mVar 0)) (mBin (fEqD false) (mOn (orC fLen fLenD) (mCons (mVar 0) mNil)) (mVar 1))))
def fn_are_so_many : FnI := mkFn 2 2 m_are_so_many
theorem len_are_so_many : ∀ xs h, (fn_are_so_many xs h).isSome = true → xs.length = 2 := mkFn_len
theorem sc_are_so_many : FnScope ["value", "many"] ["value", "many"] (defScope (top 30)) := ⟨rfl, rfl, rfl, by decide +kernel, rfl, by decide +kernel, by decide +kernel⟩
theorem b_are_so_many (T : Txt K mg fd w) : Binds K (fd 22) ["value", "many"] [] := T.f_are_so_many.bindsN fun _ _ _ _ _ _ us hl => match us, hl with | [_, _], _ => rfl
theorem ok_are_so_many (T : Txt K mg fd w) : Ok P w K mg base 1 (He.ga K "_are_so_many") (fd 22) ["value", "many"] fn_are_so_many := by
  exact fn_okP 2 2 T.f_are_so_many sc_are_so_many rfl rfl fun cdv A outer s H E hr => (s_one (s_ret (e_and (e_isi "tuple" T.free_isinstance T.free_tuple (e_var 0)) (e_one (e_cmp (o_eqD (by exact u64 hr)) (e_blt (c_len.or c_lenD) T.free_len (a_cons (e_var 0) a_nil)) (e_var 1))))))
def m_kept : SI := (mRet (mOn fZipL (mCons (mVar 1) (mCons (mSlc false (mOn (fListD false) (mCons (mVar 0) mNil)) (some (mC (.int 1))) none) mNil))))
def fn_kept : FnI := mkFn 2 2 m_kept
theorem len_kept : ∀ xs h, (fn_kept xs h).isSome = true → xs.length = 2 := mkFn_len
theorem sc_kept : FnScope ["all_sources", "chosen"] ["all_sources", "chosen"] (defScope (top 21)) := ⟨rfl, rfl, rfl, by decide +kernel, rfl, by decide +kernel, by decide +kernel⟩
theorem b_kept (T : Txt K mg fd w) : Binds K (fd 13) ["all_sources", "chosen"] [] := T.f_kept.bindsN fun _ _ _ _ _ _ us hl => match us, hl with | [_, _], _ => rfl
theorem ok_kept (T : Txt K mg fd w) : Ok P w K mg base 1 (He.ga K "_kept") (fd 13) ["all_sources", "chosen"] fn_kept := by
  exact fn_okP 2 2 T.f_kept sc_kept rfl rfl fun cdv A outer s H E hr => (s_one (s_ret (e_zipL rfl T.free_list T.free_zip (a_cons (e_var 1) (a_cons (e_slc false (e_bty (c_listD (cell := false) rfl) T.free_list (a_cons (e_var 0) a_nil)) (p_some e_int) p_none) a_nil)))))
def m_is_choice : SI := (mSeq (mIfS (mNotT (mTru (mCall 2 fn_are_so_many (mCons (mVar 2) (mCons (mBin fSub (mOn (orC fLen fLenD) (mCons (mVar 0) mNil)) (mC (.int 1))) mNil))))) (mRet (mC (.bl false))) mSkip) (mSeq (mIfS (mNotT (mTru (mOn fAll (mCons (mLc false (srcQ (mCall 2 fn_kept (mCons (mVar 0) (mCons (mVar 2) mNil)))) (gT 2 (gsCons (gN 3) (gsCons (gN 4) gsNil))) mYes (mCall 2 fn_is_one_of (mCons (mVar 3) (mCons (mBin fIx (mVar 0) (mVar 4)) mNil))) [3, 4]) mNil)))) (mRet (mC (.bl false))) mSkip) (mRet (mOn fAll (mCons (mLock 1 (mLc false (srcK (mVar 1)) (gN 5) (mTru (mBin fIx (mVar 1) (mVar 5))) (mBin (orF (fIn false) (fInT false)) (mVar 5) (mVar 2)) [5])) mNil)))))
def fn_is_choice : FnI := mkFn 3 6 m_is_choice
theorem len_is_choice : ∀ xs h, (fn_is_choice xs h).isSome = true → xs.length = 3 := mkFn_len
theorem sc_is_choice : FnScope ["all_sources", "all_copies", "value", "source", "copy", "name"] ["all_sources", "all_copies", "value"] (defScope (top 20)) := ⟨rfl, rfl, rfl, by decide +kernel, rfl, by decide +kernel, by decide +kernel⟩
theorem b_is_choice (T : Txt K mg fd w) : Binds K (fd 12) ["all_sources", "all_copies", "value"] [] := T.f_is_choice.bindsN fun _ _ _ _ _ _ us hl => match us, hl with | [_, _, _], _ => rfl
theorem ok_is_choice (T : Txt K mg fd w) : Ok P w K mg base 2 (He.ga K "_is_choice") (fd 12) ["all_sources", "all_copies", "value"] fn_is_choice := by
  exact fn_okP 3 6 T.f_is_choice sc_is_choice rfl rfl fun cdv A outer s H E hr => (s_cons (s_if (t_not (t_val (e_call (ok_are_so_many T) (by exact hr.mono (by decide)) T.glo_are_so_many T.f_are_so_many.kp (b_are_so_many T) (a_cons (e_var 2) (a_cons (e_bin o_sub (e_blt (c_len.or c_lenD) T.free_len (a_cons (e_var 0) a_nil)) e_int) a_nil))))) (s_one (s_ret e_bl)) s_nil) (s_cons (s_if (t_not (t_val (e_blt (c_all rfl) T.free_all (a_cons (e_lc false rfl (by exact sc_is_choice.nd) (i_seq (e_call (ok_kept T) (by exact hr.mono (by decide)) T.glo_kept T.f_kept.kp (b_kept T) (a_cons (e_var 0) (a_cons (e_var 2) a_nil)))) (blkOk_by (own := [("source", 3), ("copy", 4)]) rfl) (fun _ _ _ _ _ => (gw_tup (n := 2) rfl (gsw_cons (gw_name [3, 4] 3 (by exact sc_is_choice.nd)) (gsw_cons (gw_name [3, 4] 4 (by exact sc_is_choice.nd)) (gsw_nil [3, 4]))))) (fun _ _ _ _ _ => ts_nil) (fun _ _ _ _ _ => (e_call (ok_is_one_of T) (by exact hr.mono (by decide)) T.glo_is_one_of T.f_is_one_of.kp (b_is_one_of T) (a_cons (e_var 3) (a_cons (e_ix (by exact u1 hr) (e_var 0) (e_var 4)) a_nil))))) a_nil)))) (s_one (s_ret e_bl)) s_nil) (s_one (s_ret (e_blt (c_all rfl) T.free_all (a_cons (e_lock 1 (e_lc false rfl (by exact sc_is_choice.nd) (i_keys (e_var 1)) (blkOk_by (own := [("name", 5)]) rfl) (fun _ _ _ _ _ => (gw_name [5] 5 (by exact sc_is_choice.nd))) (fun _ _ _ _ _ => (ts_one (t_val (e_ix (by exact u1 hr) (e_var 1) (e_var 5))))) (fun _ _ _ _ _ => (e_cmp ((o_in (by exact u65 hr)).or (o_inT (by exact u65 hr))) (e_var 5) (e_var 2))))) a_nil))))))
def m_is_lot : SI := (mSeq (mIfS (mOrT (mNotT (mTru (mIsi "tuple" (mVar 1)))) (mNotT (mTru (mOn fAll (mCons (mLc false (srcQ (mVar 1)) (gN 2) mYes (mCall 2 fn_is_one_of (mCons (mVar 2) (mCons (mVar 0) mNil))) [2]) mNil))))) (mRet (mC (.bl false))) mSkip) (mRet (mBin (fEqD false) (mVar 1) (mOn (orC fTuple fTupD) (mCons (mLc false (srcQ (mVar 0)) (gN 2) (mAndT (mBl (mBin (fIn false) (mVar 2) (mVar 1))) (mTru (mBin fIx (mVar 0) (mVar 2)))) (mVar 2) [2]) mNil)))))
def fn_is_lot : FnI := mkFn 2 3 m_is_lot
theorem len_is_lot : ∀ xs h, (fn_is_lot xs h).isSome = true → xs.length = 2 := mkFn_len
theorem sc_is_lot : FnScope ["all_copies", "value", "name"] ["all_copies", "value"] (defScope (top 23)) := ⟨rfl, rfl, rfl, by decide +kernel, rfl, by decide +kernel, by decide +kernel⟩
theorem b_is_lot (T : Txt K mg fd w) : Binds K (fd 15) ["all_copies", "value"] [] := T.f_is_lot.bindsN fun _ _ _ _ _ _ us hl => match us, hl with | [_, _], _ => rfl
theorem ok_is_lot (T : Txt K mg fd w) : Ok P w K mg base 2 (He.ga K "_is_lot") (fd 15) ["all_copies", "value"] fn_is_lot := by
  exact fn_okP 2 3 T.f_is_lot sc_is_lot rfl rfl fun cdv A outer s H E hr => (s_cons (s_if (PW.pt (t_or (t_not (t_val (e_isi "tuple" T.free_isinstance T.free_tuple (e_var 1)))) (t_or1 (t_not (t_val (e_blt (c_all rfl) T.free_all (a_cons (e_lc false rfl (by exact sc_is_lot.nd) (i_seq (e_var 1)) (blkOk_by (own := [("name", 2)]) rfl) (fun _ _ _ _ _ => (gw_name [2] 2 (by exact sc_is_lot.nd))) (fun _ _ _ _ _ => ts_nil) (fun _ _ _ _ _ => (e_call (ok_is_one_of T) (by exact hr.mono (by decide)) T.glo_is_one_of T.f_is_one_of.kp (b_is_one_of T) (a_cons (e_var 2) (a_cons (e_var 0) a_nil))))) a_nil))))))) (s_one (s_ret e_bl)) s_nil) (s_one (s_ret (e_cmp (o_eqD (by exact u64 hr)) (e_var 1) (e_bty (c_tuple.or (c_tupD rfl)) T.free_tuple (a_cons (e_lc false rfl (by exact sc_is_lot.nd) (i_seq (e_var 0)) (blkOk_by (own := [("name", 2)]) rfl) (fun _ _ _ _ _ => (gw_name [2] 2 (by exact sc_is_lot.nd))) (fun _ _ _ _ _ => (ts_one (PW.pt (t_and (t_cmp (o_in (by exact u65 hr)) (e_var 2) (e_var 1)) (t_and1 (t_val (e_ix (by exact u1 hr) (e_var 0) (e_var 2)))))))) (fun _ _ _ _ _ => (e_var 2))) a_nil))))))
def m_is_short : SI := (mSeq (mIfS (mNotT (mTru (mCall 2 fn_is_lot (mCons (mVar 0) (mCons (mVar 1) mNil))))) (mRet (mC (.bl false))) mSkip) (mSeq mStuck mStuck))
def fn_is_short : FnI := mkFn 3 6 m_is_short
theorem len_is_short : ∀ xs h, (fn_is_short xs h).isSome = true → xs.length = 3 := mkFn_len
theorem sc_is_short : FnScope ["all_copies", "value", "left_out", "copies", "name", "copy"] ["all_copies", "value", "left_out"] (defScope (top 22)) := ⟨rfl, rfl, rfl, by decide +kernel, rfl, by decide +kernel, by decide +kernel⟩
theorem b_is_short (T : Txt K mg fd w) : Binds K (fd 14) ["all_copies", "value", "left_out"] [] := T.f_is_short.bindsN fun _ _ _ _ _ _ us hl => match us, hl with | [_, _, _], _ => rfl
theorem ok_is_short (T : Txt K mg fd w) : Ok P w K mg base 3 (He.ga K "_is_short") (fd 14) ["all_copies", "value", "left_out"] fn_is_short := by
  exact fn_okP 3 6 T.f_is_short sc_is_short rfl rfl fun cdv A outer s H E hr => (s_cons (s_if (t_not (t_val (e_call (ok_is_lot T) (by exact hr.mono (by decide)) T.glo_is_lot T.f_is_lot.kp (b_is_lot T) (a_cons (e_var 0) (a_cons (e_var 1) a_nil))))) (s_one (s_ret e_bl)) s_nil) (s_cons s_stuck (s_one s_stuck)))
def m_part_with : SI := (mSeq (mAsg (mOn (mkL true) mNil) (gN 3)) (mSeq (mAsg (mOn (mkL true) (mCons (mVar 0) mNil)) (gN 4)) (mSeq (mWhile (mTru (mVar 4)) (mSeq mStuck (mIfS (mBl (mBin (fIn true) (mVar 5) (mVar 3))) (mSeq (mDrop (mMet "list" fAppend (mVar 3) (mCons (mVar 5) mNil))) mStuck) mSkip))) (mRet (mVar 3)))))
def fn_part_with : FnI := mkFn 3 8 m_part_with
theorem len_part_with : ∀ xs h, (fn_part_with xs h).isSome = true → xs.length = 3 := mkFn_len
theorem sc_part_with : FnScope ["first", "all_sources", "all_copies", "part", "waiting", "copy", "source", "other"] ["first", "all_sources", "all_copies"] (defScope (top 25)) := ⟨rfl, rfl, rfl, by decide +kernel, rfl, by decide +kernel, by decide +kernel⟩
theorem b_part_with (T : Txt K mg fd w) : Binds K (fd 17) ["first", "all_sources", "all_copies"] [] := T.f_part_with.bindsN fun _ _ _ _ _ _ us hl => match us, hl with | [_, _, _], _ => rfl
theorem ok_part_with (T : Txt K mg fd w) : Ok P w K mg base 1 (He.ga K "_part_with") (fd 17) ["first", "all_sources", "all_copies"] fn_part_with := by
  exact fn_okP 3 8 T.f_part_with sc_part_with rfl rfl fun cdv A outer s H E hr => (s_cons (s_set 3 (by exact sc_part_with.nd) (e_lst true a_nil)) (s_cons (s_set 4 (by exact sc_part_with.nd) (e_lst true (a_cons (e_var 0) a_nil))) (s_cons (s_while PassesOwn.never (t_val (e_var 4)) (s_cons s_stuck (s_one (s_if (t_cmp (o_notIn (by exact u65 hr)) (e_var 5) (e_var 3)) (s_cons (s_expr (e_met PySem.F.plainAttrs_list PySem.F.slot_list_append PySem.F.type_list_append m_append (e_var 3) (a_cons (e_var 5) a_nil))) (s_one s_stuck)) s_nil)))) (s_one (s_ret (e_var 3))))))
def m_ways_of : SI := (mSeq mStuck (mSeq (mIfS (mBl (mBin fGt (mVar 2) (mVar 1))) (mRet (mC (.int 0))) mSkip) (mSeq (mIfS (mBl (mBin fLt (mVar 2) (mVar 1))) (mRet (mVar 2)) mSkip) (mRet (mIf (mBl (mBin (fEqD false) (mOn (orC fLen fLenD) (mCons (mVar 0) mNil)) (mBin (fAdd false) (mVar 2) (mVar 1)))) (mC (.int 2)) (mC (.int 1)))))))
def fn_ways_of : FnI := mkFn 2 3 m_ways_of
theorem len_ways_of : ∀ xs h, (fn_ways_of xs h).isSome = true → xs.length = 2 := mkFn_len
theorem sc_ways_of : FnScope ["offered", "many_copies", "many_sources"] ["offered", "many_copies"] (defScope (top 26)) := ⟨rfl, rfl, rfl, by decide +kernel, rfl, by decide +kernel, by decide +kernel⟩
theorem b_ways_of (T : Txt K mg fd w) : Binds K (fd 18) ["offered", "many_copies"] [] := T.f_ways_of.bindsN fun _ _ _ _ _ _ us hl => match us, hl with | [_, _], _ => rfl
theorem ok_ways_of (T : Txt K mg fd w) : Ok P w K mg base 1 (He.ga K "_ways_of") (fd 18) ["offered", "many_copies"] fn_ways_of := by
  exact fn_okP 2 3 T.f_ways_of sc_ways_of rfl rfl fun cdv A outer s H E hr => (s_cons s_stuck (s_cons (s_if (t_cmp o_gt (e_var 2) (e_var 1)) (s_one (s_ret e_int)) s_nil) (s_cons (s_if (t_cmp o_lt (e_var 2) (e_var 1)) (s_one (s_ret (e_var 2))) s_nil) (s_one (s_ret (e_if (t_cmp (o_eqD (by exact u64 hr)) (e_blt (c_len.or c_lenD) T.free_len (a_cons (e_var 0) a_nil)) (e_bin (o_add (cell := false)) (e_var 2) (e_var 1))) e_int e_int))))))
def m_how_many : SI := (mSeq (mAsg (mC (.int 1)) (gN 2)) (mSeq (mAsg (mSlc false (mOn (fList false) (mCons (mVar 0) mNil)) (some (mC (.int 1))) none) (gN 3)) (mSeq (mWhile (mTru (mVar 3)) (mSeq (mAsg (mCall 3 fn_part_with (mCons (mBin fIx (mVar 3) (mC (.int 0))) (mCons (mVar 0) (mCons (mVar 1) mNil)))) (gN 4)) (mSeq (mAsg (mLc false (srcQ (mVar 3)) (gN 5) (mBl (mBin (fIn true) (mVar 5) (mVar 4))) (mVar 5) [5]) (gN 3)) (mAsg (mBin (orF fMulI (orF fMulS (fMulL false))) (mVar 2) (mCall 2 fn_ways_of (mCons (mLc2 false (srcQ (mVar 4)) (gN 5) mYes (srcQ (mBin fIx (mVar 0) (mVar 5))) (gN 6) mYes (mVar 6) [5, 6] [6]) (mCons (mOn (orC fLen fLenD) (mCons (mVar 4) mNil)) mNil)))) (gN 2))))) (mRet (mVar 2)))))
def fn_how_many : FnI := mkFn 2 7 m_how_many
theorem len_how_many : ∀ xs h, (fn_how_many xs h).isSome = true → xs.length = 2 := mkFn_len
theorem sc_how_many : FnScope ["all_sources", "all_copies", "many", "left", "part", "copy", "source"] ["all_sources", "all_copies"] (defScope (top 24)) := ⟨rfl, rfl, rfl, by decide +kernel, rfl, by decide +kernel, by decide +kernel⟩
theorem b_how_many (T : Txt K mg fd w) : Binds K (fd 16) ["all_sources", "all_copies"] [] := T.f_how_many.bindsN fun _ _ _ _ _ _ us hl => match us, hl with | [_, _], _ => rfl
theorem ok_how_many (T : Txt K mg fd w) : Ok P w K mg base 2 (He.ga K "_how_many") (fd 16) ["all_sources", "all_copies"] fn_how_many := by
  exact fn_okP 2 7 T.f_how_many sc_how_many rfl rfl fun cdv A outer s H E hr => (s_cons (s_set 2 (by exact sc_how_many.nd) e_int) (s_cons (s_set 3 (by exact sc_how_many.nd) (e_slc false (e_bty (c_list (cell := false)) T.free_list (a_cons (e_var 0) a_nil)) (p_some e_int) p_none)) (s_cons (s_while PassesOwn.never (t_val (e_var 3)) (s_cons (s_set 4 (by exact sc_how_many.nd) (e_call (ok_part_with T) (by exact hr.mono (by decide)) T.glo_part_with T.f_part_with.kp (b_part_with T) (a_cons (e_ix (by exact u1 hr) (e_var 3) e_int) (a_cons (e_var 0) (a_cons (e_var 1) a_nil))))) (s_cons (s_setLc false 3 rfl (by exact sc_how_many.nd) (i_seq (e_var 3)) (blkOk_by (own := [("copy", 5)]) rfl) (fun _ _ _ _ _ => (gw_name [5] 5 (by exact sc_how_many.nd))) (fun _ _ _ _ _ => (ts_one (t_cmp (o_notIn (by exact u65 hr)) (e_var 5) (e_var 4)))) (fun _ _ _ _ _ => (e_var 5))) (s_one (s_set 2 (by exact sc_how_many.nd) (e_bin (o_mulI.or (o_mulS.or (o_mulL (cell := false)))) (e_var 2) (e_call (ok_ways_of T) (by exact hr.mono (by decide)) T.glo_ways_of T.f_ways_of.kp (b_ways_of T) (a_cons (e_lc2 false rfl (by exact sc_how_many.nd) (i_seq (e_var 4)) (blkOk_by (own := [("copy", 5), ("source", 6)]) rfl) (vs1 := [6]) (by decide) (fun _ _ _ _ _ => (gw_name [5, 6] 5 (by exact sc_how_many.nd))) (fun _ _ _ _ _ => ts_nil) (fun _ _ _ _ _ => (i_seq (e_ix (by exact u1 hr) (e_var 0) (e_var 5)))) (fun _ _ _ _ _ => (gw_name [6] 6 (by exact sc_how_many.nd))) (fun _ _ _ _ _ => ts_nil) (fun _ _ _ _ _ => (e_var 6))) (a_cons (e_blt (c_len.or c_lenD) T.free_len (a_cons (e_var 4) a_nil)) a_nil))))))))) (s_one (s_ret (e_var 2))))))
def m_are_integers : SI := (mRet (mAnd (mCall 2 fn_are_so_many (mCons (mVar 0) (mCons (mVar 1) mNil))) (mOn fAll (mCons (mLc false (srcQ (mVar 0)) (gN 2) mYes (mCall 1 fn_is_integer (mCons (mVar 2) mNil)) [2]) mNil))))
def fn_are_integers : FnI := mkFn 2 3 m_are_integers
theorem len_are_integers : ∀ xs h, (fn_are_integers xs h).isSome = true → xs.length = 2 := mkFn_len
theorem sc_are_integers : FnScope ["value", "many", "part"] ["value", "many"] (defScope (top 29)) := ⟨rfl, rfl, rfl, by decide +kernel, rfl, by decide +kernel, by decide +kernel⟩
theorem b_are_integers (T : Txt K mg fd w) : Binds K (fd 21) ["value", "many"] [] := T.f_are_integers.bindsN fun _ _ _ _ _ _ us hl => match us, hl with | [_, _], _ => rfl
theorem ok_are_integers (T : Txt K mg fd w) : Ok P w K mg base 2 (He.ga K "_are_integers") (fd 21) ["value", "many"] fn_are_integers := by
  exact fn_okP 2 3 T.f_are_integers sc_are_integers rfl rfl fun cdv A outer s H E hr => (s_one (s_ret (e_and (e_call (ok_are_so_many T) (by exact hr.mono (by decide)) T.glo_are_so_many T.f_are_so_many.kp (b_are_so_many T) (a_cons (e_var 0) (a_cons (e_var 1) a_nil))) (e_one (e_blt (c_all rfl) T.free_all (a_cons (e_lc false rfl (by exact sc_are_integers.nd) (i_seq (e_var 0)) (blkOk_by (own := [("part", 2)]) rfl) (fun _ _ _ _ _ => (gw_name [2] 2 (by exact sc_are_integers.nd))) (fun _ _ _ _ _ => ts_nil) (fun _ _ _ _ _ => (e_call (ok_is_integer T) (by exact hr.mono (by decide)) T.glo_is_integer T.f_is_integer.kp (b_is_integer T) (a_cons (e_var 2) a_nil)))) a_nil))))))
def m_are_prices : SI := (mSeq (mAsg (mSlc false (mOn (fList false) (mCons (mVar 0) mNil)) (some (mC (.int 1))) none) (gN 4)) (mSeq (mAsg (mLc false (srcQ (mVar 0)) (gN 6) (mTru (mBin fIx (mVar 0) (mVar 6))) (mVar 6) [6]) (gN 5)) (mSeq (mIfS (mOrT (mNotT (mTru (mCall 2 fn_are_so_many (mCons (mVar 3) (mCons (mC (.int 2)) mNil))))) (mNotT (mTru (mCall 2 fn_are_integers (mCons (mBin fIx (mVar 3) (mC (.int 0))) (mCons (mOn (orC fLen fLenD) (mCons (mVar 4) mNil)) mNil)))))) (mRet (mC (.bl false))) mSkip) (mSeq (mIfS (mOrT (mNotT (mTru (mCall 2 fn_are_integers (mCons (mBin fIx (mVar 3) (mC (.int 1))) (mCons (mOn (orC fLen fLenD) (mCons (mVar 5) mNil)) mNil))))) (mNotT (mTru (mOn fAll (mCons (mLc false (srcQ (mBin fIx (mVar 3) (mC (.int 1)))) (gN 7) mYes (mBin fGe (mVar 7) (mC (.int 0))) [7]) mNil))))) (mRet (mC (.bl false))) mSkip) (mSeq mStuck (mSeq mStuck (mSeq (mIfS (mNotT (mTru (mOn fAll (mCons (mLc false (srcQ (mVar 1)) (gT 2 (gsCons (gN 10) (gsCons (gN 11) gsNil))) mYes (mBin fLe (mBin fIx (mVar 1) (mOn mkT (mCons (mVar 10) (mCons (mVar 11) mNil)))) (mBin fSub (mBin fIx (mVar 8) (mVar 11)) (mBin fIx (mVar 9) (mVar 10)))) [10, 11]) mNil)))) (mRet (mC (.bl false))) mSkip) (mRet (mBin (fEqD false) (mBin fSub (mOn fSumL (mCons (mBin fIx (mVar 3) (mC (.int 0))) mNil)) (mOn fSumL (mCons (mBin fIx (mVar 3) (mC (.int 1))) mNil))) (mVar 2))))))))))
def fn_are_prices : FnI := mkFn 4 12 m_are_prices
theorem len_are_prices : ∀ xs h, (fn_are_prices xs h).isSome = true → xs.length = 4 := mkFn_len
theorem sc_are_prices : FnScope ["all_copies", "weight_of", "best", "value", "names", "no_ends", "name", "price", "of_copies", "of_sources", "source", "copy"] ["all_copies", "weight_of", "best", "value"] (defScope (top 28)) := ⟨rfl, rfl, rfl, by decide +kernel, rfl, by decide +kernel, by decide +kernel⟩
theorem b_are_prices (T : Txt K mg fd w) : Binds K (fd 20) ["all_copies", "weight_of", "best", "value"] [] := T.f_are_prices.bindsN fun _ _ _ _ _ _ us hl => match us, hl with | [_, _, _, _], _ => rfl
theorem ok_are_prices (T : Txt K mg fd w) : Ok P w K mg base 3 (He.ga K "_are_prices") (fd 20) ["all_copies", "weight_of", "best", "value"] fn_are_prices := by
  exact fn_okP 4 12 T.f_are_prices sc_are_prices rfl rfl fun cdv A outer s H E hr => (s_cons (s_set 4 (by exact sc_are_prices.nd) (e_slc false (e_bty (c_list (cell := false)) T.free_list (a_cons (e_var 0) a_nil)) (p_some e_int) p_none)) (s_cons (s_setLc false 5 rfl (by exact sc_are_prices.nd) (i_seq (e_var 0)) (blkOk_by (own := [("name", 6)]) rfl) (fun _ _ _ _ _ => (gw_name [6] 6 (by exact sc_are_prices.nd))) (fun _ _ _ _ _ => (ts_one (t_val (e_ix (by exact u1 hr) (e_var 0) (e_var 6))))) (fun _ _ _ _ _ => (e_var 6))) (s_cons (s_if (PW.pt (t_or (t_not (t_val (e_call (ok_are_so_many T) (by exact hr.mono (by decide)) T.glo_are_so_many T.f_are_so_many.kp (b_are_so_many T) (a_cons (e_var 3) (a_cons e_int a_nil))))) (t_or1 (t_not (t_val (e_call (ok_are_integers T) (by exact hr.mono (by decide)) T.glo_are_integers T.f_are_integers.kp (b_are_integers T) (a_cons (e_ix (by exact u1 hr) (e_var 3) e_int) (a_cons (e_blt (c_len.or c_lenD) T.free_len (a_cons (e_var 4) a_nil)) a_nil)))))))) (s_one (s_ret e_bl)) s_nil) (s_cons (s_if (PW.pt (t_or (t_not (t_val (e_call (ok_are_integers T) (by exact hr.mono (by decide)) T.glo_are_integers T.f_are_integers.kp (b_are_integers T) (a_cons (e_ix (by exact u1 hr) (e_var 3) e_int) (a_cons (e_blt (c_len.or c_lenD) T.free_len (a_cons (e_var 5) a_nil)) a_nil))))) (t_or1 (t_not (t_val (e_blt (c_all rfl) T.free_all (a_cons (e_lc false rfl (by exact sc_are_prices.nd) (i_seq (e_ix (by exact u1 hr) (e_var 3) e_int)) (blkOk_by (own := [("price", 7)]) rfl) (fun _ _ _ _ _ => (gw_name [7] 7 (by exact sc_are_prices.nd))) (fun _ _ _ _ _ => ts_nil) (fun _ _ _ _ _ => (e_cmp o_ge (e_var 7) e_int))) a_nil))))))) (s_one (s_ret e_bl)) s_nil) (s_cons s_stuck (s_cons s_stuck (s_cons (s_if (t_not (t_val (e_blt (c_all rfl) T.free_all (a_cons (e_lc false rfl (by exact sc_are_prices.nd) (i_seq (e_var 1)) (blkOk_by (own := [("source", 10), ("copy", 11)]) rfl) (fun _ _ _ _ _ => (gw_tup (n := 2) rfl (gsw_cons (gw_name [10, 11] 10 (by exact sc_are_prices.nd)) (gsw_cons (gw_name [10, 11] 11 (by exact sc_are_prices.nd)) (gsw_nil [10, 11]))))) (fun _ _ _ _ _ => ts_nil) (fun _ _ _ _ _ => (e_cmp o_le (e_ix (by exact u1 hr) (e_var 1) (e_tup (a_cons (e_var 10) (a_cons (e_var 11) a_nil)))) (e_bin o_sub (e_ix (by exact u1 hr) (e_var 8) (e_var 11)) (e_ix (by exact u1 hr) (e_var 9) (e_var 10)))))) a_nil)))) (s_one (s_ret e_bl)) s_nil) (s_one (s_ret (e_cmp (o_eqD (by exact u64 hr)) (e_bin o_sub (e_blt (c_sumL rfl) T.free_sum (a_cons (e_ix (by exact u1 hr) (e_var 3) e_int) a_nil)) (e_blt (c_sumL rfl) T.free_sum (a_cons (e_ix (by exact u1 hr) (e_var 3) e_int) a_nil))) (e_var 2)))))))))))
def m_shows_best : SI := (mSeq (mAsg (mSlc false (mVar 2) (some (mC (.int 2))) none) (gT 2 (gsCons (gN 4) (gsCons (gN 5) gsNil)))) (mSeq mStuck (mSeq (mIfS (mOrT (mNotT (mTru (mCall 2 fn_are_so_many (mCons (mVar 4) (mCons (mOn (orC fLen fLenD) (mCons (mVar 6) mNil)) mNil))))) (mNotT (mTru (mOn fAll (mCons (mLc false (srcQ (mVar 4)) (gN 9) mYes (mCall 1 fn_is_weight (mCons (mVar 9) mNil)) [9]) mNil))))) (mRet (mC (.bl false))) mSkip) (mSeq (mIfS (mOrT (mNotT (mTru (mCall 1 fn_is_integer (mCons (mVar 5) mNil)))) (mNotT (mTru (mCall 2 fn_are_so_many (mCons (mVar 3) (mCons (mC (.int 2)) mNil)))))) (mRet (mC (.bl false))) mSkip) (mSeq (mAsg (mVar 3) (gT 2 (gsCons (gN 10) (gsCons (gN 11) gsNil)))) (mSeq (mIfS (mNotT (mTru (mCall 3 fn_is_choice (mCons (mVar 0) (mCons (mVar 1) (mCons (mVar 10) mNil)))))) (mRet (mC (.bl false))) mSkip) (mSeq mStuck (mSeq (mIfS (mBl (mBin (fEqD true) (mOn fSumL (mCons (mLc false (srcQ (mCall 2 fn_kept (mCons (mVar 0) (mCons (mVar 10) mNil)))) (gN 13) mYes (mBin fIx (mVar 12) (mVar 13)) [13]) mNil)) (mVar 5))) (mRet (mC (.bl false))) mSkip) (mRet (mCall 4 fn_are_prices (mCons (mVar 1) (mCons (mVar 12) (mCons (mVar 5) (mCons (mVar 11) mNil))))))))))))))
def fn_shows_best : FnI := mkFn 4 14 m_shows_best
theorem len_shows_best : ∀ xs h, (fn_shows_best xs h).isSome = true → xs.length = 4 := mkFn_len
theorem sc_shows_best : FnScope ["all_sources", "all_copies", "claim", "certificate", "weights", "best", "lines", "copy", "source", "weight", "chosen", "prices", "weight_of", "line"] ["all_sources", "all_copies", "claim", "certificate"] (defScope (top 27)) := ⟨rfl, rfl, rfl, by decide +kernel, rfl, by decide +kernel, by decide +kernel⟩
theorem b_shows_best (T : Txt K mg fd w) : Binds K (fd 19) ["all_sources", "all_copies", "claim", "certificate"] [] := T.f_shows_best.bindsN fun _ _ _ _ _ _ us hl => match us, hl with | [_, _, _, _], _ => rfl
theorem ok_shows_best (T : Txt K mg fd w) : Ok P w K mg base 4 (He.ga K "_shows_best") (fd 19) ["all_sources", "all_copies", "claim", "certificate"] fn_shows_best := by
  exact fn_okP 4 14 T.f_shows_best sc_shows_best rfl rfl fun cdv A outer s H E hr => (s_cons (s_asg (e_slc false (e_var 2) (p_some e_int) p_none) (g_tup (n := 2) rfl (gs_cons (g_name 4 (by exact sc_shows_best.nd)) (gs_cons (g_name 5 (by exact sc_shows_best.nd)) gs_nil)))) (s_cons s_stuck (s_cons (s_if (PW.pt (t_or (t_not (t_val (e_call (ok_are_so_many T) (by exact hr.mono (by decide)) T.glo_are_so_many T.f_are_so_many.kp (b_are_so_many T) (a_cons (e_var 4) (a_cons (e_blt (c_len.or c_lenD) T.free_len (a_cons (e_var 6) a_nil)) a_nil))))) (t_or1 (t_not (t_val (e_blt (c_all rfl) T.free_all (a_cons (e_lc false rfl (by exact sc_shows_best.nd) (i_seq (e_var 4)) (blkOk_by (own := [("weight", 9)]) rfl) (fun _ _ _ _ _ => (gw_name [9] 9 (by exact sc_shows_best.nd))) (fun _ _ _ _ _ => ts_nil) (fun _ _ _ _ _ => (e_call (ok_is_weight T) (by exact hr.mono (by decide)) T.glo_is_weight T.f_is_weight.kp (b_is_weight T) (a_cons (e_var 9) a_nil)))) a_nil))))))) (s_one (s_ret e_bl)) s_nil) (s_cons (s_if (PW.pt (t_or (t_not (t_val (e_call (ok_is_integer T) (by exact hr.mono (by decide)) T.glo_is_integer T.f_is_integer.kp (b_is_integer T) (a_cons (e_var 5) a_nil)))) (t_or1 (t_not (t_val (e_call (ok_are_so_many T) (by exact hr.mono (by decide)) T.glo_are_so_many T.f_are_so_many.kp (b_are_so_many T) (a_cons (e_var 3) (a_cons e_int a_nil)))))))) (s_one (s_ret e_bl)) s_nil) (s_cons (s_asg (e_var 3) (g_tup (n := 2) rfl (gs_cons (g_name 10 (by exact sc_shows_best.nd)) (gs_cons (g_name 11 (by exact sc_shows_best.nd)) gs_nil)))) (s_cons (s_if (t_not (t_val (e_call (ok_is_choice T) (by exact hr.mono (by decide)) T.glo_is_choice T.f_is_choice.kp (b_is_choice T) (a_cons (e_var 0) (a_cons (e_var 1) (a_cons (e_var 10) a_nil)))))) (s_one (s_ret e_bl)) s_nil) (s_cons s_stuck (s_cons (s_if (t_cmp (o_neD (by exact u64 hr)) (e_blt (c_sumL rfl) T.free_sum (a_cons (e_lc false rfl (by exact sc_shows_best.nd) (i_seq (e_call (ok_kept T) (by exact hr.mono (by decide)) T.glo_kept T.f_kept.kp (b_kept T) (a_cons (e_var 0) (a_cons (e_var 10) a_nil)))) (blkOk_by (own := [("line", 13)]) rfl) (fun _ _ _ _ _ => (gw_name [13] 13 (by exact sc_shows_best.nd))) (fun _ _ _ _ _ => ts_nil) (fun _ _ _ _ _ => (e_ix (by exact u1 hr) (e_var 12) (e_var 13)))) a_nil)) (e_var 5)) (s_one (s_ret e_bl)) s_nil) (s_one (s_ret (e_call (ok_are_prices T) (by exact hr.mono (by decide)) T.glo_are_prices T.f_are_prices.kp (b_are_prices T) (a_cons (e_var 1) (a_cons (e_var 12) (a_cons (e_var 5) (a_cons (e_var 11) a_nil)))))))))))))))
def m_shows_open : SI := (mSeq (mIfS (mNotT (mTru (mCall 2 fn_are_so_many (mCons (mVar 3) (mCons (mC (.int 2)) mNil))))) (mRet (mC (.bl false))) mSkip) (mSeq (mAsg (mVar 3) (gT 2 (gsCons (gN 4) (gsCons (gN 5) gsNil)))) (mSeq (mIfS (mOrT (mNotT (mTru (mCall 3 fn_is_choice (mCons (mVar 0) (mCons (mVar 1) (mCons (mVar 4) mNil)))))) (mNotT (mTru (mCall 3 fn_is_choice (mCons (mVar 0) (mCons (mVar 1) (mCons (mVar 5) mNil))))))) (mRet (mC (.bl false))) mSkip) (mRet (mAnd (mBin (fIn false) (mVar 2) (mCall 2 fn_kept (mCons (mVar 0) (mCons (mVar 4) mNil)))) (mBin (fIn true) (mVar 2) (mCall 2 fn_kept (mCons (mVar 0) (mCons (mVar 5) mNil)))))))))
def fn_shows_open : FnI := mkFn 4 6 m_shows_open
theorem len_shows_open : ∀ xs h, (fn_shows_open xs h).isSome = true → xs.length = 4 := mkFn_len
theorem sc_shows_open : FnScope ["all_sources", "all_copies", "line", "certificate", "with_line", "without_line"] ["all_sources", "all_copies", "line", "certificate"] (defScope (top 19)) := ⟨rfl, rfl, rfl, by decide +kernel, rfl, by decide +kernel, by decide +kernel⟩
theorem b_shows_open (T : Txt K mg fd w) : Binds K (fd 11) ["all_sources", "all_copies", "line", "certificate"] [] := T.f_shows_open.bindsN fun _ _ _ _ _ _ us hl => match us, hl with | [_, _, _, _], _ => rfl
theorem ok_shows_open (T : Txt K mg fd w) : Ok P w K mg base 3 (He.ga K "_shows_open") (fd 11) ["all_sources", "all_copies", "line", "certificate"] fn_shows_open := by
  exact fn_okP 4 6 T.f_shows_open sc_shows_open rfl rfl fun cdv A outer s H E hr => (s_cons (s_if (t_not (t_val (e_call (ok_are_so_many T) (by exact hr.mono (by decide)) T.glo_are_so_many T.f_are_so_many.kp (b_are_so_many T) (a_cons (e_var 3) (a_cons e_int a_nil))))) (s_one (s_ret e_bl)) s_nil) (s_cons (s_asg (e_var 3) (g_tup (n := 2) rfl (gs_cons (g_name 4 (by exact sc_shows_open.nd)) (gs_cons (g_name 5 (by exact sc_shows_open.nd)) gs_nil)))) (s_cons (s_if (PW.pt (t_or (t_not (t_val (e_call (ok_is_choice T) (by exact hr.mono (by decide)) T.glo_is_choice T.f_is_choice.kp (b_is_choice T) (a_cons (e_var 0) (a_cons (e_var 1) (a_cons (e_var 4) a_nil)))))) (t_or1 (t_not (t_val (e_call (ok_is_choice T) (by exact hr.mono (by decide)) T.glo_is_choice T.f_is_choice.kp (b_is_choice T) (a_cons (e_var 0) (a_cons (e_var 1) (a_cons (e_var 5) a_nil))))))))) (s_one (s_ret e_bl)) s_nil) (s_one (s_ret (e_and (e_cmp (o_in (by exact u65 hr)) (e_var 2) (e_call (ok_kept T) (by exact hr.mono (by decide)) T.glo_kept T.f_kept.kp (b_kept T) (a_cons (e_var 0) (a_cons (e_var 4) a_nil)))) (e_one (e_cmp (o_notIn (by exact u65 hr)) (e_var 2) (e_call (ok_kept T) (by exact hr.mono (by decide)) T.glo_kept T.f_kept.kp (b_kept T) (a_cons (e_var 0) (a_cons (e_var 5) a_nil)))))))))))
def m_shows_verdict : SI := (mSeq (mAsg (mSlc false (mVar 2) (some (mC (.int 2))) none) (gT 2 (gsCons (gN 4) (gsCons (gN 5) gsNil)))) (mSeq (mIfS (mOrT (mNotT (mTru (mCall 2 fn_is_one_of (mCons (mVar 5) (mCons (mVar 0) mNil))))) (mNotT (mTru (mCall 2 fn_is_one_of (mCons (mVar 4) (mCons (mBin fIx (mVar 0) (mVar 5)) mNil)))))) (mRet (mC (.bl false))) mSkip) (mSeq (mIfS (mBl (mBin (fEqD false) (mBin fIx (mVar 2) (mC (.int 0))) (mC (.str "open")))) (mRet (mCall 4 fn_shows_open (mCons (mVar 0) (mCons (mVar 1) (mCons (mSlc false (mVar 2) (some (mC (.int 2))) none) (mCons (mVar 3) mNil)))))) mSkip) (mSeq (mIfS (mTru (mCall 3 fn_is_short (mCons (mVar 1) (mCons (mVar 3) (mCons (mOn (mkL false) mNil) mNil))))) (mRet (mC (.bl true))) mSkip) (mSeq (mIfS (mBl (mBin (fEqD false) (mBin fIx (mVar 2) (mC (.int 0))) (mC (.str "never")))) (mSeq (mAsg (mLc false (srcQ (mBin fIx (mVar 0) (mVar 5))) (gN 7) mYes (mOn mkT (mCons (mVar 7) (mCons (mVar 5) mNil))) [7]) (gN 6)) (mRet (mAnd (mCall 3 fn_is_short (mCons (mVar 1) (mCons (mVar 3) (mCons (mVar 6) mNil)))) (mBin (fIn true) (mVar 4) (mVar 3))))) mSkip) (mSeq (mIfS (mBl (mBin (fEqD false) (mOn (orC fLen fLenD) (mCons (mBin fIx (mVar 0) (mVar 5)) mNil)) (mC (.int 1)))) (mRet (mCall 2 fn_are_so_many (mCons (mVar 3) (mCons (mC (.int 0)) mNil)))) mSkip) (mRet (mCall 3 fn_is_short (mCons (mVar 1) (mCons (mVar 3) (mCons (mOn (mkL false) (mCons (mOn mkT (mCons (mVar 4) (mCons (mVar 5) mNil))) mNil)) mNil)))))))))))
def fn_shows_verdict : FnI := mkFn 4 8 m_shows_verdict
theorem len_shows_verdict : ∀ xs h, (fn_shows_verdict xs h).isSome = true → xs.length = 4 := mkFn_len
theorem sc_shows_verdict : FnScope ["all_sources", "all_copies", "claim", "certificate", "source", "copy", "of_copy", "other"] ["all_sources", "all_copies", "claim", "certificate"] (defScope (top 18)) := ⟨rfl, rfl, rfl, by decide +kernel, rfl, by decide +kernel, by decide +kernel⟩
theorem b_shows_verdict (T : Txt K mg fd w) : Binds K (fd 10) ["all_sources", "all_copies", "claim", "certificate"] [] := T.f_shows_verdict.bindsN fun _ _ _ _ _ _ us hl => match us, hl with | [_, _, _, _], _ => rfl
theorem ok_shows_verdict (T : Txt K mg fd w) : Ok P w K mg base 4 (He.ga K "_shows_verdict") (fd 10) ["all_sources", "all_copies", "claim", "certificate"] fn_shows_verdict := by
  exact fn_okP 4 8 T.f_shows_verdict sc_shows_verdict rfl rfl fun cdv A outer s H E hr => (s_cons (s_asg (e_slc false (e_var 2) (p_some e_int) p_none) (g_tup (n := 2) rfl (gs_cons (g_name 4 (by exact sc_shows_verdict.nd)) (gs_cons (g_name 5 (by exact sc_shows_verdict.nd)) gs_nil)))) (s_cons (s_if (PW.pt (t_or (t_not (t_val (e_call (ok_is_one_of T) (by exact hr.mono (by decide)) T.glo_is_one_of T.f_is_one_of.kp (b_is_one_of T) (a_cons (e_var 5) (a_cons (e_var 0) a_nil))))) (t_or1 (t_not (t_val (e_call (ok_is_one_of T) (by exact hr.mono (by decide)) T.glo_is_one_of T.f_is_one_of.kp (b_is_one_of T) (a_cons (e_var 4) (a_cons (e_ix (by exact u1 hr) (e_var 0) (e_var 5)) a_nil)))))))) (s_one (s_ret e_bl)) s_nil) (s_cons (s_if (t_cmp (o_eqD (by exact u64 hr)) (e_ix (by exact u1 hr) (e_var 2) e_int) e_str) (s_one (s_ret (e_call (ok_shows_open T) (by exact hr.mono (by decide)) T.glo_shows_open T.f_shows_open.kp (b_shows_open T) (a_cons (e_var 0) (a_cons (e_var 1) (a_cons (e_slc false (e_var 2) (p_some e_int) p_none) (a_cons (e_var 3) a_nil))))))) s_nil) (s_cons (s_if (t_val (e_call (ok_is_short T) (by exact hr.mono (by decide)) T.glo_is_short T.f_is_short.kp (b_is_short T) (a_cons (e_var 1) (a_cons (e_var 3) (a_cons (e_lst false a_nil) a_nil))))) (s_one (s_ret e_bl)) s_nil) (s_cons (s_if (t_cmp (o_eqD (by exact u64 hr)) (e_ix (by exact u1 hr) (e_var 2) e_int) e_str) (s_cons (s_setLc false 6 rfl (by exact sc_shows_verdict.nd) (i_seq (e_ix (by exact u1 hr) (e_var 0) (e_var 5))) (blkOk_by (own := [("other", 7)]) rfl) (fun _ _ _ _ _ => (gw_name [7] 7 (by exact sc_shows_verdict.nd))) (fun _ _ _ _ _ => ts_nil) (fun _ _ _ _ _ => (e_tup (a_cons (e_var 7) (a_cons (e_var 5) a_nil))))) (s_one (s_ret (e_and (e_call (ok_is_short T) (by exact hr.mono (by decide)) T.glo_is_short T.f_is_short.kp (b_is_short T) (a_cons (e_var 1) (a_cons (e_var 3) (a_cons (e_var 6) a_nil)))) (e_one (e_cmp (o_notIn (by exact u65 hr)) (e_var 4) (e_var 3))))))) s_nil) (s_cons (s_if (t_cmp (o_eqD (by exact u64 hr)) (e_blt (c_len.or c_lenD) T.free_len (a_cons (e_ix (by exact u1 hr) (e_var 0) (e_var 5)) a_nil)) e_int) (s_one (s_ret (e_call (ok_are_so_many T) (by exact hr.mono (by decide)) T.glo_are_so_many T.f_are_so_many.kp (b_are_so_many T) (a_cons (e_var 3) (a_cons e_int a_nil))))) s_nil) (s_one (s_ret (e_call (ok_is_short T) (by exact hr.mono (by decide)) T.glo_is_short T.f_is_short.kp (b_is_short T) (a_cons (e_var 1) (a_cons (e_var 3) (a_cons (e_lst false (a_cons (e_tup (a_cons (e_var 4) (a_cons (e_var 5) a_nil))) a_nil)) a_nil))))))))))))
def m_accepts : SI := (mSeq (mIfS (mOrT (mNotT (mTru (mIsi "tuple" (mVar 0)))) (mOrT (mNotT (mTru (mVar 0))) (mNotT (mTru (mIsi "str" (mBin fIx (mVar 0) (mC (.int 0)))))))) (mRet (mC (.bl false))) mSkip) (mSeq (mIfS (mOrT (mBl (mUn (fInTab true [("has", 2), ("lacks", 2), ("sure", 4), ("never", 4), ("open", 4), ("count", 3), ("best", 4)]) (mBin fIx (mVar 0) (mC (.int 0))))) (mBl (mBin (fEqD true) (mOn (orC fLen fLenD) (mCons (mVar 0) mNil)) (mUn (fIxTab [("has", 2), ("lacks", 2), ("sure", 4), ("never", 4), ("open", 4), ("count", 3), ("best", 4)]) (mBin fIx (mVar 0) (mC (.int 0))))))) (mRet (mC (.bl false))) mSkip) (mSeq (mAsg (mCall 1 fn_read_web (mCons (mBin fIx (mVar 0) (mC (.int 1))) mNil)) (gN 2)) (mSeq (mIfS (mBl (mBin (fIs false) (mVar 2) (mC .non))) (mRet (mC (.bl false))) mSkip) (mSeq (mAsg (mVar 2) (gT 2 (gsCons (gN 3) (gsCons (gN 4) gsNil)))) (mSeq (mIfS (mBl (mBin (fEqD false) (mBin fIx (mVar 0) (mC (.int 0))) (mC (.str "has")))) (mRet (mCall 3 fn_is_choice (mCons (mVar 3) (mCons (mVar 4) (mCons (mVar 1) mNil))))) mSkip) (mSeq (mIfS (mBl (mBin (fEqD false) (mBin fIx (mVar 0) (mC (.int 0))) (mC (.str "lacks")))) (mRet (mCall 3 fn_is_short (mCons (mVar 4) (mCons (mVar 1) (mCons (mOn (mkL false) mNil) mNil))))) mSkip) (mSeq (mIfS (mBl (mBin (fEqD false) (mBin fIx (mVar 0) (mC (.int 0))) (mC (.str "count")))) (mRet (mAnd (mBin (fIs false) (mVar 1) (mC .non)) (mAnd (mCall 1 fn_is_integer (mCons (mBin fIx (mVar 0) (mC (.int 2))) mNil)) (mBin (fEqD false) (mBin fIx (mVar 0) (mC (.int 2))) (mCall 2 fn_how_many (mCons (mVar 3) (mCons (mVar 4) mNil))))))) mSkip) (mSeq (mIfS (mBl (mBin (fEqD false) (mBin fIx (mVar 0) (mC (.int 0))) (mC (.str "best")))) (mRet (mCall 4 fn_shows_best (mCons (mVar 3) (mCons (mVar 4) (mCons (mVar 0) (mCons (mVar 1) mNil)))))) mSkip) (mRet (mCall 4 fn_shows_verdict (mCons (mVar 3) (mCons (mVar 4) (mCons (mVar 0) (mCons (mVar 1) mNil)))))))))))))))
def fn_accepts : FnI := mkFn 2 5 m_accepts
theorem len_accepts : ∀ xs h, (fn_accepts xs h).isSome = true → xs.length = 2 := mkFn_len
theorem sc_accepts : FnScope ["claim", "certificate", "told", "all_sources", "all_copies"] ["claim", "certificate"] (defScope (top 17)) := ⟨rfl, rfl, rfl, by decide +kernel, rfl, by decide +kernel, by decide +kernel⟩
theorem b_accepts (T : Txt K mg fd w) : Binds K (fd 9) ["claim", "certificate"] [] := T.f_accepts.bindsN fun _ _ _ _ _ _ us hl => match us, hl with | [_, _], _ => rfl
theorem ok_accepts (T : Txt K mg fd w) : Ok P w K mg base 5 (He.ga K "accepts") (fd 9) ["claim", "certificate"] fn_accepts := by
  exact fn_okP 2 5 T.f_accepts sc_accepts rfl rfl fun cdv A outer s H E hr => (s_cons (s_if (PW.pt (t_or (t_not (t_val (e_isi "tuple" T.free_isinstance T.free_tuple (e_var 0)))) (t_or (t_not (t_val (e_var 0))) (t_or1 (t_not (t_val (e_isi "str" T.free_isinstance T.free_str (e_ix (by exact u1 hr) (e_var 0) e_int)))))))) (s_one (s_ret e_bl)) s_nil) (s_cons (s_if (PW.pt (t_or (t_notInTab T.tab_WORDS T.glo_WORDS (e_ix (by exact u1 hr) (e_var 0) e_int)) (t_or1 (t_cmp (o_neD (by exact u64 hr)) (e_blt (c_len.or c_lenD) T.free_len (a_cons (e_var 0) a_nil)) (e_ixTab T.tab_WORDS T.glo_WORDS (e_ix (by exact u1 hr) (e_var 0) e_int)))))) (s_one (s_ret e_bl)) s_nil) (s_cons (s_set 2 (by exact sc_accepts.nd) (e_call (ok_read_web T) (by exact hr.mono (by decide)) T.glo_read_web T.f_read_web.kp (b_read_web T) (a_cons (e_ix (by exact u1 hr) (e_var 0) e_int) a_nil))) (s_cons (s_if (t_cmp o_is (e_var 2) e_non) (s_one (s_ret e_bl)) s_nil) (s_cons (s_asg (e_var 2) (g_tup (n := 2) rfl (gs_cons (g_name 3 (by exact sc_accepts.nd)) (gs_cons (g_name 4 (by exact sc_accepts.nd)) gs_nil)))) (s_cons (s_if (t_cmp (o_eqD (by exact u64 hr)) (e_ix (by exact u1 hr) (e_var 0) e_int) e_str) (s_one (s_ret (e_call (ok_is_choice T) (by exact hr.mono (by decide)) T.glo_is_choice T.f_is_choice.kp (b_is_choice T) (a_cons (e_var 3) (a_cons (e_var 4) (a_cons (e_var 1) a_nil)))))) s_nil) (s_cons (s_if (t_cmp (o_eqD (by exact u64 hr)) (e_ix (by exact u1 hr) (e_var 0) e_int) e_str) (s_one (s_ret (e_call (ok_is_short T) (by exact hr.mono (by decide)) T.glo_is_short T.f_is_short.kp (b_is_short T) (a_cons (e_var 4) (a_cons (e_var 1) (a_cons (e_lst false a_nil) a_nil)))))) s_nil) (s_cons (s_if (t_cmp (o_eqD (by exact u64 hr)) (e_ix (by exact u1 hr) (e_var 0) e_int) e_str) (s_one (s_ret (e_and (e_cmp o_is (e_var 1) e_non) (e_and (e_call (ok_is_integer T) (by exact hr.mono (by decide)) T.glo_is_integer T.f_is_integer.kp (b_is_integer T) (a_cons (e_ix (by exact u1 hr) (e_var 0) e_int) a_nil)) (e_one (e_cmp (o_eqD (by exact u64 hr)) (e_ix (by exact u1 hr) (e_var 0) e_int) (e_call (ok_how_many T) (by exact hr.mono (by decide)) T.glo_how_many T.f_how_many.kp (b_how_many T) (a_cons (e_var 3) (a_cons (e_var 4) a_nil))))))))) s_nil) (s_cons (s_if (t_cmp (o_eqD (by exact u64 hr)) (e_ix (by exact u1 hr) (e_var 0) e_int) e_str) (s_one (s_ret (e_call (ok_shows_best T) (by exact hr.mono (by decide)) T.glo_shows_best T.f_shows_best.kp (b_shows_best T) (a_cons (e_var 3) (a_cons (e_var 4) (a_cons (e_var 0) (a_cons (e_var 1) a_nil))))))) s_nil) (s_one (s_ret (e_call (ok_shows_verdict T) (by exact hr.mono (by decide)) T.glo_shows_verdict T.f_shows_verdict.kp (b_shows_verdict T) (a_cons (e_var 3) (a_cons (e_var 4) (a_cons (e_var 0) (a_cons (e_var 1) a_nil))))))))))))))))
def m_law_urn : SI := (mSeq (mAsg (mBin (fAdd false) (mC (.int 271828)) (mBin (orF fMulI (orF fMulS (fMulL false))) (mC (.int 40961)) (mVar 1))) (gN 2)) (mSeq (mFor (srcQ (mSlc false (mVar 0) none (some (mC (.int 7))))) (gN 3) (mAsg (mBin fMod (mOn fInt (mCons (mBin (fAdd false) (mBin (fAdd false) (mBin (orF fMulI (orF fMulS (fMulL false))) (mVar 2) (mC (.int 48889))) (mBin (orF fMulI (orF fMulS (fMulL false))) (mOn fInt (mCons (mVar 3) mNil)) (mC (.int 19)))) (mVar 1)) mNil)) (mC (.int 2147482661))) (gN 2))) (mSeq (mAsg (mIf (mBl (mBin fLt (mVar 1) (mOn (orC fLen fLenD) (mCons (mVar 0) mNil)))) (mOn fInt (mCons (mBin fIx (mVar 0) (mVar 1)) mNil)) (mVar 2)) (gN 4)) (mRet (mOn (mkL true) (mCons (mIf (mOrT (mBl (mBin fLt (mVar 4) (mC (.int 0)))) (mBl (mBin fGe (mVar 4) (mBin fPow (mC (.int 10)) (mC (.int 17)))))) (mOn fAbs (mCons (mVar 4) mNil)) (mC (.int 0))) (mCons (mBin fMod (mOn fInt (mCons (mBin (fAdd false) (mVar 2) (mBin (orF fMulI (orF fMulS (fMulL false))) (mVar 4) (mC (.int 31)))) mNil)) (mC (.int 2147482661))) (mCons (mC (.int 0)) mNil))))))))
def fn_law_urn : FnI := mkFn 2 5 m_law_urn
theorem len_law_urn : ∀ xs h, (fn_law_urn xs h).isSome = true → xs.length = 2 := mkFn_len
theorem sc_law_urn : FnScope ["_law_script", "_law_turn", "_law_state", "_law_each", "_law_own"] ["_law_script", "_law_turn"] (defScope (top 32)) := ⟨rfl, rfl, rfl, by decide +kernel, rfl, by decide +kernel, by decide +kernel⟩
theorem b_law_urn (T : Txt K mg fd w) : Binds K (fd 23) ["_law_script", "_law_turn"] [] := T.f_law_urn.bindsN fun _ _ _ _ _ _ us hl => match us, hl with | [_, _], _ => rfl
theorem ok_law_urn (T : Txt K mg fd w) : Ok P w K mg base 1 (He.ga K "_law_urn") (fd 23) ["_law_script", "_law_turn"] fn_law_urn := by
  exact fn_okP 2 5 T.f_law_urn sc_law_urn rfl rfl fun cdv A outer s H E hr => (s_cons (s_set 2 (by exact sc_law_urn.nd) (e_bin (o_add (cell := false)) e_int (e_bin (o_mulI.or (o_mulS.or (o_mulL (cell := false)))) e_int (e_var 1)))) (s_cons (s_for PassesOwn.never rfl (i_seq (e_slc false (e_var 0) p_none (p_some e_int))) (g_name 3 (by exact sc_law_urn.nd)) (s_one (s_set 2 (by exact sc_law_urn.nd) (e_bin o_mod (e_bty c_int T.free_int (a_cons (e_bin (o_add (cell := false)) (e_bin (o_add (cell := false)) (e_bin (o_mulI.or (o_mulS.or (o_mulL (cell := false)))) (e_var 2) e_int) (e_bin (o_mulI.or (o_mulS.or (o_mulL (cell := false)))) (e_bty c_int T.free_int (a_cons (e_var 3) a_nil)) e_int)) (e_var 1)) a_nil)) e_int)))) (s_cons (s_set 4 (by exact sc_law_urn.nd) (e_if (t_cmp o_lt (e_var 1) (e_blt (c_len.or c_lenD) T.free_len (a_cons (e_var 0) a_nil))) (e_bty c_int T.free_int (a_cons (e_ix (by exact u1 hr) (e_var 0) (e_var 1)) a_nil)) (e_var 2))) (s_one (s_ret (e_lst true (a_cons (e_if (PW.pt (t_or (t_cmp o_lt (e_var 4) e_int) (t_or1 (t_cmp o_ge (e_var 4) (e_bin o_pow e_int e_int))))) (e_blt c_abs T.free_abs (a_cons (e_var 4) a_nil)) e_int) (a_cons (e_bin o_mod (e_bty c_int T.free_int (a_cons (e_bin (o_add (cell := false)) (e_var 2) (e_bin (o_mulI.or (o_mulS.or (o_mulL (cell := false)))) (e_var 4) e_int)) a_nil)) e_int) (a_cons e_int a_nil)))))))))
def m_law_pull : SI := (mSeq (mAsg (mBin (fAdd false) (mBin fIx (mVar 0) (mC (.int 2))) (mC (.int 1))) (gSub (mVar 0) (mC (.int 2)))) (mSeq (mIfS (mBl (mBin fGt (mBin fIx (mVar 0) (mC (.int 0))) (mC (.int 0)))) (mSeq (mAsg (mOn fDivmod (mCons (mBin fIx (mVar 0) (mC (.int 0))) (mCons (mVar 1) mNil))) (gT 2 (gsCons (gSub (mVar 0) (mC (.int 0))) (gsCons (gN 2) gsNil)))) (mRet (mVar 2))) mSkip) (mSeq (mAsg (mBin fMod (mOn fInt (mCons (mBin (fAdd false) (mBin (fAdd false) (mBin (orF fMulI (orF fMulS (fMulL false))) (mBin fIx (mVar 0) (mC (.int 1))) (mC (.int 39409))) (mBin (orF fMulI (orF fMulS (fMulL false))) (mC (.int 7001)) (mBin fIx (mVar 0) (mC (.int 2))))) (mC (.int 9))) mNil)) (mC (.int 2147482661))) (gSub (mVar 0) (mC (.int 1)))) (mRet (mBin fMod (mOn fInt (mCons (mBin fDiv (mBin fIx (mVar 0) (mC (.int 1))) (mC (.int 768))) mNil)) (mVar 1))))))
def fn_law_pull : FnI := mkFn 2 3 m_law_pull
theorem len_law_pull : ∀ xs h, (fn_law_pull xs h).isSome = true → xs.length = 2 := mkFn_len
theorem sc_law_pull : FnScope ["_law_urn_here", "_law_size", "_law_digit"] ["_law_urn_here", "_law_size"] (defScope (top 33)) := ⟨rfl, rfl, rfl, by decide +kernel, rfl, by decide +kernel, by decide +kernel⟩
theorem b_law_pull (T : Txt K mg fd w) : Binds K (fd 24) ["_law_urn_here", "_law_size"] [] := T.f_law_pull.bindsN fun _ _ _ _ _ _ us hl => match us, hl with | [_, _], _ => rfl
theorem ok_law_pull (T : Txt K mg fd w) : Ok P w K mg base 1 (He.ga K "_law_pull") (fd 24) ["_law_urn_here", "_law_size"] fn_law_pull := by
  exact fn_okP 2 3 T.f_law_pull sc_law_pull rfl rfl fun cdv A outer s H E hr => (s_cons (s_put (by exact u1 hr) (e_var 0) e_int (e_bin (o_add (cell := false)) (e_ix (by exact u1 hr) (e_var 0) e_int) e_int)) (s_cons (s_if (t_cmp o_gt (e_ix (by exact u1 hr) (e_var 0) e_int) e_int) (s_cons (s_asg (e_blt c_divmod T.free_divmod (a_cons (e_ix (by exact u1 hr) (e_var 0) e_int) (a_cons (e_var 1) a_nil))) (g_tup (n := 2) rfl (gs_cons (g_sub (by exact u1 hr) (e_var 0) e_int) (gs_cons (g_name 2 (by exact sc_law_pull.nd)) gs_nil)))) (s_one (s_ret (e_var 2)))) s_nil) (s_cons (s_put (by exact u1 hr) (e_var 0) e_int (e_bin o_mod (e_bty c_int T.free_int (a_cons (e_bin (o_add (cell := false)) (e_bin (o_add (cell := false)) (e_bin (o_mulI.or (o_mulS.or (o_mulL (cell := false)))) (e_ix (by exact u1 hr) (e_var 0) e_int) e_int) (e_bin (o_mulI.or (o_mulS.or (o_mulL (cell := false)))) e_int (e_ix (by exact u1 hr) (e_var 0) e_int))) e_int) a_nil)) e_int)) (s_one (s_ret (e_bin o_mod (e_bty c_int T.free_int (a_cons (e_bin o_div (e_ix (by exact u1 hr) (e_var 0) e_int) e_int) a_nil)) (e_var 1)))))))
def m_law_of : SI := (mRet (mBin fIx (mVar 1) (mCall 2 fn_law_pull (mCons (mVar 0) (mCons (mOn (orC fLen fLenD) (mCons (mVar 1) mNil)) mNil)))))
def fn_law_of : FnI := mkFn 2 2 m_law_of
theorem len_law_of : ∀ xs h, (fn_law_of xs h).isSome = true → xs.length = 2 := mkFn_len
theorem sc_law_of : FnScope ["_law_urn_here", "_law_some"] ["_law_urn_here", "_law_some"] (defScope (top 34)) := ⟨rfl, rfl, rfl, by decide +kernel, rfl, by decide +kernel, by decide +kernel⟩
theorem b_law_of (T : Txt K mg fd w) : Binds K (fd 25) ["_law_urn_here", "_law_some"] [] := T.f_law_of.bindsN fun _ _ _ _ _ _ us hl => match us, hl with | [_, _], _ => rfl
theorem ok_law_of (T : Txt K mg fd w) : Ok P w K mg base 2 (He.ga K "_law_of") (fd 25) ["_law_urn_here", "_law_some"] fn_law_of := by
  exact fn_okP 2 2 T.f_law_of sc_law_of rfl rfl fun cdv A outer s H E hr => (s_one (s_ret (e_ix (by exact u1 hr) (e_var 1) (e_call (ok_law_pull T) (by exact hr.mono (by decide)) T.glo_law_pull T.f_law_pull.kp (b_law_pull T) (a_cons (e_var 0) (a_cons (e_blt (c_len.or c_lenD) T.free_len (a_cons (e_var 1) a_nil)) a_nil))))))
def m_law_words : SI := (mSeq (mAsg (mOn (mkL true) (mCons (mC (.str "a")) (mCons (mC (.str "b")) (mCons (mC (.str "c")) (mCons (mC (.str "d")) (mCons (mC (.str "e")) (mCons (mC (.str "f")) (mCons (mC (.str "g")) (mCons (mC (.str "h")) (mCons (mC (.str "ab")) (mCons (mC (.str "ba")) (mCons (mC (.str "none")) (mCons (mC (.str "web")) (mCons (mC (.str "abcdefgh")) (mCons (mC (.str "z")) (mCons (mC (.str "zz")) (mCons (mC (.str "count")) mNil))))))))))))))))) (gN 2)) (mSeq (mAsg (mOn (mkL true) mNil) (gN 3)) (mSeq (mFor (srcR1 (mCons (mVar 1) mNil)) (gN 4) (mDrop (mMet "list" fAppend (mVar 3) (mCons (mMet "list" fPopAt (mVar 2) (mCons (mCall 2 fn_law_pull (mCons (mVar 0) (mCons (mOn (orC fLen fLenD) (mCons (mVar 2) mNil)) mNil))) mNil)) mNil)))) (mRet (mVar 3)))))
def fn_law_words : FnI := mkFnF 2 5 m_law_words
theorem len_law_words : ∀ xs h, (fn_law_words xs h).isSome = true → xs.length = 2 := mkFnF_len
theorem sc_law_words : FnScope ["_law_urn_here", "_law_many", "_law_pool", "_law_found", "_law_k"] ["_law_urn_here", "_law_many"] (defScope (top 35)) := ⟨rfl, rfl, rfl, by decide +kernel, rfl, by decide +kernel, by decide +kernel⟩
theorem b_law_words (T : Txt K mg fd w) : Binds K (fd 26) ["_law_urn_here", "_law_many"] [] := T.f_law_words.bindsN fun _ _ _ _ _ _ us hl => match us, hl with | [_, _], _ => rfl
theorem ok_law_words (T : Txt K mg fd w) : Ok P w K mg base 2 (He.ga K "_law_words") (fd 26) ["_law_urn_here", "_law_many"] fn_law_words := by
  exact fn_okPF 2 5 T.f_law_words sc_law_words rfl rfl fun cdv A outer s H E hr => (s_cons (s_set 2 (by exact sc_law_words.nd) (e_lst true (a_cons e_str (a_cons e_str (a_cons e_str (a_cons e_str (a_cons e_str (a_cons e_str (a_cons e_str (a_cons e_str (a_cons e_str (a_cons e_str (a_cons e_str (a_cons e_str (a_cons e_str (a_cons e_str (a_cons e_str (a_cons e_str a_nil)))))))))))))))))) (s_cons (s_set 3 (by exact sc_law_words.nd) (e_lst true a_nil)) (s_cons (s_for PassesOwn.never rfl (i_r1 T.free_range (a_cons (e_var 1) a_nil)) (g_name 4 (by exact sc_law_words.nd)) (s_one (s_expr (e_met PySem.F.plainAttrs_list PySem.F.slot_list_append PySem.F.type_list_append m_append (e_var 3) (a_cons (e_met PySem.F.plainAttrs_list PySem.F.slot_list_pop PySem.F.type_list_pop m_popAt (e_var 2) (a_cons (e_call (ok_law_pull T) (by exact hr.mono (by decide)) T.glo_law_pull T.f_law_pull.kp (b_law_pull T) (a_cons (e_var 0) (a_cons (e_blt (c_len.or c_lenD) T.free_len (a_cons (e_var 2) a_nil)) a_nil))) a_nil)) a_nil))))) (s_one (s_ret (e_var 3))))))
def m_law_rows : SI := (mSeq (mAsg (mCall 2 fn_law_words (mCons (mVar 0) (mCons (mVar 1) mNil))) (gN 3)) (mSeq (mAsg (mOn mkT (mCons (mOn (mkL true) (mCons (mOn mkT (mCons (mBin fIx (mVar 3) (mC (.int 0))) (mCons (mOn mkT mNil) mNil))) mNil)) (mCons (mDisp1 (mBin fIx (mVar 3) (mC (.int 0))) (mC (.int 0))) mNil))) (gT 2 (gsCons (gN 4) (gsCons (gN 5) gsNil)))) (mSeq (mFor (srcQ (mSlc false (mVar 3) (some (mC (.int 1))) none)) (gN 6) (mSeq (mLockS 5 (mAsg (mLc true (srcK (mVar 5)) (gN 8) (mBl (mBin fLt (mBin fIx (mVar 5) (mVar 8)) (mC (.int 2)))) (mVar 8) [8]) (gN 7))) (mSeq (mAsg (mIf (mBl (mBin (fEqD true) (mVar 7) (mOn (mkL false) mNil))) (mOn (mkL true) (mCons (mMet "list" fPopAt (mVar 7) (mCons (mBin fSub (mBin fSub (mOn (orC fLen fLenD) (mCons (mVar 7) mNil)) (mC (.int 1))) (mCall 2 fn_law_pull (mCons (mVar 0) (mCons (mOn fMin2 (mCons (mC (.int 3)) (mCons (mOn (orC fLen fLenD) (mCons (mVar 7) mNil)) mNil))) mNil)))) mNil)) mNil)) (mOn (mkL true) mNil)) (gN 9)) (mSeq (mAsg (mBin fIx (mBin fIx (mVar 4) (mUn fNeg (mC (.int 1)))) (mC (.int 1))) (gN 10)) (mSeq (mIfS (mAndT (mBl (mBin fGt (mVar 2) (mC (.int 0)))) (mAndT (mBl (mBin (fEqD false) (mOn (orC fLen fLenD) (mCons (mVar 10) mNil)) (mC (.int 2)))) (mAndT (mBl (mBin fLt (mOn fMaxL (mCons (mLc false (srcQ (mVar 10)) (gN 8) mYes (mBin fIx (mVar 5) (mVar 8)) [8]) mNil)) (mC (.int 2)))) (mBl (mBin (fEqD false) (mCall 2 fn_law_pull (mCons (mVar 0) (mCons (mC (.int 2)) mNil))) (mC (.int 0))))))) (mAsg (mOn (fList true) (mCons (mVar 10) mNil)) (gN 9)) (mIfS (mAndT (mBl (mBin fGt (mVar 2) (mC (.int 0)))) (mAndT (mBl (mBin (fEqD true) (mVar 9) (mOn (mkL false) mNil))) (mAndT (mBl (mBin (fEqD true) (mVar 7) (mOn (mkL false) mNil))) (mBl (mBin fGt (mCall 2 fn_law_pull (mCons (mVar 0) (mCons (mC (.int 3)) mNil))) (mC (.int 0))))))) (mDrop (mMet "list" fAppend (mVar 9) (mCons (mBin fIx (mVar 7) (mBin fSub (mBin fSub (mOn (orC fLen fLenD) (mCons (mVar 7) mNil)) (mC (.int 1))) (mCall 2 fn_law_pull (mCons (mVar 0) (mCons (mOn fMin2 (mCons (mC (.int 3)) (mCons (mOn (orC fLen fLenD) (mCons (mVar 7) mNil)) mNil))) mNil))))) mNil))) mSkip)) (mIfS (mBl (mBin (fEqD true) (mVar 9) (mOn (mkL false) mNil))) (mSeq (mAsg (mBin (fAdd false) (mBin fSub (mVar 2) (mOn (orC fLen fLenD) (mCons (mVar 9) mNil))) (mC (.int 1))) (gN 2)) (mSeq (mAsg (mBin (fStp true) (mVar 9) (mCall 2 fn_law_of (mCons (mVar 0) (mCons (mOn (mkL false) (mCons (mC (.int 1)) (mCons (mUn fNeg (mC (.int 1))) mNil))) mNil)))) (gN 9)) (mSeq (mDrop (mMet "list" fAppend (mVar 4) (mCons (mOn mkT (mCons (mVar 6) (mCons (mOn (orC fTuple fTupD) (mCons (mVar 9) mNil)) mNil))) mNil))) (mSeq (mAsg (mC (.int 0)) (gSub (mVar 5) (mVar 6))) (mFor (srcQ (mVar 9)) (gN 8) (mAsg (mBin (fAdd false) (mBin fIx (mVar 5) (mVar 8)) (mC (.int 1))) (gSub (mVar 5) (mVar 8)))))))) mSkip)))))) (mRet (mVar 4)))))
def fn_law_rows : FnI := mkFnF 3 11 m_law_rows
theorem len_law_rows : ∀ xs h, (fn_law_rows xs h).isSome = true → xs.length = 3 := mkFnF_len
theorem sc_law_rows : FnScope ["_law_urn_here", "_law_many", "_law_doubles", "_law_pool", "_law_found", "_law_used", "_law_word", "_law_free", "_law_each", "_law_some", "_law_last"] ["_law_urn_here", "_law_many", "_law_doubles"] (defScope (top 36)) := ⟨rfl, rfl, rfl, by decide +kernel, rfl, by decide +kernel, by decide +kernel⟩
theorem b_law_rows (T : Txt K mg fd w) : Binds K (fd 27) ["_law_urn_here", "_law_many", "_law_doubles"] [] := T.f_law_rows.bindsN fun _ _ _ _ _ _ us hl => match us, hl with | [_, _, _], _ => rfl
theorem ok_law_rows (T : Txt K mg fd w) : Ok P w K mg base 3 (He.ga K "_law_rows") (fd 27) ["_law_urn_here", "_law_many", "_law_doubles"] fn_law_rows := by
  exact fn_okPF 3 11 T.f_law_rows sc_law_rows rfl rfl fun cdv A outer s H E hr => (s_cons (s_set 3 (by exact sc_law_rows.nd) (e_call (ok_law_words T) (by exact hr.mono (by decide)) T.glo_law_words T.f_law_words.kp (b_law_words T) (a_cons (e_var 0) (a_cons (e_var 1) a_nil)))) (s_cons (s_asg (e_tup (a_cons (e_lst true (a_cons (e_tup (a_cons (e_ix (by exact u1 hr) (e_var 3) e_int) (a_cons (e_tup a_nil) a_nil))) a_nil)) (a_cons (e_disp1 (e_ix (by exact u1 hr) (e_var 3) e_int) e_int) a_nil))) (g_tup (n := 2) rfl (gs_cons (g_name 4 (by exact sc_law_rows.nd)) (gs_cons (g_name 5 (by exact sc_law_rows.nd)) gs_nil)))) (s_cons (s_for PassesOwn.never rfl (i_seq (e_slc false (e_var 3) (p_some e_int) p_none)) (g_name 6 (by exact sc_law_rows.nd)) (s_cons (s_lock 5 (s_setLc true 7 rfl (by exact sc_law_rows.nd) (i_keys (e_var 5)) (blkOk_by (own := [("_law_each", 8)]) rfl) (fun _ _ _ _ _ => (gw_name [8] 8 (by exact sc_law_rows.nd))) (fun _ _ _ _ _ => (ts_one (t_cmp o_lt (e_ix (by exact u1 hr) (e_var 5) (e_var 8)) e_int))) (fun _ _ _ _ _ => (e_var 8)))) (s_cons (s_set 9 (by exact sc_law_rows.nd) (e_if (t_cmp (o_neD (by exact u64 hr)) (e_var 7) (e_lst false a_nil)) (e_lst true (a_cons (e_met PySem.F.plainAttrs_list PySem.F.slot_list_pop PySem.F.type_list_pop m_popAt (e_var 7) (a_cons (e_bin o_sub (e_bin o_sub (e_blt (c_len.or c_lenD) T.free_len (a_cons (e_var 7) a_nil)) e_int) (e_call (ok_law_pull T) (by exact hr.mono (by decide)) T.glo_law_pull T.f_law_pull.kp (b_law_pull T) (a_cons (e_var 0) (a_cons (e_blt (c_min2 rfl) T.free_min (a_cons e_int (a_cons (e_blt (c_len.or c_lenD) T.free_len (a_cons (e_var 7) a_nil)) a_nil))) a_nil)))) a_nil)) a_nil)) (e_lst true a_nil))) (s_cons (s_set 10 (by exact sc_law_rows.nd) (e_ix (by exact u1 hr) (e_ix (by exact u1 hr) (e_var 4) (e_neg e_int)) e_int)) (s_cons (s_if (PW.pt (t_and (t_cmp o_gt (e_var 2) e_int) (t_and (t_cmp (o_eqD (by exact u64 hr)) (e_blt (c_len.or c_lenD) T.free_len (a_cons (e_var 10) a_nil)) e_int) (t_and (t_cmp o_lt (e_blt (c_maxL rfl) T.free_max (a_cons (e_lc false rfl (by exact sc_law_rows.nd) (i_seq (e_var 10)) (blkOk_by (own := [("_law_each", 8)]) rfl) (fun _ _ _ _ _ => (gw_name [8] 8 (by exact sc_law_rows.nd))) (fun _ _ _ _ _ => ts_nil) (fun _ _ _ _ _ => (e_ix (by exact u1 hr) (e_var 5) (e_var 8)))) a_nil)) e_int) (t_and1 (t_cmp (o_eqD (by exact u64 hr)) (e_call (ok_law_pull T) (by exact hr.mono (by decide)) T.glo_law_pull T.f_law_pull.kp (b_law_pull T) (a_cons (e_var 0) (a_cons e_int a_nil))) e_int)))))) (s_one (s_set 9 (by exact sc_law_rows.nd) (e_bty (c_list (cell := true)) T.free_list (a_cons (e_var 10) a_nil)))) (s_one (s_if (PW.pt (t_and (t_cmp o_gt (e_var 2) e_int) (t_and (t_cmp (o_neD (by exact u64 hr)) (e_var 9) (e_lst false a_nil)) (t_and (t_cmp (o_neD (by exact u64 hr)) (e_var 7) (e_lst false a_nil)) (t_and1 (t_cmp o_gt (e_call (ok_law_pull T) (by exact hr.mono (by decide)) T.glo_law_pull T.f_law_pull.kp (b_law_pull T) (a_cons (e_var 0) (a_cons e_int a_nil))) e_int)))))) (s_one (s_expr (e_met PySem.F.plainAttrs_list PySem.F.slot_list_append PySem.F.type_list_append m_append (e_var 9) (a_cons (e_ix (by exact u1 hr) (e_var 7) (e_bin o_sub (e_bin o_sub (e_blt (c_len.or c_lenD) T.free_len (a_cons (e_var 7) a_nil)) e_int) (e_call (ok_law_pull T) (by exact hr.mono (by decide)) T.glo_law_pull T.f_law_pull.kp (b_law_pull T) (a_cons (e_var 0) (a_cons (e_blt (c_min2 rfl) T.free_min (a_cons e_int (a_cons (e_blt (c_len.or c_lenD) T.free_len (a_cons (e_var 7) a_nil)) a_nil))) a_nil))))) a_nil)))) s_nil))) (s_one (s_if (t_cmp (o_neD (by exact u64 hr)) (e_var 9) (e_lst false a_nil)) (s_cons (s_set 2 (by exact sc_law_rows.nd) (e_bin (o_add (cell := false)) (e_bin o_sub (e_var 2) (e_blt (c_len.or c_lenD) T.free_len (a_cons (e_var 9) a_nil))) e_int)) (s_cons (s_set 9 (by exact sc_law_rows.nd) (e_stp true (e_var 9) (e_call (ok_law_of T) (by exact hr.mono (by decide)) T.glo_law_of T.f_law_of.kp (b_law_of T) (a_cons (e_var 0) (a_cons (e_lst false (a_cons e_int (a_cons (e_neg e_int) a_nil))) a_nil))))) (s_cons (s_expr (e_met PySem.F.plainAttrs_list PySem.F.slot_list_append PySem.F.type_list_append m_append (e_var 4) (a_cons (e_tup (a_cons (e_var 6) (a_cons (e_bty (c_tuple.or (c_tupD rfl)) T.free_tuple (a_cons (e_var 9) a_nil)) a_nil))) a_nil))) (s_cons (s_put (by exact u1 hr) (e_var 5) (e_var 6) e_int) (s_one (s_for PassesOwn.never rfl (i_seq (e_var 9)) (g_name 8 (by exact sc_law_rows.nd)) (s_one (s_put (by exact u1 hr) (e_var 5) (e_var 8) (e_bin (o_add (cell := false)) (e_ix (by exact u1 hr) (e_var 5) (e_var 8)) e_int))))))))) s_nil))))))) (s_one (s_ret (e_var 4))))))
def m_law_text : SI := (mRet (mMet "str" fJoin (mC (.str "; ")) (mCons (mLc false (srcQ (mVar 0)) (gT 2 (gsCons (gN 1) (gsCons (gN 2) gsNil))) mYes (mMet "str" fJoin (mC (.str " ")) (mCons (mBin (fAdd false) (mOn (mkL false) (mCons (mVar 1) mNil)) (mOn (fList false) (mCons (mVar 2) mNil))) mNil)) [1, 2]) mNil)))
def fn_law_text : FnI := mkFn 1 3 m_law_text
theorem len_law_text : ∀ xs h, (fn_law_text xs h).isSome = true → xs.length = 1 := mkFn_len
theorem sc_law_text : FnScope ["_law_rows_now", "_law_word", "_law_some"] ["_law_rows_now"] (defScope (top 37)) := ⟨rfl, rfl, rfl, by decide +kernel, rfl, by decide +kernel, by decide +kernel⟩
theorem b_law_text (T : Txt K mg fd w) : Binds K (fd 28) ["_law_rows_now"] [] := T.f_law_text.bindsN fun _ _ _ _ _ _ us hl => match us, hl with | [_], _ => rfl
theorem ok_law_text (T : Txt K mg fd w) : Ok P w K mg base 1 (He.ga K "_law_text") (fd 28) ["_law_rows_now"] fn_law_text := by
  exact fn_okP 1 3 T.f_law_text sc_law_text rfl rfl fun cdv A outer s H E hr => (s_one (s_ret (e_met PySem.F.plainAttrs_str PySem.F.slot_str_join PySem.F.type_str_join m_join e_str (a_cons (e_lc false rfl (by exact sc_law_text.nd) (i_seq (e_var 0)) (blkOk_by (own := [("_law_word", 1), ("_law_some", 2)]) rfl) (fun _ _ _ _ _ => (gw_tup (n := 2) rfl (gsw_cons (gw_name [1, 2] 1 (by exact sc_law_text.nd)) (gsw_cons (gw_name [1, 2] 2 (by exact sc_law_text.nd)) (gsw_nil [1, 2]))))) (fun _ _ _ _ _ => ts_nil) (fun _ _ _ _ _ => (e_met PySem.F.plainAttrs_str PySem.F.slot_str_join PySem.F.type_str_join m_join e_str (a_cons (e_bin (o_add (cell := false)) (e_lst false (a_cons (e_var 1) a_nil)) (e_bty (c_list (cell := false)) T.free_list (a_cons (e_var 2) a_nil))) a_nil)))) a_nil))))
def m_law_lines : SI := (mSeq (mAsg (mOn (mkL false) mNil) (gN 1)) (mSeq (mFor (srcQ (mVar 0)) (gT 2 (gsCons (gN 2) (gsCons (gN 3) gsNil))) (mAsg (mBin (fAdd false) (mVar 1) (mLc false (srcQ (mVar 3)) (gN 4) mYes (mOn mkT (mCons (mVar 4) (mCons (mVar 2) mNil))) [4])) (gN 1))) (mRet (mVar 1))))
def fn_law_lines : FnI := mkFn 1 5 m_law_lines
theorem len_law_lines : ∀ xs h, (fn_law_lines xs h).isSome = true → xs.length = 1 := mkFn_len
theorem sc_law_lines : FnScope ["_law_rows_now", "_law_found", "_law_word", "_law_some", "_law_each"] ["_law_rows_now"] (defScope (top 38)) := ⟨rfl, rfl, rfl, by decide +kernel, rfl, by decide +kernel, by decide +kernel⟩
theorem b_law_lines (T : Txt K mg fd w) : Binds K (fd 29) ["_law_rows_now"] [] := T.f_law_lines.bindsN fun _ _ _ _ _ _ us hl => match us, hl with | [_], _ => rfl
theorem ok_law_lines (T : Txt K mg fd w) : Ok P w K mg base 1 (He.ga K "_law_lines") (fd 29) ["_law_rows_now"] fn_law_lines := by
  exact fn_okP 1 5 T.f_law_lines sc_law_lines rfl rfl fun cdv A outer s H E hr => (s_cons (s_set 1 (by exact sc_law_lines.nd) (e_lst false a_nil)) (s_cons (s_for PassesOwn.never rfl (i_seq (e_var 0)) (g_tup (n := 2) rfl (gs_cons (g_name 2 (by exact sc_law_lines.nd)) (gs_cons (g_name 3 (by exact sc_law_lines.nd)) gs_nil))) (s_one (s_set 1 (by exact sc_law_lines.nd) (e_bin (o_add (cell := false)) (e_var 1) (e_lc false rfl (by exact sc_law_lines.nd) (i_seq (e_var 3)) (blkOk_by (own := [("_law_each", 4)]) rfl) (fun _ _ _ _ _ => (gw_name [4] 4 (by exact sc_law_lines.nd))) (fun _ _ _ _ _ => ts_nil) (fun _ _ _ _ _ => (e_tup (a_cons (e_var 4) (a_cons (e_var 2) a_nil))))))))) (s_one (s_ret (e_var 1)))))
def m_law_inner : SI := (mSeq (mAsg (mLc false (srcQ (mCall 1 fn_law_lines (mCons (mVar 0) mNil))) (gN 2) mYes (mBin fIx (mVar 2) (mC (.int 0))) [2]) (gN 1)) (mRet (mLc false (srcQ (mVar 0)) (gT 2 (gsCons (gN 3) (gsCons (gN 4) gsNil))) (mBl (mBin (fIn false) (mVar 3) (mVar 1))) (mVar 3) [3, 4])))
def fn_law_inner : FnI := mkFn 1 5 m_law_inner
theorem len_law_inner : ∀ xs h, (fn_law_inner xs h).isSome = true → xs.length = 1 := mkFn_len
theorem sc_law_inner : FnScope ["_law_rows_now", "_law_used", "_law_line", "_law_word", "_law_some"] ["_law_rows_now"] (defScope (top 39)) := ⟨rfl, rfl, rfl, by decide +kernel, rfl, by decide +kernel, by decide +kernel⟩
theorem b_law_inner (T : Txt K mg fd w) : Binds K (fd 30) ["_law_rows_now"] [] := T.f_law_inner.bindsN fun _ _ _ _ _ _ us hl => match us, hl with | [_], _ => rfl
theorem ok_law_inner (T : Txt K mg fd w) : Ok P w K mg base 2 (He.ga K "_law_inner") (fd 30) ["_law_rows_now"] fn_law_inner := by
  exact fn_okP 1 5 T.f_law_inner sc_law_inner rfl rfl fun cdv A outer s H E hr => (s_cons (s_set 1 (by exact sc_law_inner.nd) (e_lc false rfl (by exact sc_law_inner.nd) (i_seq (e_call (ok_law_lines T) (by exact hr.mono (by decide)) T.glo_law_lines T.f_law_lines.kp (b_law_lines T) (a_cons (e_var 0) a_nil))) (blkOk_by (own := [("_law_line", 2)]) rfl) (fun _ _ _ _ _ => (gw_name [2] 2 (by exact sc_law_inner.nd))) (fun _ _ _ _ _ => ts_nil) (fun _ _ _ _ _ => (e_ix (by exact u1 hr) (e_var 2) e_int)))) (s_one (s_ret (e_lc false rfl (by exact sc_law_inner.nd) (i_seq (e_var 0)) (blkOk_by (own := [("_law_word", 3), ("_law_some", 4)]) rfl) (fun _ _ _ _ _ => (gw_tup (n := 2) rfl (gsw_cons (gw_name [3, 4] 3 (by exact sc_law_inner.nd)) (gsw_cons (gw_name [3, 4] 4 (by exact sc_law_inner.nd)) (gsw_nil [3, 4]))))) (fun _ _ _ _ _ => (ts_one (t_cmp (o_in (by exact u65 hr)) (e_var 3) (e_var 1)))) (fun _ _ _ _ _ => (e_var 3))))))
def m_law_tuples : SI := (mSeq (mAsg (mOn (mkL false) (mCons (mOn mkT mNil) mNil)) (gN 1)) (mSeq (mFor (srcQ (mSlc false (mVar 0) (some (mC (.int 1))) none)) (gT 2 (gsCons (gN 2) (gsCons (gN 3) gsNil))) (mSeq (mAsg (mOn (mkL false) mNil) (gN 4)) (mSeq (mFor (srcQ (mVar 1)) (gN 5) (mAsg (mBin (fAdd false) (mVar 4) (mLc false (srcQ (mVar 3)) (gN 6) mYes (mBin fCatT (mVar 5) (mOn mkT (mCons (mVar 6) mNil))) [6])) (gN 4))) (mAsg (mVar 4) (gN 1))))) (mRet (mVar 1))))
def fn_law_tuples : FnI := mkFn 1 7 m_law_tuples
theorem len_law_tuples : ∀ xs h, (fn_law_tuples xs h).isSome = true → xs.length = 1 := mkFn_len
theorem sc_law_tuples : FnScope ["_law_rows_now", "_law_found", "_law_word", "_law_some", "_law_longer", "_law_each", "_law_origin"] ["_law_rows_now"] (defScope (top 40)) := ⟨rfl, rfl, rfl, by decide +kernel, rfl, by decide +kernel, by decide +kernel⟩
theorem b_law_tuples (T : Txt K mg fd w) : Binds K (fd 31) ["_law_rows_now"] [] := T.f_law_tuples.bindsN fun _ _ _ _ _ _ us hl => match us, hl with | [_], _ => rfl
theorem ok_law_tuples (T : Txt K mg fd w) : Ok P w K mg base 1 (He.ga K "_law_tuples") (fd 31) ["_law_rows_now"] fn_law_tuples := by
  exact fn_okP 1 7 T.f_law_tuples sc_law_tuples rfl rfl fun cdv A outer s H E hr => (s_cons (s_set 1 (by exact sc_law_tuples.nd) (e_lst false (a_cons (e_tup a_nil) a_nil))) (s_cons (s_for PassesOwn.never rfl (i_seq (e_slc false (e_var 0) (p_some e_int) p_none)) (g_tup (n := 2) rfl (gs_cons (g_name 2 (by exact sc_law_tuples.nd)) (gs_cons (g_name 3 (by exact sc_law_tuples.nd)) gs_nil))) (s_cons (s_set 4 (by exact sc_law_tuples.nd) (e_lst false a_nil)) (s_cons (s_for PassesOwn.never rfl (i_seq (e_var 1)) (g_name 5 (by exact sc_law_tuples.nd)) (s_one (s_set 4 (by exact sc_law_tuples.nd) (e_bin (o_add (cell := false)) (e_var 4) (e_lc false rfl (by exact sc_law_tuples.nd) (i_seq (e_var 3)) (blkOk_by (own := [("_law_origin", 6)]) rfl) (fun _ _ _ _ _ => (gw_name [6] 6 (by exact sc_law_tuples.nd))) (fun _ _ _ _ _ => ts_nil) (fun _ _ _ _ _ => (e_bin o_catT (e_var 5) (e_tup (a_cons (e_var 6) a_nil))))))))) (s_one (s_set 1 (by exact sc_law_tuples.nd) (e_var 4)))))) (s_one (s_ret (e_var 1)))))
def m_law_is_choice : SI := (mSeq (mIfS (mOrT (mNotT (mTru (mIsi "tuple" (mVar 1)))) (mBl (mBin (fEqD true) (mOn (orC fLen fLenD) (mCons (mVar 1) mNil)) (mBin fSub (mOn (orC fLen fLenD) (mCons (mVar 0) mNil)) (mC (.int 1)))))) (mRet (mC (.bl false))) mSkip) (mSeq (mIfS (mNotT (mTru (mOn fAll (mCons (mLc false (srcR1 (mCons (mOn (orC fLen fLenD) (mCons (mVar 1) mNil)) mNil)) (gN 2) mYes (mBin (orF (fIn false) (fInT false)) (mBin fIx (mVar 1) (mVar 2)) (mBin fIx (mBin fIx (mVar 0) (mBin (fAdd false) (mVar 2) (mC (.int 1)))) (mC (.int 1)))) [2]) mNil)))) (mRet (mC (.bl false))) mSkip) (mRet (mOn fAll (mCons (mLc false (srcQ (mCall 1 fn_law_inner (mCons (mVar 0) mNil))) (gN 3) mYes (mBin (orF (fIn false) (fInT false)) (mVar 3) (mVar 1)) [3]) mNil)))))
def fn_law_is_choice : FnI := mkFn 2 4 m_law_is_choice
theorem len_law_is_choice : ∀ xs h, (fn_law_is_choice xs h).isSome = true → xs.length = 2 := mkFn_len
theorem sc_law_is_choice : FnScope ["_law_rows_now", "_law_thing", "_law_k", "_law_word"] ["_law_rows_now", "_law_thing"] (defScope (top 41)) := ⟨rfl, rfl, rfl, by decide +kernel, rfl, by decide +kernel, by decide +kernel⟩
theorem b_law_is_choice (T : Txt K mg fd w) : Binds K (fd 32) ["_law_rows_now", "_law_thing"] [] := T.f_law_is_choice.bindsN fun _ _ _ _ _ _ us hl => match us, hl with | [_, _], _ => rfl
theorem ok_law_is_choice (T : Txt K mg fd w) : Ok P w K mg base 3 (He.ga K "_law_is_choice") (fd 32) ["_law_rows_now", "_law_thing"] fn_law_is_choice := by
  exact fn_okP 2 4 T.f_law_is_choice sc_law_is_choice rfl rfl fun cdv A outer s H E hr => (s_cons (s_if (PW.pt (t_or (t_not (t_val (e_isi "tuple" T.free_isinstance T.free_tuple (e_var 1)))) (t_or1 (t_cmp (o_neD (by exact u64 hr)) (e_blt (c_len.or c_lenD) T.free_len (a_cons (e_var 1) a_nil)) (e_bin o_sub (e_blt (c_len.or c_lenD) T.free_len (a_cons (e_var 0) a_nil)) e_int))))) (s_one (s_ret e_bl)) s_nil) (s_cons (s_if (t_not (t_val (e_blt (c_all rfl) T.free_all (a_cons (e_lc false rfl (by exact sc_law_is_choice.nd) (i_r1 T.free_range (a_cons (e_blt (c_len.or c_lenD) T.free_len (a_cons (e_var 1) a_nil)) a_nil)) (blkOk_by (own := [("_law_k", 2)]) rfl) (fun _ _ _ _ _ => (gw_name [2] 2 (by exact sc_law_is_choice.nd))) (fun _ _ _ _ _ => ts_nil) (fun _ _ _ _ _ => (e_cmp ((o_in (by exact u65 hr)).or (o_inT (by exact u65 hr))) (e_ix (by exact u1 hr) (e_var 1) (e_var 2)) (e_ix (by exact u1 hr) (e_ix (by exact u1 hr) (e_var 0) (e_bin (o_add (cell := false)) (e_var 2) e_int)) e_int)))) a_nil)))) (s_one (s_ret e_bl)) s_nil) (s_one (s_ret (e_blt (c_all rfl) T.free_all (a_cons (e_lc false rfl (by exact sc_law_is_choice.nd) (i_seq (e_call (ok_law_inner T) (by exact hr.mono (by decide)) T.glo_law_inner T.f_law_inner.kp (b_law_inner T) (a_cons (e_var 0) a_nil))) (blkOk_by (own := [("_law_word", 3)]) rfl) (fun _ _ _ _ _ => (gw_name [3] 3 (by exact sc_law_is_choice.nd))) (fun _ _ _ _ _ => ts_nil) (fun _ _ _ _ _ => (e_cmp ((o_in (by exact u65 hr)).or (o_inT (by exact u65 hr))) (e_var 3) (e_var 1)))) a_nil))))))
def m_law_bent : SI := (mSeq (mPar 3 4 (mCons (mCall 2 fn_law_pull (mCons (mVar 0) (mCons (mBin (fAdd false) (mOn (orC fLen fLenD) (mCons (mVar 2) mNil)) (mC (.int 1))) mNil))) (mCons (mCall 2 fn_law_pull (mCons (mVar 0) (mCons (mC (.int 7)) mNil))) mNil))) (mSeq (mAsg (mCall 2 fn_law_of (mCons (mVar 0) (mCons (mOn (mkL false) (mCons (mBin fIx (mBin fIx (mVar 1) (mC (.int 0))) (mC (.int 0))) (mCons (mBin fIx (mBin fIx (mVar 1) (mUn fNeg (mC (.int 1)))) (mC (.int 0))) (mCons (mC (.str "q")) (mCons (mC (.str "")) (mCons (mC .non) (mCons (mC (.int 0)) (mCons (mOn mkT (mCons (mC (.str "a")) mNil)) (mCons (mOn (mkL false) (mCons (mC (.str "a")) mNil)) (mCons (mSlc false (mVar 2) none (some (mC (.int 1)))) mNil)))))))))) mNil))) (gN 5)) (mSeq (mIfS (mBl (mBin (fEqD false) (mVar 4) (mC (.int 0)))) (mRet (mOn (fList false) (mCons (mVar 2) mNil))) mSkip) (mSeq (mIfS (mBl (mBin (fEqD false) (mVar 4) (mC (.int 1)))) (mRet (mBin (fStp false) (mVar 2) (mUn fNeg (mC (.int 1))))) mSkip) (mSeq (mIfS (mBl (mBin fLt (mVar 4) (mC (.int 4)))) (mRet (mBin fCatT (mBin fCatT (mSlc false (mVar 2) none (some (mVar 3))) (mOn mkT (mCons (mVar 5) mNil))) (mSlc false (mVar 2) (some (mBin fSub (mBin (fAdd false) (mVar 3) (mVar 4)) (mC (.int 2)))) none))) mSkip) (mRet (mIf (mBl (mBin (fEqD false) (mVar 4) (mC (.int 4)))) (mSlc false (mVar 2) (some (mC (.int 1))) none) (mBin fCatT (mVar 2) (mSlc false (mVar 2) (some (mUn fNeg (mC (.int 1)))) none)))))))))
def fn_law_bent : FnI := mkFn 3 6 m_law_bent
theorem len_law_bent : ∀ xs h, (fn_law_bent xs h).isSome = true → xs.length = 3 := mkFn_len
theorem sc_law_bent : FnScope ["_law_urn_here", "_law_rows_now", "_law_thing", "_law_at", "_law_way_now", "_law_odd"] ["_law_urn_here", "_law_rows_now", "_law_thing"] (defScope (top 42)) := ⟨rfl, rfl, rfl, by decide +kernel, rfl, by decide +kernel, by decide +kernel⟩
theorem b_law_bent (T : Txt K mg fd w) : Binds K (fd 33) ["_law_urn_here", "_law_rows_now", "_law_thing"] [] := T.f_law_bent.bindsN fun _ _ _ _ _ _ us hl => match us, hl with | [_, _, _], _ => rfl
theorem ok_law_bent (T : Txt K mg fd w) : Ok P w K mg base 3 (He.ga K "_law_bent") (fd 33) ["_law_urn_here", "_law_rows_now", "_law_thing"] fn_law_bent := by
  exact fn_okP 3 6 T.f_law_bent sc_law_bent rfl rfl fun cdv A outer s H E hr => (s_cons (s_par2 3 4 (by exact sc_law_bent.nd) (a_cons (e_call (ok_law_pull T) (by exact hr.mono (by decide)) T.glo_law_pull T.f_law_pull.kp (b_law_pull T) (a_cons (e_var 0) (a_cons (e_bin (o_add (cell := false)) (e_blt (c_len.or c_lenD) T.free_len (a_cons (e_var 2) a_nil)) e_int) a_nil))) (a_cons (e_call (ok_law_pull T) (by exact hr.mono (by decide)) T.glo_law_pull T.f_law_pull.kp (b_law_pull T) (a_cons (e_var 0) (a_cons e_int a_nil))) a_nil))) (s_cons (s_set 5 (by exact sc_law_bent.nd) (e_call (ok_law_of T) (by exact hr.mono (by decide)) T.glo_law_of T.f_law_of.kp (b_law_of T) (a_cons (e_var 0) (a_cons (e_lst false (a_cons (e_ix (by exact u1 hr) (e_ix (by exact u1 hr) (e_var 1) e_int) e_int) (a_cons (e_ix (by exact u1 hr) (e_ix (by exact u1 hr) (e_var 1) (e_neg e_int)) e_int) (a_cons e_str (a_cons e_str (a_cons e_non (a_cons e_int (a_cons (e_tup (a_cons e_str a_nil)) (a_cons (e_lst false (a_cons e_str a_nil)) (a_cons (e_slc false (e_var 2) p_none (p_some e_int)) a_nil)))))))))) a_nil)))) (s_cons (s_if (t_cmp (o_eqD (by exact u64 hr)) (e_var 4) e_int) (s_one (s_ret (e_bty (c_list (cell := false)) T.free_list (a_cons (e_var 2) a_nil)))) s_nil) (s_cons (s_if (t_cmp (o_eqD (by exact u64 hr)) (e_var 4) e_int) (s_one (s_ret (e_stp false (e_var 2) (e_neg e_int)))) s_nil) (s_cons (s_if (t_cmp o_lt (e_var 4) e_int) (s_one (s_ret (e_bin o_catT (e_bin o_catT (e_slc false (e_var 2) p_none (p_some (e_var 3))) (e_tup (a_cons (e_var 5) a_nil))) (e_slc false (e_var 2) (p_some (e_bin o_sub (e_bin (o_add (cell := false)) (e_var 3) (e_var 4)) e_int)) p_none)))) s_nil) (s_one (s_ret (e_if (t_cmp (o_eqD (by exact u64 hr)) (e_var 4) e_int) (e_slc false (e_var 2) (p_some e_int) p_none) (e_bin o_catT (e_var 2) (e_slc false (e_var 2) (p_some (e_neg e_int)) p_none))))))))))
def m_law_right : SI := (mSeq (mFor (srcR1 (mCons (mC (.int 5)) mNil)) (gN 1) (mSeq (mAsg (mCall 3 fn_law_rows (mCons (mVar 0) (mCons (mBin (fAdd false) (mC (.int 2)) (mCall 2 fn_law_pull (mCons (mVar 0) (mCons (mC (.int 8)) mNil)))) (mCons (mC (.int 5)) mNil)))) (gN 2)) (mSeq (mAsg (mOn mkT (mCons (mC (.str "has")) (mCons (mCall 1 fn_law_text (mCons (mVar 2) mNil)) mNil))) (gN 3)) (mSeq (mFor (srcQ (mCall 1 fn_law_tuples (mCons (mVar 2) mNil))) (gN 4) (mSeq (mAsg (mCall 2 fn_law_is_choice (mCons (mVar 2) (mCons (mVar 4) mNil))) (gN 5)) (mIfS (mBl (mBin (fEqD true) (mOn fRepr (mCons (mOn (mkL false) (mCons (mCall 2 fn_accepts (mCons (mVar 3) (mCons (mVar 4) mNil))) (mCons (mCallK 2 [1, 0] fn_accepts (mCons (mVar 4) (mCons (mVar 3) mNil))) mNil))) mNil)) (mOn fRepr (mCons (mOn (mkL false) (mCons (mVar 5) (mCons (mVar 5) mNil))) mNil)))) (mRet (mC (.bl false))) mSkip))) (mFor (srcR1 (mCons (mC (.int 12)) mNil)) (gN 6) (mSeq (mAsg (mCall 3 fn_law_bent (mCons (mVar 0) (mCons (mVar 2) (mCons (mCall 2 fn_law_of (mCons (mVar 0) (mCons (mCall 1 fn_law_tuples (mCons (mVar 2) mNil)) mNil))) mNil)))) (gN 4)) (mIfS (mBl (mBin (fEqD true) (mOn fReprB (mCons (mCall 2 fn_accepts (mCons (mVar 3) (mCons (mVar 4) mNil))) mNil)) (mOn fReprB (mCons (mCall 2 fn_law_is_choice (mCons (mVar 2) (mCons (mVar 4) mNil))) mNil)))) (mRet (mC (.bl false))) mSkip))))))) (mRet (mC (.bl true))))
def fn_law_right : FnI := mkFn 1 7 m_law_right
theorem len_law_right : ∀ xs h, (fn_law_right xs h).isSome = true → xs.length = 1 := mkFn_len
theorem sc_law_right : FnScope ["_law_urn_here", "_law_turn", "_law_rows_now", "_law_claimed", "_law_thing", "_law_due", "_law_again"] ["_law_urn_here"] (defScope (top 43)) := ⟨rfl, rfl, rfl, by decide +kernel, rfl, by decide +kernel, by decide +kernel⟩
theorem b_law_right (T : Txt K mg fd w) : Binds K (fd 34) ["_law_urn_here"] [] := T.f_law_right.bindsN fun _ _ _ _ _ _ us hl => match us, hl with | [_], _ => rfl
theorem ok_law_right (T : Txt K mg fd w) : OkG P w K mg base 6 (He.ga K "_law_right") (fd 34) ["_law_urn_here"] fn_law_right := by
  exact fn_okG 1 7 T.f_law_right sc_law_right rfl rfl (fun q => fn_body (np := 1) (ns := 7) (m := m_law_right) rfl rfl q) fun cdv A outer s H E hgd hr => (s_cons (s_for PassesOwn.never rfl (i_r1 T.free_range (a_cons e_int a_nil)) (g_name 1 (by exact sc_law_right.nd)) (s_cons (s_set 2 (by exact sc_law_right.nd) (e_call (ok_law_rows T) (by exact hr.mono (by decide)) T.glo_law_rows T.f_law_rows.kp (b_law_rows T) (a_cons (e_var 0) (a_cons (e_bin (o_add (cell := false)) e_int (e_call (ok_law_pull T) (by exact hr.mono (by decide)) T.glo_law_pull T.f_law_pull.kp (b_law_pull T) (a_cons (e_var 0) (a_cons e_int a_nil)))) (a_cons e_int a_nil))))) (s_cons (s_set 3 (by exact sc_law_right.nd) (e_tup (a_cons e_str (a_cons (e_call (ok_law_text T) (by exact hr.mono (by decide)) T.glo_law_text T.f_law_text.kp (b_law_text T) (a_cons (e_var 2) a_nil)) a_nil)))) (s_cons (s_for PassesOwn.never rfl (i_seq (e_call (ok_law_tuples T) (by exact hr.mono (by decide)) T.glo_law_tuples T.f_law_tuples.kp (b_law_tuples T) (a_cons (e_var 2) a_nil))) (g_name 4 (by exact sc_law_right.nd)) (s_cons (s_set 5 (by exact sc_law_right.nd) (e_call (ok_law_is_choice T) (by exact hr.mono (by decide)) T.glo_law_is_choice T.f_law_is_choice.kp (b_law_is_choice T) (a_cons (e_var 2) (a_cons (e_var 4) a_nil)))) (s_one (s_if (t_cmp (o_neD (by exact u64 hr)) (e_blt (c_repr (by exact hr) (by exact hgd)) T.free_repr (a_cons (e_lst false (a_cons (e_call (ok_accepts T) (by exact hr.mono (by decide)) T.glo_accepts T.f_accepts.kp (b_accepts T) (a_cons (e_var 3) (a_cons (e_var 4) a_nil))) (a_cons (e_callK (ks := ["certificate", "claim"]) [1, 0] (ok_accepts T) len_accepts (by exact hr.mono (by decide)) T.glo_accepts T.f_accepts.kp (kplain T.f_accepts 0 ["certificate", "claim"] [1, 0] fun _ _ _ _ _ _ us ws l1 l2 => match us, ws, l1, l2 with | [], [_, _], _, _ => rfl) (k_cons "certificate" (e_var 4) (k_cons "claim" (e_var 3) k_nil))) a_nil))) a_nil)) (e_blt (c_repr (by exact hr) (by exact hgd)) T.free_repr (a_cons (e_lst false (a_cons (e_var 5) (a_cons (e_var 5) a_nil))) a_nil))) (s_one (s_ret e_bl)) s_nil)))) (s_one (s_for PassesOwn.never rfl (i_r1 T.free_range (a_cons e_int a_nil)) (g_name 6 (by exact sc_law_right.nd)) (s_cons (s_set 4 (by exact sc_law_right.nd) (e_call (ok_law_bent T) (by exact hr.mono (by decide)) T.glo_law_bent T.f_law_bent.kp (b_law_bent T) (a_cons (e_var 0) (a_cons (e_var 2) (a_cons (e_call (ok_law_of T) (by exact hr.mono (by decide)) T.glo_law_of T.f_law_of.kp (b_law_of T) (a_cons (e_var 0) (a_cons (e_call (ok_law_tuples T) (by exact hr.mono (by decide)) T.glo_law_tuples T.f_law_tuples.kp (b_law_tuples T) (a_cons (e_var 2) a_nil)) a_nil))) a_nil))))) (s_one (s_if (t_cmp (o_neD (by exact u64 hr)) (e_blt c_reprB T.free_repr (a_cons (e_call (ok_accepts T) (by exact hr.mono (by decide)) T.glo_accepts T.f_accepts.kp (b_accepts T) (a_cons (e_var 3) (a_cons (e_var 4) a_nil))) a_nil)) (e_blt c_reprB T.free_repr (a_cons (e_call (ok_law_is_choice T) (by exact hr.mono (by decide)) T.glo_law_is_choice T.f_law_is_choice.kp (b_law_is_choice T) (a_cons (e_var 2) (a_cons (e_var 4) a_nil))) a_nil))) (s_one (s_ret e_bl)) s_nil))))))))) (s_one (s_ret e_bl)))
def m_law : SI := (mRet (mOn fAll (mCons (mLc false (srcR1 (mCons (mOn fMax2 (mCons (mC (.int 2)) (mCons (mOn fMin2 (mCons (mOn (orC fLen fLenD) (mCons (mVar 0) mNil)) (mCons (mC (.int 5)) mNil))) mNil))) mNil)) (gN 1) mYes (mCall 1 fn_law_right (mCons (mCall 2 fn_law_urn (mCons (mVar 0) (mCons (mVar 1) mNil))) mNil)) [1]) mNil)))
def fn_law : FnI := mkFn 1 2 m_law
theorem len_law : ∀ xs h, (fn_law xs h).isSome = true → xs.length = 1 := mkFn_len
theorem sc_law : FnScope ["_law_script", "_law_turn"] ["_law_script"] (defScope (top 44)) := ⟨rfl, rfl, rfl, by decide +kernel, rfl, by decide +kernel, by decide +kernel⟩
theorem b_law (T : Txt K mg fd w) : Binds K (fd 35) ["_law_script"] [] := T.f_law.bindsN fun _ _ _ _ _ _ us hl => match us, hl with | [_], _ => rfl
theorem ok_law (T : Txt K mg fd w) : OkG P w K mg base 7 (He.ga K "law") (fd 35) ["_law_script"] fn_law := by
  exact fn_okG 1 2 T.f_law sc_law rfl rfl (fun q => fn_body (np := 1) (ns := 2) (m := m_law) rfl rfl q) fun cdv A outer s H E hgd hr => (s_one (s_ret (e_blt (c_all rfl) T.free_all (a_cons (e_lc false rfl (by exact sc_law.nd) (i_r1 T.free_range (a_cons (e_blt (c_max2 rfl) T.free_max (a_cons e_int (a_cons (e_blt (c_min2 rfl) T.free_min (a_cons (e_blt (c_len.or c_lenD) T.free_len (a_cons (e_var 0) a_nil)) (a_cons e_int a_nil))) a_nil))) a_nil)) (blkOk_by (own := [("_law_turn", 1)]) rfl) (fun _ _ _ _ _ => (gw_name [1] 1 (by exact sc_law.nd))) (fun _ _ _ _ _ => ts_nil) (fun _ _ _ _ _ => (e_callG (ok_law_right T) (by exact hgd) (by exact hr.mono (by decide)) T.glo_law_right T.f_law_right.kp (b_law_right T) (a_cons (e_call (ok_law_urn T) (by exact hr.mono (by decide)) T.glo_law_urn T.f_law_urn.kp (b_law_urn T) (a_cons (e_var 0) (a_cons (e_var 1) a_nil))) a_nil)))) a_nil))))
end
end K52
set_option Elab.async false
set_option linter.all false
set_option maxRecDepth 100000
set_option maxHeartbeats 1000000
namespace K52
open PySem PySem.Spec PyProof.Rows L2 F2
theorem cut_same {n : Nat} {a : A} {h : Hh} (e : h.length = n) : cut n a h = (a, h) := by
  unfold cut
  split
  · rw [List.take_of_length_le (by omega)]
  · rfl
def LS (xs : List Str) : D := .lst (xs.map .str)
end K52
set_option Elab.async false
set_option linter.all false
set_option maxRecDepth 100000
set_option maxHeartbeats 1000000
namespace K52
open PySem PySem.Spec PyProof.Rows L2 F2
def LA (xs : List Str) : List A := xs.map fun x => .d (.str x)
theorem map_erase {α β : Type} (f : α → β) : ∀ (xs : List α) (i : Nat), (xs.map f).eraseIdx i = (xs.eraseIdx i).map f
  | [], _ => rfl
  | _ :: _, 0 => rfl
  | x :: xs, i + 1 => by
    show f x :: (xs.map f).eraseIdx i = f x :: (xs.eraseIdx i).map f
    rw [map_erase f xs i]
theorem LIMv : (1000 : Nat) < LIM := by unfold LIM; omega
theorem popAt_eq {h : Hh} {c i : Nat} {xs : List A} (hc : h[c]? = some (.lst xs)) (hi : i < xs.length) (hl : xs.length < 1000) : fPopAt (.ref c) [.d (.int i)] h = some (xs[i], h.set c (.lst (xs.eraseIdx i))) := by
  have sq : seqIndex? (i : Int) xs.length = some i := by
    unfold seqIndex?
    rw [if_neg (by omega : ¬ (i : Int) < 0)]
    dsimp only
    rw [if_pos (by rw [Bool.and_eq_true, decide_eq_true_eq, decide_eq_true_eq]; omega)]
    rfl
  unfold fPopAt
  dsimp only
  rw [hc]
  dsimp only
  rw [if_pos ⟨by omega, by omega⟩, sq]
  dsimp only
  rw [List.getElem?_eq_getElem hi]
  rfl
theorem append_eq {h : Hh} {c : Nat} {xs : List A} {y : A} (hc : h[c]? = some (.lst xs)) (hl : xs.length < 1000) : fAppend (.ref c) [y] h = some (.d .non, h.set c (.lst (xs ++ [y]))) := by
  unfold fAppend
  dsimp only
  rw [hc]
  dsimp only
  rw [if_pos (Nat.lt_trans hl LIMv)]
theorem isT_list {h : Hh} {c : Nat} {xs : List A} (hc : h[c]? = some (.lst xs)) : isT "list" (.ref c) h = true := by simp [isT, itemsL, hc]
theorem len_eq {h : Hh} {c : Nat} {xs : List A} (hc : h[c]? = some (.lst xs)) : orC fLen fLenD [.ref c] h = some (.d (.int xs.length), h) := by simp [orC, fLen, itemsL, hc]
theorem LA_len (xs : List Str) : (LA xs).length = xs.length := by simp [LA]
theorem LA_snoc (xs : List Str) (y : Str) : LA xs ++ [.d (.str y)] = LA (xs ++ [y]) := by simp [LA]
end K52
set_option Elab.async false
set_option linter.all false
set_option maxRecDepth 100000
set_option maxHeartbeats 1000000
namespace K52
open PySem PySem.Spec PyProof.Rows L2 F2
/-! cells of data alone -/
def isD : A → Bool
  | .d _ => true
  | _ => false
def dO : O → Bool
  | .lst xs => xs.all isD
  | .dK kvs => kvs.all fun p => isD p.2
  | .dead => true
  | _ => false
def DH (H : Hh) : Prop := H.all dO = true
theorem low_d {n : Nat} : ∀ {xs : List A}, xs.all isD = true → lows n xs = true
  | [], _ => rfl
  | x :: xs, h => by
    rw [List.all_cons, Bool.and_eq_true] at h
    obtain ⟨h1, h2⟩ := h
    cases x with
    | d y => simp [lows, low, low_d h2]
    | ref _ => cases h1
    | tp _ => cases h1
theorem lowO_d {n : Nat} {o : O} (h : dO o = true) : lowO n o = true := by
  cases o with
  | lst xs => exact low_d h
  | dK kvs =>
    have h' : (kvs.all fun p => isD p.2) = true := h
    refine List.all_eq_true.mpr fun p hp => ?_
    have z := List.all_eq_true.mp h' p hp
    cases e : p.2 with
    | d y => simp [low]
    | ref _ => rw [e] at z; cases z
    | tp _ => rw [e] at z; cases z
  | dead => rfl
  | _ => cases h
theorem DH.low {H : Hh} (h : DH H) {n : Nat} : H.all (lowO n) = true := List.all_eq_true.mpr fun o ho => lowO_d (List.all_eq_true.mp h o ho)
theorem DH.set {H : Hh} (h : DH H) {l : Nat} {o : O} (ho : dO o = true) : DH (H.set l o) := List.all_eq_true.mpr fun u hu => by
  rcases List.mem_or_eq_of_mem_set hu with z | z
  · exact List.all_eq_true.mp h u z
  · rw [z]; exact ho
theorem DH.app {H G : Hh} (h : DH H) (g : DH G) : DH (H ++ G) := by
  unfold DH
  rw [List.all_append, h, g]; rfl
theorem dO_LA {xs : List Str} : dO (.lst (LA xs)) = true := by simp [dO, LA, isD]
theorem allD_LA : ∀ xs : List Str, allD (LA xs) = some (xs.map .str)
  | [] => rfl
  | x :: xs => by
    show (match A.d (.str x) with | .d y => (allD (LA xs)).map (y :: ·) | _ => none) = _
    rw [allD_LA xs]; rfl
/-- a list of texts given away, the callers' cells data -/
theorem cutF_LA {n c : Nat} {h G : Hh} {xs : List Str} (hn : n ≤ c) (hc : h[c]? = some (.lst (LA xs))) (ht : h.take n = G) (hd : DH G) : cutF n (.ref c) h = (.d (LS xs), G) := by
  unfold cutF
  dsimp only
  rw [ht, if_pos ⟨hn, hd.low⟩, hc]
  dsimp only
  rw [allD_LA]
  rfl
/-! the loop of labels -/
end K52
set_option Elab.async false
set_option linter.all false
set_option maxRecDepth 100000
set_option maxHeartbeats 1000000
namespace K52
open PySem PySem.Spec PyProof.Rows L2 F2
/-- how a def's body ends -/
def finF (n : Nat) : Option Out → Option (A × Hh)
  | some (.nx _ h') => some (cutF n (.d .non) h')
  | some (.rt a h') => some (cutF n a h')
  | _ => none
theorem mkFnF_eq {np ns : Nat} {m : SI} {as : List A} {h : Hh} (e : as.length = np) : mkFnF np ns m as h = finF h.length (m (as.map some ++ List.replicate (ns - np) none) h) := by
  unfold mkFnF
  rw [if_pos e]
  generalize m (as.map some ++ List.replicate (ns - np) none) h = o
  cases o with
  | none => rfl
  | some o => cases o <;> rfl
theorem seq_nx {m n : SI} {ρ ρ1 : En} {h h1 : Hh} (e : m ρ h = some (.nx ρ1 h1)) : mSeq m n ρ h = n ρ1 h1 := by
  unfold mSeq
  rw [e]
theorem asg_N {m : EI} {i : Nat} {ρ : En} {h h1 : Hh} {a : A} (e : m ρ h = some (a, h1)) : mAsg m (gN i) ρ h = some (.nx (ρ.set i (some a)) h1) := by
  unfold mAsg
  rw [e]
  rfl
theorem bin_of {f : A → A → Hh → Option (A × Hh)} {m n : EI} {ρ : En} {h h1 h2 : Hh} {x y : A} (e1 : m ρ h = some (x, h1)) (e2 : n ρ h1 = some (y, h2)) : mBin f m n ρ h = f x y h2 := by
  unfold mBin
  rw [e1]
  dsimp only
  rw [e2]
theorem nil_cell' (h : Hh) : mkL true [] h = some (.ref h.length, h ++ [.lst []]) := by
  unfold mkL
  split
  · split
    · rfl
    · rename_i z; exact absurd rfl z
  · rename_i z; exact absurd (Nat.zero_le _) z
theorem nil_cell (ρ : En) (h : Hh) : mOn (mkL true) mNil ρ h = some (.ref h.length, h ++ [.lst []]) := by
  exact nil_cell' h
theorem range_n {n : Nat} (hn : n < 1000) {m : AI} {ρ : En} {h h1 : Hh} (e : m ρ h = some ([.d (.int n)], h1)) : srcR1 m ρ h = some (⟨rngN 0 n, n⟩, h1) := by
  unfold srcR1
  rw [e]
  dsimp only
  rw [if_pos ⟨by omega, by omega⟩, Int.toNat_natCast]
theorem for_range {n : Nat} (hn : n < 1000) {m : AI} {g : GI} {b : SI} {ρ : En} {h h1 : Hh} {o : Option Out} (e : m ρ h = some ([.d (.int n)], h1)) (f : forGo ⟨rngN 0 n, n⟩ (mTurn g b) n 0 ρ h1 = o) : mFor (srcR1 m) g b ρ h = o := by
  have z := range_n hn e
  unfold mFor
  rw [z]
  exact f
end K52
set_option Elab.async false
set_option linter.all false
set_option maxRecDepth 100000
set_option maxHeartbeats 1000000
namespace K52
open PySem PySem.Spec PyProof.Rows L2 F2
/-! ### walks over what stands still -/
theorem for_go {items : List A} {s : Src} {turn : A → En → Hh → Option Out} (hs : ∀ i h, s.nxt i h = some items[i]?) {I : Nat → En → Hh → Prop}
    (step : ∀ (i : Nat) (ρ : En) (H : Hh) (hi : i < items.length), I i ρ H → ∃ ρ' H', turn items[i] ρ H = some (.nx ρ' H') ∧ I (i + 1) ρ' H') :
    ∀ (m i : Nat) (ρ : En) (H : Hh), i + m = items.length → I i ρ H → ∃ ρ' H', forGo s turn m i ρ H = some (.nx ρ' H') ∧ I items.length ρ' H' := by
  intro m
  induction m with
  | zero =>
    intro i ρ H hi h
    refine ⟨ρ, H, ?_, ?_⟩
    · unfold forGo
      rw [hs, List.getElem?_eq_none (by omega)]
    · have e : i = items.length := by omega
      rw [← e]; exact h
  | succ m ih =>
    intro i ρ H hi h
    have hlt : i < items.length := by omega
    obtain ⟨ρ1, H1, e1, h1⟩ := step i ρ H hlt h
    obtain ⟨ρ2, H2, e2, h2⟩ := ih (i + 1) ρ1 H1 (by omega) h1
    refine ⟨ρ2, H2, ?_, h2⟩
    unfold forGo
    rw [hs, List.getElem?_eq_getElem hlt]
    dsimp only
    rw [e1]
    exact e2
theorem for_items {items : List A} {s : Src} {it : SrcI} {g : GI} {b : SI} (hs : ∀ i h, s.nxt i h = some items[i]?) (hf : s.fuel = items.length) {I : Nat → En → Hh → Prop} {ρ : En} {H H1 : Hh} (hit : it ρ H = some (s, H1))
    (step : ∀ (i : Nat) (ρ : En) (H : Hh) (hi : i < items.length), I i ρ H → ∃ ρ' H', mTurn g b items[i] ρ H = some (.nx ρ' H') ∧ I (i + 1) ρ' H') (h0 : I 0 ρ H1) : ∃ ρ' H', mFor it g b ρ H = some (.nx ρ' H') ∧ I items.length ρ' H' := by
  unfold mFor
  rw [hit]
  dsimp only
  rw [hf]
  exact for_go hs step items.length 0 ρ H1 (by omega) h0
theorem items_map (ds : List D) (h : Hh) : ∀ i, (listN (.d (.lst ds)) i h) = some ((ds.map A.d)[i]?) := fun i => rfl
/-- a comprehension whose parts do nothing to the cells but what I says -/
theorem lc_go {items : List A} {s : Src} {g : GI} {t : TI'} {m : EI} {ρ : En} (hs : ∀ i h, s.nxt i h = some items[i]?) {I : Nat → List A → Hh → Prop}
    (step : ∀ (i : Nat) (acc : List A) (H : Hh) (hi : i < items.length), I i acc H → ∃ ρ1 H1 k H2, g items[i] ρ H = some (ρ1, H1) ∧ t ρ1 H1 = some (k, H2) ∧ (k = false → I (i + 1) acc H2) ∧ (k = true → ∃ a H3, m ρ1 H2 = some (a, H3) ∧ I (i + 1) (acc ++ [a]) H3 ∧ acc.length < 1000)) :
    ∀ (n i : Nat) (acc : List A) (H : Hh), i + n = items.length → I i acc H → ∃ acc' H', lcGo s g t m ρ n i acc H = some (acc', H') ∧ I items.length acc' H' := by
  intro n
  induction n with
  | zero =>
    intro i acc H hi h
    refine ⟨acc, H, ?_, ?_⟩
    · unfold lcGo
      rw [hs, List.getElem?_eq_none (by omega)]
    · have e : i = items.length := by omega
      rw [← e]; exact h
  | succ n ih =>
    intro i acc H hi h
    have hlt : i < items.length := by omega
    obtain ⟨ρ1, H1, k, H2, e1, e2, hf, ht⟩ := step i acc H hlt h
    cases k with
    | false =>
      obtain ⟨a2, H3, e3, h3⟩ := ih (i + 1) acc H2 (by omega) (hf rfl)
      refine ⟨a2, H3, ?_, h3⟩
      unfold lcGo
      rw [hs, List.getElem?_eq_getElem hlt]
      dsimp only
      rw [e1]
      dsimp only
      rw [e2]
      exact e3
    | true =>
      obtain ⟨a, H3, e3, h3, hz⟩ := ht rfl
      obtain ⟨a2, H4, e4, h4⟩ := ih (i + 1) (acc ++ [a]) H3 (by omega) h3
      refine ⟨a2, H4, ?_, h4⟩
      unfold lcGo
      rw [hs, List.getElem?_eq_getElem hlt]
      dsimp only
      rw [e1]
      dsimp only
      rw [e2]
      dsimp only
      rw [e3]
      dsimp only
      rw [if_pos (Nat.lt_trans hz LIMv)]
      exact e4
theorem lc_items {items : List A} {s : Src} {it : SrcI} {g : GI} {t : TI'} {m : EI} {vs : List Nat} {ρ : En} {H H1 : Hh} (hs : ∀ i h, s.nxt i h = some items[i]?) (hf : s.fuel = items.length) (hit : it ρ H = some (s, H1)) {I : Nat → List A → Hh → Prop}
    (step : ∀ (i : Nat) (acc : List A) (H : Hh) (hi : i < items.length), I i acc H → ∃ ρ1 H1 k H2, g items[i] (wipeE ρ vs) H = some (ρ1, H1) ∧ t ρ1 H1 = some (k, H2) ∧ (k = false → I (i + 1) acc H2) ∧ (k = true → ∃ a H3, m ρ1 H2 = some (a, H3) ∧ I (i + 1) (acc ++ [a]) H3 ∧ acc.length < 1000))
    (h0 : I 0 [] H1) : ∃ acc' H', I items.length acc' H' ∧ ∀ cell, mLc cell it g t m vs ρ H = mkL cell acc' H' := by
  obtain ⟨acc', H', e, h⟩ := lc_go (ρ := wipeE ρ vs) hs step items.length 0 [] H1 (by omega) h0
  refine ⟨acc', H', h, fun cell => ?_⟩
  unfold mLc
  rw [hit]
  dsimp only
  rw [hf, e]
/-! ### the law from what right does -/
end K52
set_option Elab.async false
set_option linter.all false
set_option maxRecDepth 100000
set_option maxHeartbeats 1000000
namespace K52
open PySem PySem.Spec PyProof.Rows L2 F2
theorem cons_of {m : EI} {r : AI} {ρ : En} {h h1 h2 : Hh} {x : A} {xs : List A} (e1 : m ρ h = some (x, h1)) (e2 : r ρ h1 = some (xs, h2)) : mCons m r ρ h = some (x :: xs, h2) := by
  unfold mCons
  rw [e1]
  dsimp only
  rw [e2]
theorem on_of {F : List A → Hh → Option (A × Hh)} {r : AI} {ρ : En} {h h1 : Hh} {xs : List A} (e : r ρ h = some (xs, h1)) : mOn F r ρ h = F xs h1 := by
  unfold mOn
  rw [e]
/-- how a def's body ends that makes nothing data -/
def finP (n : Nat) : Option Out → Option (A × Hh)
  | some (.nx _ h') => some (cut n (.d .non) h')
  | some (.rt a h') => some (cut n a h')
  | _ => none
theorem mkFn_eq {np ns : Nat} {m : SI} {as : List A} {h : Hh} (e : as.length = np) : mkFn np ns m as h = finP h.length (m (as.map some ++ List.replicate (ns - np) none) h) := by
  unfold mkFn
  rw [if_pos e]
  generalize m (as.map some ++ List.replicate (ns - np) none) h = o
  cases o with
  | none => rfl
  | some o => cases o <;> rfl
theorem cut_new {n l : Nat} {h : Hh} (e : n ≤ l) : cut n (.ref l) h = (.ref l, h) := by
  unfold cut
  have z : low n (.ref l) = false := by simp [low]; omega
  rw [z]
  rfl
theorem allD_map : ∀ xs : List D, allD (xs.map A.d) = some xs
  | [] => rfl
  | x :: xs => by
    show (allD (xs.map A.d)).map (x :: ·) = _
    rw [allD_map xs]; rfl
theorem mkL_data {xs : List D} {h : Hh} (hz : xs.length < 1000) : mkL false (xs.map A.d) h = some (.d (.lst xs), h) := by
  have lv := LIMv
  unfold mkL
  split
  · split
    · rename_i z; cases z
    · rw [allD_map]; rfl
  · rename_i z
    exact absurd (by rw [List.length_map]; omega) z
theorem mkL_cell {xs : List A} {h : Hh} (hz : xs.length < 1000) : mkL true xs h = some (.ref h.length, h ++ [.lst xs]) := by
  have lv := LIMv
  unfold mkL
  split
  · split
    · rfl
    · rename_i z; exact absurd rfl z
  · rename_i z
    exact absurd (by omega) z
theorem addL_data {xs ys : List D} {h : Hh} (hz : xs.length + ys.length < 1000) : fAdd false (.d (.lst xs)) (.d (.lst ys)) h = some (.d (.lst (xs ++ ys)), h) := by
  have lv := LIMv
  have e : fAdd false (.d (.lst xs)) (.d (.lst ys)) h = fLst false (.d (.lst xs)) (.d (.lst ys)) h := rfl
  rw [e]
  unfold fLst
  have e1 : itemsL (.d (.lst xs)) h = some (xs.map A.d) := rfl
  have e2 : itemsL (.d (.lst ys)) h = some (ys.map A.d) := rfl
  rw [e1, e2]
  dsimp only
  split
  · rw [← List.map_append]
    exact mkL_data (by rw [List.length_append]; exact hz)
  · rename_i z
    exact absurd (by rw [List.length_map, List.length_map]; omega) z
theorem cutA_le {α : Type} (xs : List α) (lo hi : Option Int) : (cutA xs lo hi).length ≤ xs.length := by
  unfold cutA
  rw [List.length_take, List.length_drop]
  omega
theorem srcQ_data {m : EI} {ρ : En} {h h1 : Hh} {xs : List D} (e : m ρ h = some (.d (.lst xs), h1)) : srcQ m ρ h = some (⟨listN (.d (.lst xs)), xs.length⟩, h1) := by
  unfold srcQ srcL
  rw [e]
  have e1 : itemsL (.d (.lst xs)) h1 = some (xs.map A.d) := rfl
  dsimp only
  rw [e1]
  dsimp only
  rw [List.length_map]
theorem nil_data (ρ : En) (h : Hh) : mOn (mkL false) mNil ρ h = some (.d (.lst []), h) := mkL_data (xs := []) (by simp)
end K52
set_option Elab.async false
set_option linter.all false
set_option maxRecDepth 100000
set_option maxHeartbeats 1000000
namespace K52
open PySem PySem.Spec PyProof.Rows L2 F2
def rngI (k : Nat) : List A := (List.range k).map fun i => .d (.int (0 + (i : Nat)))
theorem rng_items (k i : Nat) (h : Hh) : rngN 0 k i h = some (rngI k)[i]? := by
  unfold rngN rngI
  by_cases c : i < k
  · rw [if_pos c, List.getElem?_map, List.getElem?_range c]; rfl
  · rw [if_neg c, List.getElem?_eq_none (by simp; omega)]
theorem call_of {n : Nat} {F : FnI} {m : AI} {ρ : En} {h h1 : Hh} {xs : List A} (e : m ρ h = some (xs, h1)) (hl : xs.length = n) : mCall n F m ρ h = F xs h1 := by
  unfold mCall
  rw [on_of e]
  rw [if_pos hl]
theorem all_true : ∀ n : Nat, bls (List.replicate n (A.d (.bl true))) = some (List.replicate n true)
  | 0 => rfl
  | n + 1 => by
    rw [List.replicate_succ]
    show (bls (List.replicate n (A.d (.bl true)))).map (true :: ·) = _
    rw [all_true n]; rfl
end K52
set_option Elab.async false
set_option linter.all false
set_option maxRecDepth 100000
set_option maxHeartbeats 1000000
namespace K52
open PySem PySem.Spec PyProof.Rows L2 F2
/-! ### rows and their text -/
abbrev Row := Str × List Str
def rowD (r : Row) : D := .tup [.str r.1, .tup (r.2.map .str)]
def rowsD (rows : List Row) : D := .lst (rows.map rowD)
def rowText (r : Row) : Str := Txt.join " " (r.1 :: r.2)
def said (rows : List Row) : Str := Txt.join "; " (rows.map rowText)
structure Small (r : Row) : Prop where
  n : r.1.length ≤ 8
  l : r.2.length ≤ 2
  s : ∀ s ∈ r.2, s.length ≤ 8
theorem sum_le {xs : List Str} {b : Nat} (h : ∀ x ∈ xs, x.length ≤ b) : (xs.map (·.length)).sum ≤ xs.length * b := by
  induction xs with
  | nil => simp
  | cons x xs ih =>
    have h1 := h x List.mem_cons_self
    have h2 := ih fun y hy => h y (List.mem_cons_of_mem _ hy)
    simp only [List.map_cons, List.sum_cons, List.length_cons, Nat.add_mul, Nat.one_mul]
    omega
theorem join_len (y : Str) (parts : List Str) : (Txt.join y parts).length = (parts.map (·.length)).sum + (parts.length - 1) * y.length := size_glued y parts
theorem rowText_len {r : Row} (h : Small r) : (rowText r).length ≤ 26 := by
  unfold rowText
  rw [join_len]
  have h1 := sum_le (xs := r.2) h.s
  have h2 := h.n
  have h3 := h.l
  have e : (" " : Str).length = 1 := rfl
  simp only [List.map_cons, List.sum_cons, List.length_cons, e]
  omega
theorem txts_LA : ∀ xs : List Str, txts (LA xs) = some xs
  | [] => rfl
  | x :: xs => by
    show (txts (LA xs)).map (x :: ·) = _
    rw [txts_LA xs]; rfl
theorem join_data {a : Str} {xs : List Str} {h : Hh} (hz : (xs.map (·.length)).sum + xs.length * a.length ≤ 16777216) : fJoin (.d (.str a)) [.d (LS xs)] h = some (.d (.str (Txt.join a xs)), h) := by
  unfold fJoin
  have e : itemsL (.d (LS xs)) h = some (LA xs) := by
    show some ((xs.map D.str).map A.d) = _
    rw [List.map_map]; rfl
  dsimp only
  rw [e]
  dsimp only
  rw [txts_LA]
  dsimp only
  rw [if_pos hz]
def e_row : EI := (mMet "str" fJoin (mC (.str " ")) (mCons (mBin (fAdd false) (mOn (mkL false) (mCons (mVar 1) mNil)) (mOn (fList false) (mCons (mVar 2) mNil))) mNil))
theorem met_of {T : String} {F : A → List A → Hh → Option (A × Hh)} {o : EI} {r : AI} {ρ : En} {h h1 h2 : Hh} {x : A} {xs : List A} (e1 : o ρ h = some (x, h1)) (t : isT T x h1 = true) (e2 : r ρ h1 = some (xs, h2)) : mMet T F o r ρ h = F x xs h2 := by
  unfold mMet
  rw [e1]
  dsimp only
  rw [if_pos t, e2]
theorem row_ok {r : Row} (hr : Small r) (x0 : Option A) (H : Hh) : e_row [x0, some (.d (.str r.1)), some (.d (.tup (r.2.map .str)))] H = some (.d (.str (rowText r)), H) := by
  have e1 : mOn (mkL false) (mCons (mVar 1) mNil) [x0, some (.d (.str r.1)), some (.d (.tup (r.2.map .str)))] H = some (.d (.lst [.str r.1]), H) := mkL_data (xs := [.str r.1]) (by simp)
  have e2 : mOn (fList false) (mCons (mVar 2) mNil) [x0, some (.d (.str r.1)), some (.d (.tup (r.2.map .str)))] H = some (.d (.lst (r.2.map .str)), H) := mkL_data (xs := r.2.map .str) (by rw [List.length_map]; have := hr.l; omega)
  have e3 : mBin (fAdd false) (mOn (mkL false) (mCons (mVar 1) mNil)) (mOn (fList false) (mCons (mVar 2) mNil)) [x0, some (.d (.str r.1)), some (.d (.tup (r.2.map .str)))] H = some (.d (LS (r.1 :: r.2)), H) := by
    rw [bin_of e1 e2, addL_data (by rw [List.length_map]; have := hr.l; simp; omega)]
    rfl
  have e4 := cons_of e3 (show mNil [x0, some (.d (.str r.1)), some (.d (.tup (r.2.map .str)))] H = some ([], H) from rfl)
  refine (met_of (T := "str") (F := fJoin) (show mC (.str " ") [x0, some (.d (.str r.1)), some (.d (.tup (r.2.map .str)))] H = some (.d (.str " "), H) from rfl) rfl e4).trans (join_data ?_)
  have h1 := sum_le (xs := r.2) hr.s
  have h2 := hr.n
  have h3 := hr.l
  have e : (" " : Str).length = 1 := rfl
  simp only [List.map_cons, List.sum_cons, List.length_cons, e]
  omega
def g_row : GI := (gT 2 (gsCons (gN 1) (gsCons (gN 2) gsNil)))
theorem said_eq {rows : List Row} (hs : ∀ r ∈ rows, Small r) (hz : rows.length < 100) (H : Hh) : fn_law_text [.d (rowsD rows)] H = some (.d (.str (said rows)), H) := by
  have src := srcQ_data (m := mVar 0) (ρ := [some (.d (rowsD rows)), none, none]) (h := H) (h1 := H) (xs := rows.map rowD) rfl
  obtain ⟨acc, H', ⟨ea, eh⟩, e2⟩ := lc_items (items := (rows.map rowD).map A.d) (g := g_row) (t := mYes) (m := e_row) (vs := [1, 2]) (I := fun i acc h => acc = LA ((rows.take i).map rowText) ∧ h = H) (fun i h => items_map _ h i) (by simp) src
    (fun i acc h hi ⟨ea, eh⟩ => by
      subst eh
      have hi' : i < rows.length := by simpa using hi
      have gi : ((rows.map rowD).map A.d)[i] = .d (rowD rows[i]) := by simp
      have hm : rows[i] ∈ rows := List.getElem_mem hi'
      refine ⟨[some (.d (rowsD rows)), some (.d (.str rows[i].1)), some (.d (.tup (rows[i].2.map .str)))], h, true, h, ?_, rfl, (fun z => by cases z), fun _ => ⟨_, h, row_ok (hs _ hm) _ h, ⟨?_, rfl⟩, ?_⟩⟩
      · rw [gi]; rfl
      · rw [ea, LA_snoc, List.take_succ, List.getElem?_eq_getElem hi', List.map_append]; rfl
      · rw [ea, LA_len, List.length_map, List.length_take]; omega) ⟨rfl, rfl⟩
  subst eh
  have ln : ((rows.map rowD).map A.d).length = rows.length := by simp
  rw [ln, List.take_length] at ea
  have l1 : mLc false (srcQ (mVar 0)) g_row mYes e_row [1, 2] [some (.d (rowsD rows)), none, none] H' = some (.d (LS (rows.map rowText)), H') := by
    rw [e2 false, ea]
    have z := mkL_data (xs := (rows.map rowText).map D.str) (h := H') (by rw [List.length_map, List.length_map]; omega)
    rw [List.map_map] at z
    exact z
  have b : m_law_text [some (.d (rowsD rows)), none, none] H' = some (.rt (.d (.str (said rows))) H') := by
    have d1 : m_law_text = mRet (mMet "str" fJoin (mC (.str "; ")) (mCons (mLc false (srcQ (mVar 0)) g_row mYes e_row [1, 2]) mNil)) := rfl
    have e4 := cons_of l1 (show mNil [some (.d (rowsD rows)), none, none] H' = some ([], H') from rfl)
    have e5 := (met_of (T := "str") (F := fJoin) (show mC (.str "; ") [some (.d (rowsD rows)), none, none] H' = some (.d (.str "; "), H') from rfl) rfl e4).trans (join_data (by
      have h1 := sum_le (xs := rows.map rowText) (b := 26) (fun x hx => by
        obtain ⟨r, hr, rfl⟩ := List.mem_map.mp hx
        exact rowText_len (hs r hr))
      have e : ("; " : Str).length = 2 := rfl
      rw [List.length_map] at h1 ⊢
      rw [e]
      omega))
    rw [d1]
    unfold mRet
    rw [e5]
    rfl
  have z : fn_law_text [.d (rowsD rows)] H' = finP H'.length (m_law_text [some (.d (rowsD rows)), none, none] H') := mkFn_eq rfl
  rw [z, b]
  show some (cut H'.length _ H') = _
  rw [cut_same rfl]
/-! ### the text read back -/
theorem split_said {rows : List Row} (hne : rows ≠ []) (hp : ∀ r ∈ rows, 59 ∉ TL.tl (rowText r)) : Txt.split (said rows) "; " = rows.map rowText :=
  TL.split_join (y := "; ") (s := 59) (S := [32]) rfl (by decide +kernel) (by simpa using hne) fun p h => by
    obtain ⟨r, hr, rfl⟩ := List.mem_map.mp h
    exact hp r hr
theorem split_row {r : Row} (h1 : 32 ∉ TL.tl r.1) (h2 : ∀ s ∈ r.2, 32 ∉ TL.tl s) : Txt.split (rowText r) " " = r.1 :: r.2 :=
  TL.split_join (y := " ") (s := 32) (S := []) rfl (by decide +kernel) (by simp) fun p h => by
    rcases List.mem_cons.mp h with rfl | h
    · exact h1
    · exact h2 p h
end K52
set_option Elab.async false
set_option linter.all false
set_option maxRecDepth 100000
set_option maxHeartbeats 1000000
namespace K52
open PySem PySem.Spec PyProof.Rows L2 F2
def isName (x : Str) : Bool := decide (x.length ≤ 8) && (Txt.isascii x && (Txt.isalpha x && Txt.islower x))
theorem is_name_eq {x : Str} (hz : x.length ≤ 1000) (H : Hh) : fn_is_name [.d (.str x)] H = some (.d (.bl (isName x)), H) := by
  have lz : x.length ≤ LIM := by have := LIMv; omega
  have z : fn_is_name [.d (.str x)] H = finP H.length (m_is_name [some (.d (.str x))] H) := mkFn_eq rfl
  rw [z]
  by_cases h : x.length ≤ 8
  · have h2 : ¬ (8 : Int) < (x.length : Int) := by omega
    have l : orC fLen fLenD [.d (.str x)] H = some (.d (.int x.length), H) := by
      simp only [orC, fLen, itemsL, if_pos lz]
    cases e1 : Txt.isascii x <;> cases e2 : Txt.isalpha x <;> cases e3 : Txt.islower x <;>
      simp [m_is_name, mSeq, mIfS, mOrT, mNotT, mTru, mIsi, mVar, tyName, kitB, truthA, mBl, mBin, mOn, mCons, mNil, l, fGt, int2, mC, h2, mRet, mSkip, mAnd, mMet, isT, fStr0, e1, e2, e3, finP, cut_same, isName, h]
  · have h2 : (8 : Int) < (x.length : Int) := by omega
    have l : orC fLen fLenD [.d (.str x)] H = some (.d (.int x.length), H) := by
      simp only [orC, fLen, itemsL, if_pos lz]
    simp [m_is_name, mSeq, mIfS, mOrT, mNotT, mTru, mIsi, mVar, tyName, kitB, truthA, mBl, mBin, mOn, mCons, mNil, l, fGt, int2, mC, h2, mRet, finP, cut_same, isName, h]
/-! ### tables -/
/-- the table of what stands at each name -/
def tabL (ks : List (Str × A)) : List (Key × A) := ks.map fun p => (.inr p.1, p.2)
theorem tab_some {ks : List (Str × A)} {x : Str} : (lookG (tabL ks) (.inr x : Key)).isSome = decide (x ∈ ks.map (·.1)) := by
  induction ks with
  | nil => rfl
  | cons k ks ih =>
    have e : tabL (k :: ks) = (.inr k.1, k.2) :: tabL ks := rfl
    rw [e]
    unfold lookG at ih ⊢
    rw [List.find?_cons]
    by_cases h : k.1 = x
    · have h1 : decide ((Sum.inr k.1 : Key) = Sum.inr x) = true := by simp [h]
      simp only [h1]
      simp [h]
    · have h1 : decide ((Sum.inr k.1 : Key) = Sum.inr x) = false := by simp [h]
      simp only [h1, ih]
      have h2 : ¬ x = k.1 := fun z => h z.symm
      simp [h2]
theorem in_tab {neg : Bool} {x : Str} {y : A} {ks : List (Str × A)} {H : Hh} (ht : F2.tabOf y H = some (.k (tabL ks))) : fIn neg (.d (.str x)) y H = some (.d (.bl (neg ^^ decide (x ∈ ks.map (·.1)))), H) := by
  unfold fIn orF fInK
  rw [ht]
  have e : dget (.k (tabL ks)) (.d (.str x)) = some (lookG (tabL ks) (.inr x)) := rfl
  dsimp only
  rw [e]
  simp only [Option.map_some]
  rw [tab_some]
theorem is_new_eq {x : Str} (hz : x.length ≤ 1000) {y : A} {ks : List (Str × A)} {H : Hh} (ht : F2.tabOf y H = some (.k (tabL ks))) : fn_is_new_name [.d (.str x), y] H = some (.d (.bl (isName x && !decide (x ∈ ks.map (·.1)))), H) := by
  have z : fn_is_new_name [.d (.str x), y] H = finP H.length (m_is_new_name [some (.d (.str x)), some y] H) := mkFn_eq rfl
  rw [z]
  have e1 : mCall 1 fn_is_name (mCons (mVar 0) mNil) [some (.d (.str x)), some y] H = some (.d (.bl (isName x)), H) := (call_of (n := 1) (F := fn_is_name) (show mCons (mVar 0) mNil [some (.d (.str x)), some y] H = some ([.d (.str x)], H) from rfl) rfl).trans (is_name_eq hz H)
  have e2 : mBin (fIn true) (mVar 0) (mVar 1) [some (.d (.str x)), some y] H = some (.d (.bl (true ^^ decide (x ∈ ks.map (·.1)))), H) := (bin_of (show mVar 0 [some (.d (.str x)), some y] H = some (.d (.str x), H) from rfl) (show mVar 1 [some (.d (.str x)), some y] H = some (y, H) from rfl)).trans (in_tab ht)
  have d1 : m_is_new_name = mRet (mAnd (mCall 1 fn_is_name (mCons (mVar 0) mNil)) (mBin (fIn true) (mVar 0) (mVar 1))) := rfl
  rw [d1]
  unfold mRet mAnd
  rw [e1]
  cases hn : isName x with
  | false => simp [truthA, finP, cut_same]
  | true => simp [truthA, e2, finP, cut_same]
end K52
set_option Elab.async false
set_option linter.all false
set_option maxRecDepth 100000
set_option maxHeartbeats 1000000
namespace K52
open PySem PySem.Spec PyProof.Rows L2 F2
theorem is_one_eq {x : Str} {y : A} {ks : List (Str × A)} {H : Hh} (ht : F2.tabOf y H = some (.k (tabL ks))) : fn_is_one_of [.d (.str x), y] H = some (.d (.bl (decide (x ∈ ks.map (·.1)))), H) := by
  have z : fn_is_one_of [.d (.str x), y] H = finP H.length (m_is_one_of [some (.d (.str x)), some y] H) := mkFn_eq rfl
  rw [z]
  have e1 : mIsi "str" (mVar 0) [some (.d (.str x)), some y] H = some (.d (.bl true), H) := rfl
  have e2 : mBin (fIn false) (mVar 0) (mVar 1) [some (.d (.str x)), some y] H = some (.d (.bl (false ^^ decide (x ∈ ks.map (·.1)))), H) := (bin_of (show mVar 0 [some (.d (.str x)), some y] H = some (.d (.str x), H) from rfl) (show mVar 1 [some (.d (.str x)), some y] H = some (y, H) from rfl)).trans (in_tab ht)
  have d1 : m_is_one_of = mRet (mAnd (mIsi "str" (mVar 0)) (mBin (fIn false) (mVar 0) (mVar 1))) := rfl
  rw [d1]
  unfold mRet mAnd
  rw [e1]
  simp [truthA, e2, finP, cut_same]
/-- texts in a list, in a tuple -/
def SQ : Bool → List Str → D
  | true, xs => .tup (xs.map .str)
  | false, xs => LS xs
theorem sq_len {b : Bool} {xs : List Str} {H : Hh} : orC fLen fLenD [.d (SQ b xs)] H = some (.d (.int xs.length), H) := by
  cases b <;> simp [SQ, LS, orC, fLen, itemsL]
theorem sq_at {b : Bool} {xs : List Str} {i : Nat} (hi : i < xs.length) {H : Hh} : fIx (.d (SQ b xs)) (.d (.int i)) H = some (.d (.str xs[i]), H) := by
  cases b <;> simp [SQ, LS, fIx, orF, fIxS, itemsL, L2.atI, ixN, hi]
theorem sq_src {b : Bool} {xs : List Str} {m : EI} {ρ : En} {h h1 : Hh} (e : m ρ h = some (.d (SQ b xs), h1)) : ∃ s, srcQ m ρ h = some (s, h1) ∧ s.fuel = (LA xs).length ∧ ∀ i h, s.nxt i h = some (LA xs)[i]? := by
  cases b with
  | false => exact ⟨_, srcQ_data e, by simp [LA], fun i h => by simp [listN, itemsL, LA, List.map_map]; rfl⟩
  | true =>
    refine ⟨⟨tupN ((xs.map D.str).map A.d), ((xs.map D.str).map A.d).length⟩, ?_, by simp [LA], fun i h => by simp [tupN, LA, List.map_map]; rfl⟩
    unfold srcQ srcL srcT
    rw [e]
    rfl
def okSrc (xs : List Str) (names : List Str) : Bool := match xs with
  | [a] => decide (a ∈ names)
  | [a, b] => decide (a ∈ names) && (decide (b ∈ names) && !decide (a = b))
  | _ => false
theorem int_eq (i j : Int) (H : Hh) : fEqD false (.d (.int i)) (.d (.int j)) H = some (.d (.bl (decide (i = j))), H) := by
  by_cases h : i = j <;> simp [fEqD, pyOf, toPy, SeqAt.shaped, PyData.eqv, h, PyData.canLay0, PyData.depth]
theorem str_ne {i j : Str} (hi : PyData.strOk i = true) (hj : PyData.strOk j = true) (H : Hh) : fEqD true (.d (.str i)) (.d (.str j)) H = some (.d (.bl (!decide (i = j))), H) := by
  by_cases h : i = j
  · subst h
    simp [fEqD, pyOf, toPy, SeqAt.shaped, PyData.eqv, PyData.canLay0, PyData.depth, hi]
  · simp [fEqD, pyOf, toPy, SeqAt.shaped, PyData.eqv, h, PyData.canLay0, PyData.depth, hi, hj]
def e_at (i : Int) : EI := mBin fIx (mVar 0) (mC (.int i))
def e_on (i : Int) : EI := mCall 2 fn_is_one_of (mCons (mBin fIx (mVar 0) (mC (.int i))) (mCons (mVar 1) mNil))
def e_ne : EI := mBin (fEqD true) (mBin fIx (mVar 0) (mC (.int 0))) (mBin fIx (mVar 0) (mC (.int 1)))
theorem are_eq {b : Bool} {xs : List Str} {y : A} {ks : List (Str × A)} {H : Hh} (ht : F2.tabOf y H = some (.k (tabL ks))) (ho : ∀ x ∈ xs, PyData.strOk x = true) : fn_are_sources [.d (SQ b xs), y] H = some (.d (.bl (okSrc xs (ks.map (·.1)))), H) := by
  have z : fn_are_sources [.d (SQ b xs), y] H = finP H.length (m_are_sources [some (.d (SQ b xs)), some y] H) := mkFn_eq rfl
  rw [z]
  have ln : mOn (orC fLen fLenD) (mCons (mVar 0) mNil) [some (.d (SQ b xs)), some y] H = some (.d (.int xs.length), H) := (on_of (show mCons (mVar 0) mNil [some (.d (SQ b xs)), some y] H = some ([.d (SQ b xs)], H) from rfl)).trans sq_len
  have at_ : ∀ (i : Nat) (hi : i < xs.length), mBin fIx (mVar 0) (mC (.int i)) [some (.d (SQ b xs)), some y] H = some (.d (.str xs[i]), H) := fun i hi => (bin_of (show mVar 0 [some (.d (SQ b xs)), some y] H = some (.d (SQ b xs), H) from rfl) (show mC (.int i) [some (.d (SQ b xs)), some y] H = some (.d (.int i), H) from rfl)).trans (sq_at hi)
  have on_ : ∀ (i : Nat) (hi : i < xs.length), mCall 2 fn_is_one_of (mCons (mBin fIx (mVar 0) (mC (.int i))) (mCons (mVar 1) mNil)) [some (.d (SQ b xs)), some y] H = some (.d (.bl (decide (xs[i] ∈ ks.map (·.1)))), H) := fun i hi => (call_of (n := 2) (F := fn_is_one_of) (cons_of (at_ i hi) (show mCons (mVar 1) mNil [some (.d (SQ b xs)), some y] H = some ([y], H) from rfl)) rfl).trans (is_one_eq ht)
  have t1 : ∀ k : Int, mBl (mBin (fEqD false) (mOn (orC fLen fLenD) (mCons (mVar 0) mNil)) (mC (.int k))) [some (.d (SQ b xs)), some y] H = some (decide ((xs.length : Int) = k), H) := fun k => by
    unfold mBl
    rw [bin_of ln (show mC (.int k) [some (.d (SQ b xs)), some y] H = some (.d (.int k), H) from rfl), int_eq]
  have d1 : m_are_sources = mSeq (mIfS (mBl (mBin (fEqD false) (mOn (orC fLen fLenD) (mCons (mVar 0) mNil)) (mC (.int 1)))) (mRet (e_on 0)) mSkip) (mSeq (mIfS (mBl (mBin (fEqD false) (mOn (orC fLen fLenD) (mCons (mVar 0) mNil)) (mC (.int 2)))) (mRet (mAnd (e_on 0) (mAnd (e_on 1) e_ne))) mSkip) (mRet (mC (.bl false)))) := rfl
  rw [d1]
  match xs, ho, ln, at_, on_, t1 with
  | [], _, _, _, _, t1 => simp [mSeq, mIfS, t1, mSkip, mRet, mC, finP, cut_same, okSrc]
  | [a], _, _, _, on_, t1 =>
    have o0 : e_on 0 [some (.d (SQ b [a])), some y] H = some (.d (.bl (decide (a ∈ ks.map (·.1)))), H) := on_ 0 (by simp)
    have q1 : (decide ((([a] : List Str).length : Int) = 1)) = true := rfl
    simp only [mSeq, mIfS, t1, q1, mRet, o0]
    simp [finP, cut_same, okSrc]
  | [a, c], ho, _, at_, on_, t1 =>
    have o0 : e_on 0 [some (.d (SQ b [a, c])), some y] H = some (.d (.bl (decide (a ∈ ks.map (·.1)))), H) := on_ 0 (by simp)
    have o1 : e_on 1 [some (.d (SQ b [a, c])), some y] H = some (.d (.bl (decide (c ∈ ks.map (·.1)))), H) := on_ 1 (by simp)
    have ne : e_ne [some (.d (SQ b [a, c])), some y] H = some (.d (.bl (!decide (a = c))), H) := (bin_of (at_ 0 (by simp)) (at_ 1 (by simp))).trans (str_ne (ho a (by simp)) (ho c (by simp)) H)
    have q1 : (decide ((([a, c] : List Str).length : Int) = 1)) = false := rfl
    have q2 : (decide ((([a, c] : List Str).length : Int) = 2)) = true := rfl
    simp only [mSeq, mIfS, t1, q1, q2, mRet, mAnd, o0, o1, ne, mSkip]
    cases h1 : decide (a ∈ ks.map (·.1)) <;> cases h2 : decide (c ∈ ks.map (·.1)) <;> simp_all [finP, cut_same, okSrc, truthA]
  | a :: c :: e :: r, _, _, _, _, t1 =>
    have n1 : ¬ ((a :: c :: e :: r).length : Int) = 1 := by simp only [List.length_cons]; omega
    have n2 : ¬ ((a :: c :: e :: r).length : Int) = 2 := by simp only [List.length_cons]; omega
    simp only [mSeq, mIfS, t1, mRet, mSkip, mC, decide_eq_false n1, decide_eq_false n2]
    simp [finP, cut_same, okSrc]
end K52
set_option Elab.async false
set_option linter.all false
set_option maxRecDepth 100000
set_option maxHeartbeats 1000000
namespace K52
open PySem PySem.Spec PyProof.Rows L2 F2
theorem at_tab {x : Str} {y a : A} {ks : List (Str × A)} {H : Hh} (ht : F2.tabOf y H = some (.k (tabL ks))) (e : lookG (tabL ks) (.inr x : Key) = some a) : fIx y (.d (.str x)) H = some (a, H) := by
  have e1 : fIx y (.d (.str x)) H = fIxK y (.d (.str x)) H := rfl
  rw [e1]
  unfold fIxK
  rw [ht]
  have e2 : dget (.k (tabL ks)) (.d (.str x)) = some (lookG (tabL ks) (.inr x)) := rfl
  dsimp only
  rw [e2, e]
/-- how many stand at a name -/
def Cnt (H : Hh) (ks : List (Str × A)) (s : Str) (c : Int) : Prop := ∃ a, lookG (tabL ks) (.inr s : Key) = some a ∧ orC fLen fLenD [a] H = some (.d (.int c), H)
def b_full : SI := (mIfS (mBl (mBin (fEqD false) (mOn (orC fLen fLenD) (mCons (mBin fIx (mVar 1) (mVar 2)) mNil)) (mC (.int 2)))) (mRet (mVar 2)) mSkip)
theorem full_none {b : Bool} {xs : List Str} {y : A} {ks : List (Str × A)} {H : Hh} (ht : F2.tabOf y H = some (.k (tabL ks))) (hc : ∀ s ∈ xs, ∃ c, Cnt H ks s c ∧ c ≠ 2) : fn_first_full [.d (SQ b xs), y] H = some (.d .non, H) := by
  have z : fn_first_full [.d (SQ b xs), y] H = finP H.length (m_first_full [some (.d (SQ b xs)), some y, none] H) := mkFn_eq rfl
  obtain ⟨s, e1, e2, e3⟩ := sq_src (b := b) (xs := xs) (m := mVar 0) (ρ := [some (.d (SQ b xs)), some y, none]) (h := H) (h1 := H) rfl
  obtain ⟨ρ', H', e4, x2, e5, e6⟩ := for_items (items := LA xs) (g := gN 2) (b := b_full) (I := fun _ ρ h => ∃ x2 : Option A, ρ = [some (.d (SQ b xs)), some y, x2] ∧ h = H) e3 e2 e1
    (fun i ρ h hi ⟨x2, e5, e6⟩ => by
      subst e5 e6
      have hi' : i < xs.length := by rw [LA_len] at hi; exact hi
      have gi : (LA xs)[i] = .d (.str xs[i]) := by simp [LA]
      obtain ⟨c, ⟨a, h1, h2⟩, hne⟩ := hc xs[i] (List.getElem_mem hi')
      have q1 : mOn (orC fLen fLenD) (mCons (mBin fIx (mVar 1) (mVar 2)) mNil) [some (.d (SQ b xs)), some y, some (.d (.str xs[i]))] h = some (.d (.int c), h) :=
        (on_of (cons_of ((bin_of (show mVar 1 [some (.d (SQ b xs)), some y, some (.d (.str xs[i]))] h = some (y, h) from rfl) (show mVar 2 [some (.d (SQ b xs)), some y, some (.d (.str xs[i]))] h = some (.d (.str xs[i]), h) from rfl)).trans (at_tab ht h1)) (show mNil [some (.d (SQ b xs)), some y, some (.d (.str xs[i]))] h = some ([], h) from rfl))).trans h2
      refine ⟨[some (.d (SQ b xs)), some y, some (.d (.str xs[i]))], h, ?_, _, rfl, rfl⟩
      rw [gi]
      show b_full [some (.d (SQ b xs)), some y, some (.d (.str xs[i]))] h = _
      unfold b_full mIfS mBl
      rw [bin_of q1 (show mC (.int 2) [some (.d (SQ b xs)), some y, some (.d (.str xs[i]))] h = some (.d (.int 2), h) from rfl), int_eq, decide_eq_false hne]
      rfl) ⟨none, rfl, rfl⟩
  subst e5 e6
  have d1 : m_first_full = mSeq (mFor (srcQ (mVar 0)) (gN 2) b_full) (mRet (mC .non)) := rfl
  rw [z, d1, seq_nx e4]
  show some (cut H'.length _ H') = _
  rw [cut_same rfl]
/-- sources that may be chosen -/
theorem may_eq {xs : List Str} {l : Nat} {ks : List (Str × A)} {H : Hh} (hl : H[l]? = some (.dK (tabL ks))) (ho : ∀ x ∈ xs, PyData.strOk x = true) (hok : if ks = [] then xs = [] else okSrc xs (ks.map (·.1)) = true) (hc : ∀ s ∈ xs, ∃ c, Cnt H ks s c ∧ c ≠ 2) :
    fn_may_be_chosen [.d (LS xs), .ref l] H = some (.d (.bl true), H) := by
  have ht : F2.tabOf (.ref l) H = some (.k (tabL ks)) := by simp [F2.tabOf, hl]
  have z : fn_may_be_chosen [.d (LS xs), .ref l] H = finP H.length (m_may_be_chosen [some (.d (LS xs)), some (.ref l)] H) := mkFn_eq rfl
  have t1 : mNotT (mTru (mVar 1)) [some (.d (LS xs)), some (.ref l)] H = some (decide (ks = []), H) := by
    cases ks with
    | nil => simp [mNotT, mTru, mVar, truthA, hl, tabL]
    | cons k ks => simp [mNotT, mTru, mVar, truthA, hl, tabL]
  have d1 : m_may_be_chosen = mSeq (mIfS (mNotT (mTru (mVar 1))) (mRet (mNot (mVar 0))) mSkip) (mRet (mAnd (mCall 2 fn_are_sources (mCons (mVar 0) (mCons (mVar 1) mNil))) (mBin (fIs false) (mCall 2 fn_first_full (mCons (mVar 0) (mCons (mVar 1) mNil))) (mC .non)))) := rfl
  have aa : mCons (mVar 0) (mCons (mVar 1) mNil) [some (.d (LS xs)), some (.ref l)] H = some ([.d (LS xs), .ref l], H) := rfl
  rw [z, d1]
  by_cases hk : ks = []
  · rw [if_pos hk] at hok
    subst hok
    unfold mSeq mIfS
    rw [t1, decide_eq_true hk]
    simp [mRet, mNot, mVar, truthA, LS, finP, cut_same]
  · rw [if_neg hk] at hok
    have a1 := (call_of (n := 2) (F := fn_are_sources) aa rfl).trans (are_eq (b := false) ht ho)
    have f1 := (call_of (n := 2) (F := fn_first_full) aa rfl).trans (full_none (b := false) ht hc)
    have i1 : mBin (fIs false) (mCall 2 fn_first_full (mCons (mVar 0) (mCons (mVar 1) mNil))) (mC .non) [some (.d (LS xs)), some (.ref l)] H = some (.d (.bl true), H) := (bin_of f1 (show mC .non [some (.d (LS xs)), some (.ref l)] H = some (.d .non, H) from rfl)).trans rfl
    rw [hok] at a1
    unfold mSeq mIfS
    rw [t1, decide_eq_false hk]
    unfold mSkip mRet mAnd
    dsimp only
    rw [a1]
    simp [truthA, i1, finP, cut_same]
end K52
set_option Elab.async false
set_option linter.all false
set_option maxRecDepth 100000
set_option maxHeartbeats 1000000
namespace K52
open PySem PySem.Spec PyProof.Rows L2 F2
theorem look_at : ∀ {ks : List (Str × A)}, (ks.map (·.1)).Nodup → ∀ {j : Nat} {k : Str × A}, ks[j]? = some k → lookG (tabL ks) (.inr k.1 : Key) = some k.2
  | [], _, j, k, e => by simp at e
  | q :: ks, hn, 0, k, e => by
    simp at e
    subst e
    simp [lookG, tabL]
  | q :: ks, hn, j + 1, k, e => by
    have e' : ks[j]? = some k := by simpa using e
    rw [List.map_cons, List.nodup_cons] at hn
    have hm : k.1 ∈ ks.map (·.1) := List.mem_map.mpr ⟨k, List.mem_of_getElem? e', rfl⟩
    have ne : q.1 ≠ k.1 := fun z => hn.1 (z ▸ hm)
    have h1 : decide ((Sum.inr q.1 : Key) = Sum.inr k.1) = false := by simp [ne]
    have ih := look_at hn.2 e'
    unfold lookG at ih ⊢
    show ((((.inr q.1, q.2) :: tabL ks).find? fun kv => decide (kv.1 = (Sum.inr k.1 : Key))).map (·.2)) = _
    rw [List.find?_cons]
    simp only [h1]
    exact ih
theorem put_new {ks : List (Str × A)} {x : Str} {v : A} (h : x ∉ ks.map (·.1)) : putG (tabL ks) (.inr x : Key) v = tabL (ks ++ [(x, v)]) := by
  unfold putG
  have e : ((tabL ks).any fun kv => decide (kv.1 = (Sum.inr x : Key))) = false := by
    rw [List.any_eq_false]
    intro kv hkv
    obtain ⟨k, hk, rfl⟩ := List.mem_map.mp hkv
    simp
    intro z
    exact h (List.mem_map.mpr ⟨k, hk, z⟩)
  rw [if_neg (by rw [e]; exact Bool.false_ne_true)]
  simp [tabL]
/-! ### webs by their rows -/
/-- the copies of x, in order -/
def copiesOf (rows : List Row) (x : Str) : List Str := (rows.filter fun r => decide (x ∈ r.2)).map (·.1)
theorem copies_snoc (rows : List Row) (r : Row) (x : Str) : copiesOf (rows ++ [r]) x = copiesOf rows x ++ (if x ∈ r.2 then [r.1] else []) := by
  unfold copiesOf
  rw [List.filter_append, List.map_append]
  congr 1
  by_cases h : x ∈ r.2 <;> simp [h]
/-- a row that may follow these -/
structure Fit (pre : List Row) (r : Row) : Prop where
  small : Small r
  name : isName r.1 = true
  new : r.1 ∉ pre.map (·.1)
  src : if pre = [] then r.2 = [] else okSrc r.2 (pre.map (·.1)) = true
  room : ∀ s ∈ r.2, (copiesOf pre s).length < 2
  ok : ∀ s ∈ r.2, PyData.strOk s = true
  semi : 59 ∉ TL.tl (rowText r)
  gapN : 32 ∉ TL.tl r.1
  gapS : ∀ s ∈ r.2, 32 ∉ TL.tl s
inductive Fits : List Row → List Row → Prop
  | nil {pre : List Row} : Fits pre []
  | cons {pre : List Row} {r : Row} {rest : List Row} (h : Fit pre r) (t : Fits (pre ++ [r]) rest) : Fits pre (r :: rest)
theorem ok_mem {xs names : List Str} (h : okSrc xs names = true) : (∀ s ∈ xs, s ∈ names) ∧ xs.Nodup := by
  unfold okSrc at h
  split at h
  · rename_i a
    exact ⟨fun s hs => by simp at hs; subst hs; exact of_decide_eq_true h, by simp⟩
  · rename_i a b
    rw [Bool.and_eq_true, Bool.and_eq_true] at h
    obtain ⟨h1, h2, h3⟩ := h
    refine ⟨fun s hs => ?_, ?_⟩
    · simp at hs
      rcases hs with rfl | rfl
      · exact of_decide_eq_true h1
      · exact of_decide_eq_true h2
    · simp at h3 ⊢
      exact h3
  · cases h
end K52
set_option Elab.async false
set_option linter.all false
set_option maxRecDepth 100000
set_option maxHeartbeats 1000000
namespace K52
open PySem PySem.Spec PyProof.Rows L2 F2
def srcKs (pre : List Row) : List (Str × A) := pre.map fun r => (r.1, .d (LS r.2))
def cpyK (n : Nat) (pre : List Row) : List (Str × A) := pre.mapIdx fun j r => (r.1, .ref (n + 2 + j))
theorem cpy_names (n : Nat) (pre : List Row) : (cpyK n pre).map (·.1) = pre.map (·.1) := by
  unfold cpyK
  apply List.ext_getElem?
  intro i
  simp
  cases pre[i]? <;> rfl
theorem cpy_at {n : Nat} {pre : List Row} {j : Nat} {r : Row} (e : pre[j]? = some r) : (cpyK n pre)[j]? = some (r.1, .ref (n + 2 + j)) := by
  unfold cpyK
  rw [List.getElem?_mapIdx, e]
  rfl
/-- read_web's cells behind so many rows; so many sources of the row r told -/
structure RW (n : Nat) (H : Hh) (pre : List Row) (r : Row) (k : Nat) (h : Hh) : Prop where
  old : ∀ j, j < n → h[j]? = H[j]?
  s : h[n]? = some (.dK (tabL (srcKs pre)))
  c : h[n + 1]? = some (.dK (tabL (cpyK n pre)))
  len : h.length = n + 2 + pre.length
  cell : ∀ (j : Nat) (q : Row), pre[j]? = some q → h[n + 2 + j]? = some (.lst (LA (copiesOf pre q.1 ++ (if q.1 ∈ r.2.take k then [r.1] else []))))
def b_in : SI := (mDrop (mMet "list" fAppend (mBin fIx (mVar 2) (mVar 6)) (mCons (mVar 4) mNil)))
theorem copies_le {pre : List Row} {x : Str} : (copiesOf pre x).length ≤ pre.length := by
  unfold copiesOf
  rw [List.length_map]
  exact List.length_filter_le _ _
theorem in_turn {n : Nat} {H h : Hh} {pre : List Row} {r : Row} {k : Nat} (w : RW n H pre r k h) (hn : (pre.map (·.1)).Nodup) (hz : pre.length < 500) (hd : r.2.Nodup) {s : Str} (hk : r.2[k]? = some s) (hm : s ∈ pre.map (·.1)) (x0 x1 x3 x5 : Option A) :
    ∃ h', b_in [x0, x1, some (.ref (n + 1)), x3, some (.d (.str r.1)), x5, some (.d (.str s))] h = some (.nx [x0, x1, some (.ref (n + 1)), x3, some (.d (.str r.1)), x5, some (.d (.str s))] h') ∧ RW n H pre r (k + 1) h' := by
  obtain ⟨q, hq, hqs⟩ := List.mem_map.mp hm
  obtain ⟨j, hj⟩ := List.mem_iff_getElem?.mp hq
  have hjl : j < pre.length := (List.getElem?_eq_some_iff.mp hj).1
  have ht : F2.tabOf (.ref (n + 1)) h = some (.k (tabL (cpyK n pre))) := by simp [F2.tabOf, w.c]
  have e1 := look_at (ks := cpyK n pre) (by rw [cpy_names]; exact hn) (cpy_at hj)
  have snot : s ∉ r.2.take k := fun z => by
    obtain ⟨i, hi⟩ := List.mem_iff_getElem?.mp z
    have hik : i < k := by
      have := (List.getElem?_eq_some_iff.mp hi).1
      rw [List.length_take] at this
      omega
    rw [List.getElem?_take_of_lt hik] at hi
    have e := ((List.getElem?_inj (List.getElem?_eq_some_iff.mp hi).1 hd).mp (hi.trans hk.symm))
    omega
  have c0 := w.cell j q hj
  rw [hqs, if_neg snot, List.append_nil] at c0
  have e2 : fIx (.ref (n + 1)) (.d (.str s)) h = some (.ref (n + 2 + j), h) := at_tab ht (by rw [← hqs]; exact e1)
  have e3 := append_eq (y := .d (.str r.1)) c0 (by rw [LA_len]; have := copies_le (pre := pre) (x := s); omega)
  rw [LA_snoc] at e3
  refine ⟨h.set (n + 2 + j) (.lst (LA (copiesOf pre s ++ [r.1]))), ?_, ?_⟩
  · have a1 : mBin fIx (mVar 2) (mVar 6) [x0, x1, some (.ref (n + 1)), x3, some (.d (.str r.1)), x5, some (.d (.str s))] h = some (.ref (n + 2 + j), h) := (bin_of (show mVar 2 [x0, x1, some (.ref (n + 1)), x3, some (.d (.str r.1)), x5, some (.d (.str s))] h = some (.ref (n + 1), h) from rfl) (show mVar 6 [x0, x1, some (.ref (n + 1)), x3, some (.d (.str r.1)), x5, some (.d (.str s))] h = some (.d (.str s), h) from rfl)).trans e2
    have a2 := (met_of (T := "list") (F := fAppend) a1 (isT_list c0) (show mCons (mVar 4) mNil [x0, x1, some (.ref (n + 1)), x3, some (.d (.str r.1)), x5, some (.d (.str s))] h = some ([.d (.str r.1)], h) from rfl)).trans e3
    unfold b_in mDrop
    rw [a2]
  · have tk : r.2.take (k + 1) = r.2.take k ++ [s] := by rw [List.take_succ, hk]; rfl
    refine ⟨fun i hi => ?_, ?_, ?_, ?_, fun i p hp => ?_⟩
    · rw [List.getElem?_set_ne (by omega)]; exact w.old i hi
    · rw [List.getElem?_set_ne (by omega)]; exact w.s
    · rw [List.getElem?_set_ne (by omega)]; exact w.c
    · rw [List.length_set]; exact w.len
    · by_cases hij : i = j
      · subst hij
        rw [hj] at hp
        cases hp
        rw [List.getElem?_set_self (by rw [w.len]; omega), hqs, tk, if_pos (by simp)]
      · rw [List.getElem?_set_ne (by omega), w.cell i p hp]
        have ne : p.1 ≠ s := fun z => hij (by
          have e1 : (pre.map (·.1))[i]? = some s := by rw [List.getElem?_map, hp, ← z]; rfl
          have e2 : (pre.map (·.1))[j]? = some s := by rw [List.getElem?_map, hj, ← hqs]; rfl
          exact (List.getElem?_inj (List.getElem?_eq_some_iff.mp e1).1 hn).mp (e1.trans e2.symm))
        rw [tk]
        simp [ne]
end K52
set_option Elab.async false
set_option linter.all false
set_option maxRecDepth 100000
set_option maxHeartbeats 1000000
namespace K52
open PySem PySem.Spec PyProof.Rows L2 F2
def Closed (pre : List Row) : Prop := ∀ q ∈ pre, ∀ s ∈ q.2, s ∈ pre.map (·.1)
theorem RW.re {n : Nat} {H h : Hh} {pre : List Row} {r r' : Row} (w : RW n H pre r 0 h) : RW n H pre r' 0 h :=
  ⟨w.old, w.s, w.c, w.len, fun j q e => by have z := w.cell j q e; simpa using z⟩
theorem loop_in {n : Nat} {H h : Hh} {pre : List Row} {r : Row} (w : RW n H pre r 0 h) (hn : (pre.map (·.1)).Nodup) (hz : pre.length < 500) (hd : r.2.Nodup) (hm : ∀ s ∈ r.2, s ∈ pre.map (·.1)) (x0 x1 x3 x6 : Option A) :
    ∃ x6' h', mFor (srcQ (mVar 5)) (gN 6) b_in [x0, x1, some (.ref (n + 1)), x3, some (.d (.str r.1)), some (.d (LS r.2)), x6] h = some (.nx [x0, x1, some (.ref (n + 1)), x3, some (.d (.str r.1)), some (.d (LS r.2)), x6'] h') ∧ RW n H pre r r.2.length h' := by
  obtain ⟨s, e1, e2, e3⟩ := sq_src (b := false) (xs := r.2) (m := mVar 5) (ρ := [x0, x1, some (.ref (n + 1)), x3, some (.d (.str r.1)), some (.d (LS r.2)), x6]) (h := h) (h1 := h) rfl
  obtain ⟨ρ', h', e4, x6', e5, e6⟩ := for_items (items := LA r.2) (g := gN 6) (b := b_in) (I := fun i ρ h => ∃ x6 : Option A, ρ = [x0, x1, some (.ref (n + 1)), x3, some (.d (.str r.1)), some (.d (LS r.2)), x6] ∧ RW n H pre r i h) e3 e2 e1
    (fun i ρ h hi ⟨x6, e5, e6⟩ => by
      subst e5
      have hi' : i < r.2.length := by rw [LA_len] at hi; exact hi
      have gi : (LA r.2)[i] = .d (.str r.2[i]) := by simp [LA]
      obtain ⟨h', e7, e8⟩ := in_turn e6 hn hz hd (List.getElem?_eq_getElem hi') (hm _ (List.getElem_mem hi')) x0 x1 x3 (some (.d (LS r.2)))
      exact ⟨_, h', by rw [gi]; exact e7, _, rfl, e8⟩) ⟨x6, rfl, w⟩
  subst e5
  rw [LA_len] at e6
  exact ⟨x6', h', e4, e6⟩
def b_test : SI := (mIfS (mOrT (mNotT (mTru (mCall 2 fn_is_new_name (mCons (mVar 4) (mCons (mVar 2) mNil))))) (mNotT (mTru (mCall 2 fn_may_be_chosen (mCons (mVar 5) (mCons (mVar 2) mNil)))))) (mRet (mC .non)) mSkip)
def b_split : SI := (mAsg (mMet "str" (fSplit false) (mVar 3) (mCons (mC (.str " ")) mNil)) (gStar1 (gN 4) (gN 5)))
def b_row : SI := mSeq b_split (mSeq b_test (mSeq (mFor (srcQ (mVar 5)) (gN 6) b_in) (mSeq (mAsg (mVar 5) (F2.gSub (mVar 1) (mVar 4))) (mAsg (mOn (mkL true) mNil) (F2.gSub (mVar 2) (mVar 4))))))
theorem LS_app (x : Str) (xs : List Str) : itemsL (.d (LS (x :: xs))) = fun _ => some (.d (.str x) :: LA xs) := by
  funext h
  show some (((x :: xs).map D.str).map A.d) = _
  simp [LA, List.map_map]
theorem split_ok {r : Row} (hs : Small r) (h1 : 32 ∉ TL.tl r.1) (h2 : ∀ s ∈ r.2, 32 ∉ TL.tl s) (x0 x1 x2 x4 x5 x6 : Option A) (h : Hh) :
    b_split [x0, x1, x2, some (.d (.str (rowText r))), x4, x5, x6] h = some (.nx [x0, x1, x2, some (.d (.str (rowText r))), some (.d (.str r.1)), some (.d (LS r.2)), x6] h) := by
  have lv := LIMv
  have l26 := rowText_len hs
  have l2 := hs.l
  have e1 : fSplit false (.d (.str (rowText r))) [.d (.str " ")] h = some (.d (LS (r.1 :: r.2)), h) := by
    unfold fSplit
    dsimp only
    rw [if_pos ⟨by decide, by omega⟩, split_row h1 h2]
    have z := mkL_data (xs := (r.1 :: r.2).map D.str) (h := h) (by rw [List.length_map, List.length_cons]; omega)
    rw [List.map_map] at z
    exact z
  have e2 : mMet "str" (fSplit false) (mVar 3) (mCons (mC (.str " ")) mNil) [x0, x1, x2, some (.d (.str (rowText r))), x4, x5, x6] h = some (.d (LS (r.1 :: r.2)), h) :=
    (met_of (T := "str") (F := fSplit false) (show mVar 3 [x0, x1, x2, some (.d (.str (rowText r))), x4, x5, x6] h = some (.d (.str (rowText r)), h) from rfl) rfl (show mCons (mC (.str " ")) mNil [x0, x1, x2, some (.d (.str (rowText r))), x4, x5, x6] h = some ([.d (.str " ")], h) from rfl)).trans e1
  unfold b_split mAsg
  rw [e2]
  dsimp only
  unfold gStar1
  rw [LS_app]
  dsimp only
  have e3 : mkL false (LA r.2) h = some (.d (LS r.2), h) := by
    have z := mkL_data (xs := r.2.map D.str) (h := h) (by rw [List.length_map]; omega)
    rw [List.map_map] at z
    exact z
  rw [if_pos (by rw [LA_len]; omega)]
  dsimp only [gN]
  rw [e3]
  rfl
theorem test_ok {n : Nat} {H h : Hh} {pre : List Row} {r r' : Row} (w : RW n H pre r' 0 h) (hn : (pre.map (·.1)).Nodup) (hz : pre.length < 500) (f : Fit pre r) (x0 x1 x3 x6 : Option A) :
    b_test [x0, x1, some (.ref (n + 1)), x3, some (.d (.str r.1)), some (.d (LS r.2)), x6] h = some (.nx [x0, x1, some (.ref (n + 1)), x3, some (.d (.str r.1)), some (.d (LS r.2)), x6] h) := by
  have ht : F2.tabOf (.ref (n + 1)) h = some (.k (tabL (cpyK n pre))) := by simp [F2.tabOf, w.c]
  have l8 := f.small.n
  have i1 : (isName r.1 && !decide (r.1 ∈ (cpyK n pre).map (·.1))) = true := by
    rw [f.name, cpy_names, decide_eq_false f.new]; rfl
  have e1 := (call_of (n := 2) (F := fn_is_new_name) (show mCons (mVar 4) (mCons (mVar 2) mNil) [x0, x1, some (.ref (n + 1)), x3, some (.d (.str r.1)), some (.d (LS r.2)), x6] h = some ([.d (.str r.1), .ref (n + 1)], h) from rfl) rfl).trans (is_new_eq (by omega) ht)
  rw [i1] at e1
  have hs : ∀ s ∈ r.2, s ∈ pre.map (·.1) := fun s hs => by
    have z := f.src
    split at z
    · rw [z] at hs; cases hs
    · exact (ok_mem z).1 s hs
  have hc : ∀ s ∈ r.2, ∃ c, Cnt h (cpyK n pre) s c ∧ c ≠ 2 := fun s hsm => by
    obtain ⟨q, hq, hqs⟩ := List.mem_map.mp (hs s hsm)
    obtain ⟨j, hj⟩ := List.mem_iff_getElem?.mp hq
    have e2 := look_at (ks := cpyK n pre) (by rw [cpy_names]; exact hn) (cpy_at hj)
    have c0 := w.cell j q hj
    have c1 : h[n + 2 + j]? = some (.lst (LA (copiesOf pre s))) := by rw [c0, hqs]; simp
    refine ⟨((copiesOf pre s).length : Int), ⟨.ref (n + 2 + j), by rw [← hqs]; exact e2, ?_⟩, ?_⟩
    · have z := len_eq c1
      rw [LA_len] at z
      exact z
    · have z := f.room s hsm
      omega
  have e3 := (call_of (n := 2) (F := fn_may_be_chosen) (show mCons (mVar 5) (mCons (mVar 2) mNil) [x0, x1, some (.ref (n + 1)), x3, some (.d (.str r.1)), some (.d (LS r.2)), x6] h = some ([.d (LS r.2), .ref (n + 1)], h) from rfl) rfl).trans (may_eq w.c f.ok (by
    rw [cpy_names]
    have z := f.src
    by_cases hp : pre = []
    · rw [if_pos hp] at z
      rw [if_pos (by rw [hp]; rfl)]
      exact z
    · rw [if_neg hp] at z
      rw [if_neg (fun y => hp (by
        have y2 := congrArg List.length y
        unfold cpyK at y2
        rw [List.length_mapIdx] at y2
        exact List.length_eq_zero_iff.mp y2))]
      exact z) hc)
  unfold b_test mIfS mOrT mNotT mTru
  rw [e1]
  simp [truthA, e3, mSkip]
end K52
set_option Elab.async false
set_option linter.all false
set_option maxRecDepth 100000
set_option maxHeartbeats 1000000
namespace K52
open PySem PySem.Spec PyProof.Rows L2 F2
theorem put_eq {h : Hh} {l : Nat} {ks : List (Str × A)} {x : Str} {v : A} (hl : h[l]? = some (.dK (tabL ks))) (hz : ks.length < 1000) (hx : x ∉ ks.map (·.1)) : stF (.ref l) (.d (.str x)) v h = some (h.set l (.dK (tabL (ks ++ [(x, v)])))) := by
  have lv := LIMv
  unfold stF
  dsimp only
  rw [hl]
  dsimp only
  have e : keyOf (.str x) = some (.inr x) := rfl
  rw [e]
  dsimp only
  rw [if_pos (by unfold tabL; rw [List.length_map]; omega), put_new hx]
theorem asg_sub {m mo mi : EI} {ρ : En} {h h1 h2 h3 h4 : Hh} {v o i : A} (e1 : m ρ h = some (v, h1)) (e2 : mo ρ h1 = some (o, h2)) (e3 : mi ρ h2 = some (i, h3)) (e4 : stF o i v h3 = some h4) : mAsg m (F2.gSub mo mi) ρ h = some (.nx ρ h4) := by
  unfold mAsg
  rw [e1]
  dsimp only
  unfold F2.gSub
  rw [e2]
  dsimp only
  rw [e3]
  dsimp only
  rw [e4]
  rfl
theorem src_names (pre : List Row) : (srcKs pre).map (·.1) = pre.map (·.1) := by
  unfold srcKs
  rw [List.map_map]
  rfl
theorem cpy_snoc (n : Nat) (pre : List Row) (r : Row) : cpyK n pre ++ [(r.1, .ref (n + 2 + pre.length))] = cpyK n (pre ++ [r]) := by
  unfold cpyK
  rw [List.mapIdx_append]
  simp
theorem none_copies {pre : List Row} {x : Str} (h : ∀ q ∈ pre, x ∉ q.2) : copiesOf pre x = [] := by
  unfold copiesOf
  rw [List.map_eq_nil_iff, List.filter_eq_nil_iff]
  intro q hq
  simp [h q hq]
theorem row_turn {n : Nat} {H h : Hh} {pre : List Row} {r r' : Row} (w : RW n H pre r' 0 h) (hn : (pre.map (·.1)).Nodup) (hz : pre.length < 500) (hcl : Closed pre) (f : Fit pre r) (x0 x4 x5 x6 : Option A) :
    ∃ x6' h', b_row [x0, some (.ref n), some (.ref (n + 1)), some (.d (.str (rowText r))), x4, x5, x6] h = some (.nx [x0, some (.ref n), some (.ref (n + 1)), some (.d (.str (rowText r))), some (.d (.str r.1)), some (.d (LS r.2)), x6'] h') ∧ RW n H (pre ++ [r]) r 0 h' := by
  have hs : (∀ s ∈ r.2, s ∈ pre.map (·.1)) ∧ r.2.Nodup := by
    have z := f.src
    split at z
    · rw [z]; exact ⟨fun s hs => (by cases hs), List.nodup_nil⟩
    · exact ok_mem z
  have s1 := split_ok f.small f.gapN f.gapS x0 (some (.ref n)) (some (.ref (n + 1))) x4 x5 x6 h
  have s2 := test_ok (r := r) w hn hz f x0 (some (.ref n)) (some (.d (.str (rowText r)))) x6
  obtain ⟨x6', h2, s3, w2⟩ := loop_in (r := r) (w.re) hn hz hs.2 hs.1 x0 (some (.ref n)) (some (.d (.str (rowText r)))) x6
  let ρ : En := [x0, some (.ref n), some (.ref (n + 1)), some (.d (.str (rowText r))), some (.d (.str r.1)), some (.d (LS r.2)), x6']
  have hlen := w2.len
  have p1 := put_eq (v := .d (LS r.2)) w2.s (by unfold srcKs; rw [List.length_map]; omega) (by rw [src_names]; exact f.new)
  have s4 : mAsg (mVar 5) (F2.gSub (mVar 1) (mVar 4)) ρ h2 = some (.nx ρ (h2.set n (.dK (tabL (srcKs pre ++ [(r.1, .d (LS r.2))]))))) := asg_sub (show mVar 5 ρ h2 = some (.d (LS r.2), h2) from rfl) (show mVar 1 ρ h2 = some (.ref n, h2) from rfl) (show mVar 4 ρ h2 = some (.d (.str r.1), h2) from rfl) p1
  let h3 : Hh := h2.set n (.dK (tabL (srcKs pre ++ [(r.1, .d (LS r.2))])))
  have l3 : h3.length = n + 2 + pre.length := by simp only [h3, List.length_set]; exact hlen
  have c3 : (h3 ++ [O.lst []])[n + 1]? = some (.dK (tabL (cpyK n pre))) := by
    rw [List.getElem?_append_left (by omega)]
    simp only [h3]
    rw [List.getElem?_set_ne (by omega)]
    exact w2.c
  have p2 := put_eq (v := .ref (n + 2 + pre.length)) c3 (by unfold cpyK; rw [List.length_mapIdx]; omega) (by rw [cpy_names]; exact f.new)
  have nc := nil_cell ρ h3
  rw [l3] at nc
  have s5 : mAsg (mOn (mkL true) mNil) (F2.gSub (mVar 2) (mVar 4)) ρ h3 = some (.nx ρ ((h3 ++ [O.lst []]).set (n + 1) (.dK (tabL (cpyK n pre ++ [(r.1, .ref (n + 2 + pre.length))]))))) := asg_sub nc (show mVar 2 ρ (h3 ++ [O.lst []]) = some (.ref (n + 1), h3 ++ [O.lst []]) from rfl) (show mVar 4 ρ (h3 ++ [O.lst []]) = some (.d (.str r.1), h3 ++ [O.lst []]) from rfl) p2
  refine ⟨x6', _, (seq_nx s1).trans ((seq_nx s2).trans ((seq_nx s3).trans ((seq_nx s4).trans s5))), ?_⟩
  have g3 : ∀ j, j ≠ n → j < n + 2 + pre.length → (h3 ++ [O.lst []])[j]? = h2[j]? := fun j j1 j2 => by
    rw [List.getElem?_append_left (by omega)]
    simp only [h3]
    rw [List.getElem?_set_ne (Ne.symm j1)]
  refine ⟨fun j hj => ?_, ?_, ?_, ?_, fun j q hq => ?_⟩
  · rw [List.getElem?_set_ne (by omega), g3 j (by omega) (by omega)]
    exact w2.old j hj
  · rw [List.getElem?_set_ne (by omega), List.getElem?_append_left (by omega)]
    simp only [h3]
    rw [List.getElem?_set_self (by omega)]
    unfold srcKs
    rw [List.map_append]
    rfl
  · rw [List.getElem?_set_self (by rw [List.length_append]; omega), cpy_snoc]
  · rw [List.length_set, List.length_append, List.length_append, l3]
    simp
    omega
  · rw [List.take_zero, if_neg (by simp), List.append_nil, copies_snoc]
    by_cases hj : j < pre.length
    · rw [List.getElem?_append_left hj] at hq
      have z := w2.cell j q hq
      rw [List.take_length] at z
      rw [List.getElem?_set_ne (by omega), g3 (n + 2 + j) (by omega) (by omega)]
      exact z
    · have hjl : j = pre.length := by
        have := (List.getElem?_eq_some_iff.mp hq).1
        rw [List.length_append] at this
        simp at this
        omega
      subst hjl
      rw [List.getElem?_append_right (Nat.le_refl _), Nat.sub_self] at hq
      simp at hq
      subst hq
      have nin : r.1 ∉ r.2 := fun z => f.new (hs.1 _ z)
      rw [if_neg nin, List.append_nil, none_copies fun q hq z => f.new (hcl q hq _ z)]
      rw [List.getElem?_set_ne (by omega), List.getElem?_append_right (by omega), l3, Nat.sub_self]
      rfl
end K52
set_option Elab.async false
set_option linter.all false
set_option maxRecDepth 100000
set_option maxHeartbeats 1000000
namespace K52
open PySem PySem.Spec PyProof.Rows L2 F2
theorem Fits.at {pre rest : List Row} (h : Fits pre rest) : ∀ {i : Nat} {r : Row}, rest[i]? = some r → Fit (pre ++ rest.take i) r := by
  induction h with
  | nil => intro i r e; simp at e
  | cons h t ih =>
    intro i r e
    cases i with
    | zero => simp at e; subst e; simpa using h
    | succ i =>
      have z := ih (i := i) (r := r) (by simpa using e)
      simpa using z
theorem Fit.srcs {pre : List Row} {r : Row} (f : Fit pre r) : ∀ s ∈ r.2, s ∈ pre.map (·.1) := by
  have z := f.src
  split at z
  · rw [z]; exact fun s hs => by cases hs
  · exact (ok_mem z).1
theorem Fits.good {pre rest : List Row} (h : Fits pre rest) : (pre.map (·.1)).Nodup → Closed pre → ((pre ++ rest).map (·.1)).Nodup ∧ Closed (pre ++ rest) := by
  induction h with
  | nil => intro h1 h2; simpa using ⟨h1, h2⟩
  | @cons pre r rest f t ih =>
    intro h1 h2
    have g1 : ((pre ++ [r]).map (·.1)).Nodup := by
      rw [List.map_append, List.nodup_append]
      refine ⟨h1, by simp, fun a ha b hb => ?_⟩
      simp at hb
      subst hb
      exact fun z => f.new (z ▸ ha)
    have g2 : Closed (pre ++ [r]) := fun q hq s hs => by
      rw [List.map_append, List.mem_append]
      rcases List.mem_append.mp hq with z | z
      · exact .inl (h2 q z s hs)
      · simp at z
        subst z
        exact .inl (f.srcs s hs)
    have z := ih g1 g2
    rw [List.append_assoc] at z
    exact z
theorem Fits.take {pre rest : List Row} (h : Fits pre rest) : ∀ i, Fits pre (rest.take i) := by
  induction h with
  | nil => intro i; simp; exact .nil
  | cons f t ih =>
    intro i
    cases i with
    | zero => exact .nil
    | succ i => exact .cons f (ih i)
def b_max : SI := (mIfS (mBl (mBin fGt (mOn (orC fLen fLenD) (mCons (mVar 1) mNil)) (mC (.int 40)))) (mRet (mC .non)) mSkip)
def b_str : SI := (mIfS (mNotT (mTru (mIsi "str" (mVar 0)))) (mRet (mC .non)) mSkip)
def e_parts : EI := (mMet "str" (fSplit false) (mVar 0) (mCons (mC (.str "; ")) mNil))
theorem lenD_eq {h : Hh} {l : Nat} {kvs : List (Key × A)} (hl : h[l]? = some (.dK kvs)) : orC fLen fLenD [.ref l] h = some (.d (.int kvs.length), h) := by
  simp [orC, fLen, itemsL, hl, fLenD]
theorem said_len {rows : List Row} (hs : ∀ r ∈ rows, Small r) (hz : rows.length ≤ 40) : (said rows).length ≤ 2000 := by
  unfold said
  rw [join_len]
  have h1 := sum_le (xs := rows.map rowText) (b := 26) (fun x hx => by
    obtain ⟨r, hr, rfl⟩ := List.mem_map.mp hx
    exact rowText_len (hs r hr))
  have e : ("; " : Str).length = 2 := rfl
  rw [List.length_map] at h1 ⊢
  rw [e]
  omega
theorem Fits.mem {rows : List Row} (h : Fits [] rows) {r : Row} (hr : r ∈ rows) : ∃ pre, Fit pre r := by
  obtain ⟨i, hi⟩ := List.mem_iff_getElem?.mp hr
  exact ⟨_, h.at hi⟩
theorem read_eq {rows : List Row} (hv : Fits [] rows) (hne : rows ≠ []) (hz : rows.length ≤ 40) (H : Hh) (r0 : Row) :
    ∃ h', fn_read_web [.d (.str (said rows))] H = some (.tp [.ref H.length, .ref (H.length + 1)], h') ∧ RW H.length H rows r0 0 h' := by
  have hsm : ∀ r ∈ rows, Small r := fun r hr => (hv.mem hr).choose_spec.small
  have hse : ∀ r ∈ rows, 59 ∉ TL.tl (rowText r) := fun r hr => (hv.mem hr).choose_spec.semi
  let n := H.length
  let h0 : Hh := H ++ [.dK []] ++ [.dK []]
  have z : fn_read_web [.d (.str (said rows))] H = finP H.length (m_read_web [some (.d (.str (said rows))), none, none, none, none, none, none] H) := mkFn_eq rfl
  have d1 : m_read_web = mSeq b_str (mSeq (mAsg (mDnewK true) (gN 1)) (mSeq (mAsg (mDnewK true) (gN 2)) (mSeq (mFor (srcQ e_parts) (gN 3) b_row) (mSeq b_max (mRet (mOn mkT (mCons (mVar 1) (mCons (mVar 2) mNil)))))))) := rfl
  have s1 : b_str [some (.d (.str (said rows))), none, none, none, none, none, none] H = some (.nx [some (.d (.str (said rows))), none, none, none, none, none, none] H) := rfl
  have s2 : mAsg (mDnewK true) (gN 1) [some (.d (.str (said rows))), none, none, none, none, none, none] H = some (.nx [some (.d (.str (said rows))), some (.ref n), none, none, none, none, none] (H ++ [.dK []])) := rfl
  have s3 : mAsg (mDnewK true) (gN 2) [some (.d (.str (said rows))), some (.ref n), none, none, none, none, none] (H ++ [.dK []]) = some (.nx [some (.d (.str (said rows))), some (.ref n), some (.ref (n + 1)), none, none, none, none] h0) := by
    have e : mAsg (mDnewK true) (gN 2) [some (.d (.str (said rows))), some (.ref n), none, none, none, none, none] (H ++ [.dK []]) = some (.nx [some (.d (.str (said rows))), some (.ref n), some (.ref (H ++ [O.dK []]).length), none, none, none, none] h0) := rfl
    rw [e, List.length_append]
    rfl
  have w0 : RW n H [] r0 0 h0 := ⟨fun j hj => by simp only [h0]; rw [List.append_assoc, List.getElem?_append_left hj], by simp [h0, n, tabL, srcKs], by
    simp only [h0]
    rw [List.getElem?_append_right (by simp [n])]
    simp [n, tabL, cpyK], by simp [h0, n], fun j q e => by simp at e⟩
  have p1 : e_parts [some (.d (.str (said rows))), some (.ref n), some (.ref (n + 1)), none, none, none, none] h0 = some (.d (LS (rows.map rowText)), h0) := by
    have lv := LIMv
    have ls := said_len hsm hz
    have e1 : fSplit false (.d (.str (said rows))) [.d (.str "; ")] h0 = some (.d (LS (rows.map rowText)), h0) := by
      have lim : (said rows).length + 2 ≤ LIM := by show (said rows).length + 2 ≤ 1000000; omega
      unfold fSplit
      dsimp only
      rw [if_pos ⟨by decide, lim⟩, split_said hne hse]
      have z := mkL_data (xs := (rows.map rowText).map D.str) (h := h0) (by rw [List.length_map, List.length_map]; omega)
      rw [List.map_map] at z
      exact z
    exact (met_of (T := "str") (F := fSplit false) (show mVar 0 [some (.d (.str (said rows))), some (.ref n), some (.ref (n + 1)), none, none, none, none] h0 = some (.d (.str (said rows)), h0) from rfl) rfl (show mCons (mC (.str "; ")) mNil [some (.d (.str (said rows))), some (.ref n), some (.ref (n + 1)), none, none, none, none] h0 = some ([.d (.str "; ")], h0) from rfl)).trans e1
  obtain ⟨s, e1, e2, e3⟩ := sq_src (b := false) (xs := rows.map rowText) p1
  obtain ⟨ρ', h', e4, x3, x4, x5, x6, e5, w⟩ := for_items (items := LA (rows.map rowText)) (g := gN 3) (b := b_row) (I := fun i ρ h => ∃ x3 x4 x5 x6 : Option A, ρ = [some (.d (.str (said rows))), some (.ref n), some (.ref (n + 1)), x3, x4, x5, x6] ∧ RW n H (rows.take i) r0 0 h) e3 e2 e1
    (fun i ρ h hi ⟨x3, x4, x5, x6, e5, w⟩ => by
      subst e5
      have hi' : i < rows.length := by rw [LA_len, List.length_map] at hi; exact hi
      have gi : (LA (rows.map rowText))[i] = .d (.str (rowText rows[i])) := by simp [LA]
      have f := hv.at (List.getElem?_eq_getElem hi')
      rw [List.nil_append] at f
      have g := (hv.take i).good (by simp) (fun q hq => by cases hq)
      rw [List.nil_append] at g
      obtain ⟨x6', h', e6, w'⟩ := row_turn w g.1 (by rw [List.length_take]; omega) g.2 f (some (.d (.str (said rows)))) x4 x5 x6
      refine ⟨_, h', by rw [gi]; exact e6, _, _, _, _, rfl, ?_⟩
      rw [List.take_succ, List.getElem?_eq_getElem hi']
      exact w'.re) ⟨none, none, none, none, rfl, by rw [List.take_zero]; exact w0⟩
  subst e5
  have ln : (LA (rows.map rowText)).length = rows.length := by rw [LA_len, List.length_map]
  rw [ln, List.take_length] at w
  have s5 : b_max [some (.d (.str (said rows))), some (.ref n), some (.ref (n + 1)), x3, x4, x5, x6] h' = some (.nx [some (.d (.str (said rows))), some (.ref n), some (.ref (n + 1)), x3, x4, x5, x6] h') := by
    have ll := lenD_eq w.s
    have l2 : ((tabL (srcKs rows)).length : Int) = (rows.length : Int) := by simp [tabL, srcKs]
    rw [l2] at ll
    have q := (on_of (F := orC fLen fLenD) (show mCons (mVar 1) mNil [some (.d (.str (said rows))), some (.ref n), some (.ref (n + 1)), x3, x4, x5, x6] h' = some ([.ref n], h') from rfl)).trans ll
    have ng : ¬ (40 : Int) < (rows.length : Int) := by omega
    have gt : fGt (.d (.int (rows.length : Int))) (.d (.int 40)) h' = some (.d (.bl false), h') := by
      show some (A.d (.bl (decide ((40 : Int) < (rows.length : Int)))), h') = _
      rw [decide_eq_false ng]
    unfold b_max mIfS mBl
    rw [bin_of q (show mC (.int 40) [some (.d (.str (said rows))), some (.ref n), some (.ref (n + 1)), x3, x4, x5, x6] h' = some (.d (.int 40), h') from rfl), gt]
    rfl
  refine ⟨h', ?_, w⟩
  rw [z, d1, seq_nx s1, seq_nx s2, seq_nx s3, seq_nx e4, seq_nx s5]
  show some (cut n (.tp [.ref n, .ref (n + 1)]) h') = _
  have c : cut n (.tp [.ref n, .ref (n + 1)]) h' = (.tp [.ref n, .ref (n + 1)], h') := by
    unfold cut
    have z : low n (.tp [.ref n, .ref (n + 1)]) = false := by simp [low, lows]
    rw [z]
    rfl
  rw [c]
end K52
set_option Elab.async false
set_option linter.all false
set_option maxRecDepth 100000
set_option maxHeartbeats 1000000
namespace K52
open PySem PySem.Spec PyProof.Rows L2 F2
/-- the urn -/
abbrev U3 := Int × Int × Int
def URN (p : U3) : O := .lst [.d (.int p.1), .d (.int p.2.1), .d (.int p.2.2)]
theorem dO_urn {p : U3} : dO (URN p) = true := rfl
/-- one draw -/
def pul (p : U3) (m : Int) : Int × U3 :=
  if 0 < p.1 then (p.1 % m, (p.1 / m, p.2.1, p.2.2 + 1)) else (((p.2.1 * 39409 + 7001 * (p.2.2 + 1) + 9) % 2147482661 / 768) % m, (p.1, (p.2.1 * 39409 + 7001 * (p.2.2 + 1) + 9) % 2147482661, p.2.2 + 1))
theorem pul_lo {p : U3} {m : Int} (h : 0 < m) : 0 ≤ (pul p m).1 := by
  unfold pul
  split <;> exact Int.emod_nonneg _ (by omega)
theorem pul_hi {p : U3} {m : Int} (h : 0 < m) : (pul p m).1 < m := by
  unfold pul
  split <;> exact Int.emod_lt_of_pos _ h
theorem pull_eq {p : U3} {many : Int} (h0 : 0 < many) (h1 : many < 1073741824) {H : Hh} {l : Nat} (hl : H[l]? = some (URN p)) : fn_law_pull [.ref l, .d (.int many)] H = some (.d (.int (pul p many).1), H.set l (URN (pul p many).2)) := by
  have hs : ∀ o, (H.set l o)[l]? = some o := fun o => List.getElem?_set_self (List.getElem?_eq_some_iff.mp hl).1
  have hl' := hl
  simp only [URN] at hl'
  by_cases ha : 0 < p.1
  · simp [fn_law_pull, mkFn, m_law_pull, mSeq, mIfS, mBl, mBin, mVar, mC, fIx, orF, fIxS, itemsL, hl', L2.atI, ixN, fGt, int2, ha, mAsg, mOn, mCons, mNil, fDivmod, int2C, h0, h1, gT, itemsT, gsCons, gsNil, F2.gSub, gN, stF, mRet, cut_same, URN, pul, fAdd, fAddI, hs]
  · simp [fn_law_pull, mkFn, m_law_pull, mSeq, mIfS, mBl, mBin, mVar, mC, fIx, orF, fIxS, itemsL, hl', L2.atI, ixN, fGt, int2, ha, mAsg, mOn, mCons, mNil, fInt, fMulI, smallI, fAdd, fAddI, fMod, fDiv, F2.gSub, gN, stF, mRet, cut_same, URN, mSkip, h0, h1, hs, pul]
/-- one of some data -/
theorem of_eq {p : U3} {xs : List D} (h0 : xs ≠ []) (h1 : xs.length < 1000) {H : Hh} {l : Nat} (hl : H[l]? = some (URN p)) : ∃ x ∈ xs, fn_law_of [.ref l, .d (.lst xs)] H = some (.d x, H.set l (URN (pul p xs.length).2)) := by
  have hp : 0 < (xs.length : Int) := by have := List.length_pos_iff.mpr h0; omega
  have d := pull_eq (p := p) hp (by omega) hl
  have lo := pul_lo (p := p) hp
  have hi := pul_hi (p := p) hp
  obtain ⟨i, hi2⟩ := Int.eq_ofNat_of_zero_le lo
  have hi3 : i < xs.length := by omega
  refine ⟨xs[i]'hi3, List.getElem_mem _, ?_⟩
  have e : xs[i]? = some (xs[i]'hi3) := List.getElem?_eq_getElem hi3
  simp [fn_law_of, mkFn, m_law_of, mRet, mBin, mVar, mCall, mOn, mCons, mNil, orC, fLen, itemsL, d, fIx, orF, fIxS, L2.atI, ixN, hi2, hi3, cut_same]
/-! ### the urn is made -/
def e_seven : EI := (mSlc false (mVar 0) none (some (mC (.int 7))))
def b_stir : SI := (mAsg (mBin fMod (mOn fInt (mCons (mBin (fAdd false) (mBin (fAdd false) (mBin (orF fMulI (orF fMulS (fMulL false))) (mVar 2) (mC (.int 48889))) (mBin (orF fMulI (orF fMulS (fMulL false))) (mOn fInt (mCons (mVar 3) mNil)) (mC (.int 19)))) (mVar 1)) mNil)) (mC (.int 2147482661))) (gN 2))
theorem turn_stir (x0 x3 x4 : Option A) (t s v : Int) (H : Hh) : mTurn (gN 3) b_stir (.d (.int v)) [x0, some (.d (.int t)), some (.d (.int s)), x3, x4] H = some (.nx [x0, some (.d (.int t)), some (.d (.int ((s * 48889 + v * 19 + t) % 2147482661))), some (.d (.int v)), x4] H) := by
  simp [mTurn, gN, b_stir, mAsg, mBin, mOn, mCons, mNil, mVar, mC, fInt, orF, fMulI, int2, smallI, fAdd, fAddI, fMod]
def e_own : EI := (mIf (mBl (mBin fLt (mVar 1) (mOn (orC fLen fLenD) (mCons (mVar 0) mNil)))) (mOn fInt (mCons (mBin fIx (mVar 0) (mVar 1)) mNil)) (mVar 2))
theorem own_ok {ns : List Int} {t : Nat} {s : Int} (x3 x4 : Option A) (H : Hh) : ∃ c : Int, e_own [some (.d (.scr ns)), some (.d (.int t)), some (.d (.int s)), x3, x4] H = some (.d (.int c), H) := by
  by_cases h : t < ns.length
  · refine ⟨ns[t], ?_⟩
    have hh : (t : Int) < (ns.length : Int) := by omega
    simp [e_own, mIf, mBl, mBin, mVar, mOn, mCons, mNil, orC, fLen, itemsL, fLt, int2, hh, fIx, orF, fIxS, L2.atI, ixN, h, fInt]
  · refine ⟨s, ?_⟩
    have hh : ¬ (t : Int) < (ns.length : Int) := by omega
    simp [e_own, mIf, mBl, mBin, mVar, mOn, mCons, mNil, orC, fLen, itemsL, fLt, int2, hh, h]
theorem seven_ok {ns : List Int} (hz : ns.length < 500) (x1 x2 x3 x4 : Option A) (H : Hh) : ∃ zs : List Int, e_seven [some (.d (.scr ns)), x1, x2, x3, x4] H = some (.d (.lst (zs.map D.int)), H) := by
  refine ⟨cutA ns none (some 7), ?_⟩
  have hl := cutA_le ns none (some 7)
  have z := mkL_data (xs := (cutA ns none (some 7)).map D.int) (h := H) (by rw [List.length_map]; omega)
  rw [List.map_map] at z
  exact z
def t_big : TI' := (mOrT (mBl (mBin fLt (mVar 4) (mC (.int 0)))) (mBl (mBin fGe (mVar 4) (mBin fPow (mC (.int 10)) (mC (.int 17))))))
def e_first : EI := (mIf t_big (mOn fAbs (mCons (mVar 4) mNil)) (mC (.int 0)))
def e_state : EI := (mBin fMod (mOn fInt (mCons (mBin (fAdd false) (mVar 2) (mBin (orF fMulI (orF fMulS (fMulL false))) (mVar 4) (mC (.int 31)))) mNil)) (mC (.int 2147482661)))
def e_urn : EI := (mOn (mkL true) (mCons e_first (mCons e_state (mCons (mC (.int 0)) mNil))))
theorem pow17_ok (ρ : En) (H : Hh) : mBin fPow (mC (.int 10)) (mC (.int 17)) ρ H = some (.d (.int 100000000000000000), H) := by kernel_rfl
theorem urn_made {c s : Int} (x0 x1 x3 : Option A) (H : Hh) : ∃ p, e_urn [x0, x1, some (.d (.int s)), x3, some (.d (.int c))] H = some (.ref H.length, H ++ [URN p]) := by
  have v4 : mVar 4 [x0, x1, some (.d (.int s)), x3, some (.d (.int c))] H = some (.d (.int c), H) := rfl
  have a1 : mOn fAbs (mCons (mVar 4) mNil) [x0, x1, some (.d (.int s)), x3, some (.d (.int c))] H = some (.d (.int (if c < 0 then -c else c)), H) := rfl
  have g1 : mBl (mBin fLt (mVar 4) (mC (.int 0))) [x0, x1, some (.d (.int s)), x3, some (.d (.int c))] H = some (decide (c < 0), H) := rfl
  have g2 : mBl (mBin fGe (mVar 4) (mBin fPow (mC (.int 10)) (mC (.int 17)))) [x0, x1, some (.d (.int s)), x3, some (.d (.int c))] H = some (decide ((100000000000000000 : Int) ≤ c), H) := by
    unfold mBl
    rw [bin_of v4 (pow17_ok _ H)]
    rfl
  have i1 : ∃ a, e_first [x0, x1, some (.d (.int s)), x3, some (.d (.int c))] H = some (.d (.int a), H) := by
    have gg : ∃ b, t_big [x0, x1, some (.d (.int s)), x3, some (.d (.int c))] H = some (b, H) := by
      unfold t_big mOrT
      rw [g1]
      cases decide (c < 0) with
      | true => exact ⟨true, rfl⟩
      | false => exact ⟨_, g2⟩
    obtain ⟨b, gg⟩ := gg
    unfold e_first mIf
    rw [gg]
    cases b with
    | true => exact ⟨_, a1⟩
    | false => exact ⟨0, rfl⟩
  obtain ⟨a, i1⟩ := i1
  have i2 : e_state [x0, x1, some (.d (.int s)), x3, some (.d (.int c))] H = some (.d (.int ((s + c * 31) % 2147482661)), H) := by
    simp [e_state, mBin, mOn, mCons, mNil, mVar, mC, fInt, orF, fMulI, int2, smallI, fAdd, fAddI, fMod]
  refine ⟨(a, (s + c * 31) % 2147482661, 0), ?_⟩
  have cs := cons_of i1 (cons_of i2 (cons_of (show mC (.int 0) [x0, x1, some (.d (.int s)), x3, some (.d (.int c))] H = some (.d (.int 0), H) from rfl) (show mNil [x0, x1, some (.d (.int s)), x3, some (.d (.int c))] H = some ([], H) from rfl)))
  exact (on_of cs).trans (mkL_cell (by simp))
theorem urn_ok {ns : List Int} (hz : ns.length < 500) (t : Nat) (H : Hh) : ∃ p, fn_law_urn [.d (.scr ns), .d (.int t)] H = some (.ref H.length, H ++ [URN p]) := by
  have d1 : m_law_urn = mSeq (mAsg (mBin (fAdd false) (mC (.int 271828)) (mBin (orF fMulI (orF fMulS (fMulL false))) (mC (.int 40961)) (mVar 1))) (gN 2)) (mSeq (mFor (srcQ e_seven) (gN 3) b_stir) (mSeq (mAsg e_own (gN 4)) (mRet e_urn))) := rfl
  have e1 : mAsg (mBin (fAdd false) (mC (.int 271828)) (mBin (orF fMulI (orF fMulS (fMulL false))) (mC (.int 40961)) (mVar 1))) (gN 2) [some (.d (.scr ns)), some (.d (.int t)), none, none, none] H = some (.nx [some (.d (.scr ns)), some (.d (.int t)), some (.d (.int (271828 + 40961 * t))), none, none] H) := by
    simp [mAsg, mBin, mC, mVar, orF, fMulI, int2, smallI, fAdd, fAddI, gN]
  obtain ⟨zs, e3⟩ := seven_ok hz (some (.d (.int t))) (some (.d (.int (271828 + 40961 * t)))) none none H
  have src := srcQ_data e3
  obtain ⟨ρ', H', e4, s', x3, e5, e6⟩ := for_items (items := (zs.map D.int).map A.d) (g := gN 3) (b := b_stir) (I := fun _ ρ h => ∃ (s : Int) (x3 : Option A), ρ = [some (.d (.scr ns)), some (.d (.int t)), some (.d (.int s)), x3, none] ∧ h = H) (fun i h => items_map _ h i) (by simp) src
    (fun i ρ h hi ⟨s, x3, e5, e6⟩ => by
      subst e5 e6
      have hz : ((zs.map D.int).map A.d)[i] = .d (.int (zs[i]'(by simpa using hi))) := by simp
      rw [hz, turn_stir]
      exact ⟨_, _, rfl, _, _, rfl, rfl⟩) ⟨_, _, rfl, rfl⟩
  subst e5 e6
  obtain ⟨c, e7⟩ := own_ok (ns := ns) (t := t) (s := s') x3 none H'
  obtain ⟨p, e8⟩ := urn_made (c := c) (s := s') (some (.d (.scr ns))) (some (.d (.int t))) x3 H'
  refine ⟨p, ?_⟩
  have r : mRet e_urn [some (.d (.scr ns)), some (.d (.int t)), some (.d (.int s')), x3, some (.d (.int c))] H' = some (.rt (.ref H'.length) (H' ++ [URN p])) := by
    unfold mRet
    rw [e8]
  have z : fn_law_urn [.d (.scr ns), .d (.int t)] H' = finP H'.length (m_law_urn [some (.d (.scr ns)), some (.d (.int t)), none, none, none] H') := mkFn_eq rfl
  have b : m_law_urn [some (.d (.scr ns)), some (.d (.int t)), none, none, none] H' = some (.rt (.ref H'.length) (H' ++ [URN p])) := by
    rw [d1]
    exact (seq_nx e1).trans ((seq_nx e4).trans ((seq_nx (asg_N e7)).trans r))
  rw [z, b]
  show some (cut H'.length (.ref H'.length) (H' ++ [URN p])) = _
  rw [cut_new (Nat.le_refl _)]
end K52
set_option Elab.async false
set_option linter.all false
set_option maxRecDepth 100000
set_option maxHeartbeats 1000000
namespace K52
open PySem PySem.Spec PyProof.Rows L2 F2
def WP : List Str := ["a", "b", "c", "d", "e", "f", "g", "h", "ab", "ba", "none", "web", "abcdefgh", "z", "zz", "count"]
def e_pool : EI := (mOn (mkL true) (mCons (mC (.str "a")) (mCons (mC (.str "b")) (mCons (mC (.str "c")) (mCons (mC (.str "d")) (mCons (mC (.str "e")) (mCons (mC (.str "f")) (mCons (mC (.str "g")) (mCons (mC (.str "h")) (mCons (mC (.str "ab")) (mCons (mC (.str "ba")) (mCons (mC (.str "none")) (mCons (mC (.str "web")) (mCons (mC (.str "abcdefgh")) (mCons (mC (.str "z")) (mCons (mC (.str "zz")) (mCons (mC (.str "count")) mNil)))))))))))))))))
theorem pool_made (ρ : En) (H : Hh) : e_pool ρ H = some (.ref H.length, H ++ [.lst (LA WP)]) := by kernel_rfl
theorem set_same {α : Type} {H : List α} {l : Nat} {o : α} (h : H[l]? = some o) : H.set l o = H := by
  apply List.ext_getElem?
  intro j
  by_cases c : l = j
  · subst c
    rw [List.getElem?_set_self (List.getElem?_eq_some_iff.mp h).1, h]
  · rw [List.getElem?_set_ne c]
def b_word : SI := (mDrop (mMet "list" fAppend (mVar 3) (mCons (mMet "list" fPopAt (mVar 2) (mCons (mCall 2 fn_law_pull (mCons (mVar 0) (mCons (mOn (orC fLen fLenD) (mCons (mVar 2) mNil)) mNil))) mNil)) mNil)))
theorem turn_word {p : U3} {left found : List Str} (hne : left ≠ []) (hlen : left.length < 1000) (hf : found.length < 1000) {H : Hh} {l cl cf : Nat} {x1 x4 : Option A}
    (hl : H[l]? = some (URN p)) (hcl : H[cl]? = some (.lst (LA left))) (hcf : H[cf]? = some (.lst (LA found))) (n1 : l ≠ cl) (n2 : l ≠ cf) (n3 : cl ≠ cf) :
    ∃ i, ∃ hi : i < left.length, b_word [some (.ref l), x1, some (.ref cl), some (.ref cf), x4] H =
      some (.nx [some (.ref l), x1, some (.ref cl), some (.ref cf), x4] (((H.set l (URN (pul p left.length).2)).set cl (.lst (LA (left.eraseIdx i)))).set cf (.lst (LA (found ++ [left[i]]))))) := by
  have hp : 0 < (left.length : Int) := by have := List.length_pos_iff.mpr hne; omega
  have d := pull_eq (p := p) hp (by omega) hl
  have lo := pul_lo (p := p) hp
  have hi := pul_hi (p := p) hp
  obtain ⟨i, hi2⟩ := Int.eq_ofNat_of_zero_le lo
  have hi3 : i < left.length := by omega
  refine ⟨i, hi3, ?_⟩
  have hi4 : i < (LA left).length := by rw [LA_len]; exact hi3
  have g1 : (H.set l (URN (pul p left.length).2))[cl]? = some (.lst (LA left)) := by rw [List.getElem?_set_ne n1]; exact hcl
  have g2 : ((H.set l (URN (pul p left.length).2)).set cl (.lst ((LA left).eraseIdx i)))[cf]? = some (.lst (LA found)) := by rw [List.getElem?_set_ne n3, List.getElem?_set_ne n2]; exact hcf
  have e1 := popAt_eq g1 hi4 (by rw [LA_len]; exact hlen)
  have e2 := append_eq (y := (LA left)[i]) g2 (by rw [LA_len]; exact hf)
  have er : (LA left).eraseIdx i = LA (left.eraseIdx i) := map_erase _ _ _
  have eg : (LA left)[i] = .d (.str left[i]) := by simp [LA]
  rw [eg, LA_snoc] at e2
  rw [eg] at e1
  rw [er] at e1 e2
  have t1 := isT_list hcf
  have t2 := isT_list hcl
  have ll := len_eq hcl
  rw [LA_len] at ll
  rw [hi2] at d
  simp only [b_word, mDrop, mMet, mVar, mCons, mNil, mCall, mOn, List.getElem?_cons_succ, List.getElem?_cons_zero, t1, t2, ll, if_true, List.length_cons, List.length_nil, d, e1, e2, Nat.reduceAdd, Int.ofNat_eq_natCast]
/-- the heap of two cells more -/
theorem set_l {H : Hh} {l : Nat} {o : O} {G : Hh} (hl : l < H.length) : (H ++ G).set l o = H.set l o ++ G := List.set_append_left _ _ hl
theorem set_c {H : Hh} {x y o : O} : (H ++ [x, y]).set H.length o = H ++ [o, y] := by
  rw [List.set_append_right _ _ (Nat.le_refl _), Nat.sub_self]; rfl
theorem set_f {H : Hh} {x y o : O} : (H ++ [x, y]).set (H.length + 1) o = H ++ [x, o] := by
  rw [List.set_append_right _ _ (by omega)]
  have : H.length + 1 - H.length = 1 := by omega
  rw [this]; rfl
structure Wd2 (found left : List Str) : Prop where
  nd : (found ++ left).Nodup
  mem : ∀ x ∈ found ++ left, x ∈ WP
theorem erase_perm {α : Type} : ∀ {l : List α} {i : Nat} (h : i < l.length), (l[i] :: l.eraseIdx i).Perm l
  | a :: l, 0, _ => .refl _
  | a :: l, i + 1, h => by
    have h' : i < l.length := by simpa using h
    exact (List.Perm.swap _ _ _).trans ((erase_perm h').cons a)
theorem Wd2.next {found left : List Str} (w : Wd2 found left) {i : Nat} (hi : i < left.length) : Wd2 (found ++ [left[i]]) (left.eraseIdx i) := by
  have pm : (found ++ [left[i]] ++ left.eraseIdx i).Perm (found ++ left) := by
    rw [List.append_assoc]
    exact List.Perm.append_left _ (erase_perm hi)
  exact ⟨pm.nodup_iff.mpr w.nd, fun x hx => w.mem x (pm.mem_iff.mp hx)⟩
theorem words_eq {p : U3} {n : Nat} (hn : n ≤ 16) {H : Hh} {l : Nat} (hl : H[l]? = some (URN p)) (hd : DH H) :
    ∃ names p', fn_law_words [.ref l, .d (.int n)] H = some (.d (LS names), H.set l (URN p')) ∧ names.length = n ∧ names.Nodup ∧ ∀ x ∈ names, x ∈ WP := by
  have hlt : l < H.length := (List.getElem?_eq_some_iff.mp hl).1
  have d1 : m_law_words = mSeq (mAsg e_pool (gN 2)) (mSeq (mAsg (mOn (mkL true) mNil) (gN 3)) (mSeq (mFor (srcR1 (mCons (mVar 1) mNil)) (gN 4) b_word) (mRet (mVar 3)))) := rfl
  have s1 : mAsg e_pool (gN 2) [some (.ref l), some (.d (.int n)), none, none, none] H = some (.nx [some (.ref l), some (.d (.int n)), some (.ref H.length), none, none] (H ++ [.lst (LA WP)])) := asg_N (pool_made _ H)
  have s2 : mAsg (mOn (mkL true) mNil) (gN 3) [some (.ref l), some (.d (.int n)), some (.ref H.length), none, none] (H ++ [.lst (LA WP)]) = some (.nx [some (.ref l), some (.d (.int n)), some (.ref H.length), some (.ref (H.length + 1)), none] (H ++ [.lst (LA WP), .lst (LA [])])) := by
    rw [asg_N (nil_cell _ _), List.append_assoc, List.length_append]; rfl
  have src : srcR1 (mCons (mVar 1) mNil) [some (.ref l), some (.d (.int n)), some (.ref H.length), some (.ref (H.length + 1)), none] (H ++ [.lst (LA WP), .lst (LA [])]) = some (⟨rngN 0 n, n⟩, H ++ [.lst (LA WP), .lst (LA [])]) := range_n (by omega) rfl
  obtain ⟨ρ', H', e3, p', left, found, x4, er, eh, ew, ef, el⟩ := for_items (items := rngI n) (g := gN 4) (b := b_word) (I := fun i ρ h => ∃ (p' : U3) (left found : List Str) (x4 : Option A), ρ = [some (.ref l), some (.d (.int n)), some (.ref H.length), some (.ref (H.length + 1)), x4] ∧ h = H.set l (URN p') ++ [.lst (LA left), .lst (LA found)] ∧ Wd2 found left ∧ found.length = i ∧ found.length + left.length = 16) (fun i h => rng_items n i h) (by simp [rngI]) src
    (fun i ρ h hi ⟨p', left, found, x4, er, eh, ew, ef, el⟩ => by
      subst er eh
      have hi' : i < n := by simpa [rngI] using hi
      have hle : (H.set l (URN p')).length = H.length := List.length_set
      have hl0 : (H.set l (URN p') ++ [.lst (LA left), .lst (LA found)])[l]? = some (URN p') := by
        rw [List.getElem?_append_left (by rw [hle]; exact hlt), List.getElem?_set_self hlt]
      have hc0 : (H.set l (URN p') ++ [.lst (LA left), .lst (LA found)])[H.length]? = some (.lst (LA left)) := by
        rw [List.getElem?_append_right (by rw [hle]; exact Nat.le_refl _), hle, Nat.sub_self]; rfl
      have hf0 : (H.set l (URN p') ++ [.lst (LA left), .lst (LA found)])[H.length + 1]? = some (.lst (LA found)) := by
        rw [List.getElem?_append_right (by rw [hle]; omega), hle]
        have : H.length + 1 - H.length = 1 := by omega
        rw [this]; rfl
      have gi : (rngI n)[i] = .d (.int (0 + (i : Nat))) := by simp [rngI]
      have hne : left ≠ [] := fun z => by rw [z] at el; simp at el; omega
      obtain ⟨j, hj, e⟩ := turn_word (x1 := some (.d (.int n))) (x4 := some (.d (.int (0 + (i : Int))))) hne (by omega) (by omega) hl0 hc0 hf0 (by omega) (by omega) (by omega)
      refine ⟨[some (.ref l), some (.d (.int n)), some (.ref H.length), some (.ref (H.length + 1)), some (.d (.int (0 + (i : Int))))], H.set l (URN (pul p' left.length).2) ++ [.lst (LA (left.eraseIdx j)), .lst (LA (found ++ [left[j]]))], ?_, (pul p' left.length).2, left.eraseIdx j, found ++ [left[j]], _, rfl, rfl, ew.next hj, by rw [List.length_append, ef]; rfl, ?_⟩
      · rw [gi]
        refine e.trans ?_
        rw [set_l (by rw [hle]; exact hlt), List.set_set]
        have q1 := set_c (H := H.set l (URN (pul p' left.length).2)) (x := .lst (LA left)) (y := .lst (LA found)) (o := .lst (LA (left.eraseIdx j)))
        rw [List.length_set] at q1
        rw [q1]
        have q2 := set_f (H := H.set l (URN (pul p' left.length).2)) (x := .lst (LA (left.eraseIdx j))) (y := .lst (LA found)) (o := .lst (LA (found ++ [left[j]])))
        rw [List.length_set] at q2
        rw [q2]
      · rw [List.length_append, List.length_eraseIdx_of_lt hj]
        simp only [List.length_cons, List.length_nil]
        omega)
    ⟨p, WP, [], none, rfl, by rw [set_same hl], ⟨by decide +kernel, fun x hx => hx⟩, rfl, rfl⟩
  subst er eh
  have lk : (rngI n).length = n := by simp [rngI]
  rw [lk] at ef
  refine ⟨found, p', ?_, ef, (List.nodup_append.mp ew.nd).1, fun x hx => ew.mem x (List.mem_append_left _ hx)⟩
  have hle : (H.set l (URN p')).length = H.length := List.length_set
  have body : m_law_words [some (.ref l), some (.d (.int n)), none, none, none] H = some (.rt (.ref (H.length + 1)) (H.set l (URN p') ++ [.lst (LA left), .lst (LA found)])) := by
    rw [d1]
    exact (seq_nx s1).trans ((seq_nx s2).trans ((seq_nx e3).trans rfl))
  have c := cutF_LA (n := H.length) (c := H.length + 1) (h := H.set l (URN p') ++ [.lst (LA left), .lst (LA found)]) (G := H.set l (URN p')) (xs := found) (by omega) (by
      rw [List.getElem?_append_right (by rw [hle]; omega), hle]
      have : H.length + 1 - H.length = 1 := by omega
      rw [this]; rfl) (by rw [← hle, List.take_left]) (hd.set dO_urn)
  have z : fn_law_words [.ref l, .d (.int n)] H = finF H.length (m_law_words [some (.ref l), some (.d (.int n)), none, none, none] H) := mkFnF_eq rfl
  rw [z, body]
  show some (cutF H.length (.ref (H.length + 1)) _) = _
  rw [c]
end K52
set_option Elab.async false
set_option linter.all false
set_option maxRecDepth 100000
set_option maxHeartbeats 1000000
namespace K52
open PySem PySem.Spec PyProof.Rows L2 F2
theorem keys_src {m : EI} {ρ : En} {h h1 : Hh} {l : Nat} {ks : List (Str × A)} (e : m ρ h = some (.ref l, h1)) (hl : h1[l]? = some (.lK (tabL ks))) : ∃ s, srcK m ρ h = some (s, h1) ∧ s.fuel = (ks.map (·.1)).length ∧ ∀ i h, s.nxt i h = some (LA (ks.map (·.1)))[i]? := by
  refine ⟨⟨keysN (tabL ks), (tabL ks).length⟩, ?_, by simp [tabL], fun i h => ?_⟩
  · unfold srcK
    rw [e]
    dsimp only
    rw [hl]
  · show some (((tabL ks)[i]?).map fun p => A.d (keyD p.1)) = _
    unfold tabL LA
    rw [List.getElem?_map, List.getElem?_map, List.getElem?_map]
    cases ks[i]? <;> rfl
theorem mkT_LA {ys : List Str} {h : Hh} (hz : ys.length < 1000) : mkT (LA ys) h = some (.d (.tup (ys.map .str)), h) := by
  have lv := LIMv
  unfold mkT
  rw [if_pos (by rw [LA_len]; omega), allD_LA]
theorem tuple_of {x : A} {ys : List Str} {h : Hh} (e : itemsL x h = some (LA ys)) (hz : ys.length < 1000) : orC fTuple fTupD [x] h = some (.d (.tup (ys.map .str)), h) := by
  unfold orC fTuple
  dsimp only
  rw [e]
  dsimp only
  rw [mkT_LA hz]
abbrev namesOf (rows : List Row) : List Str := rows.map (·.1)
theorem take_snoc {α : Type} {xs : List α} {i : Nat} (h : i < xs.length) : xs.take (i + 1) = xs.take i ++ [xs[i]] := by
  rw [List.take_succ, List.getElem?_eq_getElem h]
  rfl
theorem un_of {f : A → Hh → Option (A × Hh)} {m : EI} {ρ : En} {h h1 : Hh} {x : A} (e : m ρ h = some (x, h1)) : mUn f m ρ h = f x h1 := by
  unfold mUn
  rw [e]
theorem Fits.snoc {pre rows : List Row} (h : Fits pre rows) {r : Row} (f : Fit (pre ++ rows) r) : Fits pre (rows ++ [r]) := by
  induction h with
  | nil => rw [List.append_nil] at f; exact .cons f .nil
  | cons g t ih =>
    refine .cons g (ih ?_)
    rw [List.append_assoc]
    exact f
theorem bl_of {m : EI} {ρ : En} {h : Hh} {k : Bool} (e : m ρ h = some (.d (.bl k), h)) : mBl m ρ h = some (k, h) := by
  unfold mBl
  rw [e]
theorem inV_strs (x : Str) : ∀ ys : List Str, inV (.str x) (ys.map V.str) = decide (x ∈ ys)
  | [] => rfl
  | y :: ys => by
    have ih := inV_strs x ys
    unfold inV at ih ⊢
    rw [List.map_cons, List.any_cons, ih]
    have e : eqV (.str y) (.str x) = decide (y = x) := by
      by_cases h : y = x <;> simp [eqV, h]
    rw [e]
    by_cases h : y = x
    · simp [h]
    · have h2 : ¬ x = y := fun z => h z.symm
      simp [h, h2]
def poolOk (x : Str) : Bool := decide (x.length ≤ 8) && (isName x && (PyData.strOk x && (decide (32 ∉ TL.tl x) && decide (59 ∉ TL.tl x))))
theorem pool_all : WP.all poolOk = true := by kernel_rfl
structure Good (x : Str) : Prop where
  len : x.length ≤ 8
  name : isName x = true
  ok : PyData.strOk x = true
  gap : 32 ∉ TL.tl x
  semi : 59 ∉ TL.tl x
theorem pool_ok {x : Str} (h : x ∈ WP) : Good x := by
  have z := List.all_eq_true.mp pool_all x h
  unfold poolOk at z
  rw [Bool.and_eq_true, Bool.and_eq_true, Bool.and_eq_true, Bool.and_eq_true] at z
  exact ⟨of_decide_eq_true z.1, z.2.1, z.2.2.1, of_decide_eq_true z.2.2.2.1, of_decide_eq_true z.2.2.2.2⟩
theorem mem_joinL {S : List Nat} {c : Nat} : ∀ {ps : List (List Nat)}, c ∈ TL.joinL S ps → c ∈ S ∨ ∃ p ∈ ps, c ∈ p
  | [], h => by cases h
  | [p], h => .inr ⟨p, by simp, h⟩
  | p :: q :: r, h => by
    have h' : c ∈ p ++ (S ++ TL.joinL S (q :: r)) := h
    rcases List.mem_append.mp h' with h1 | h1
    · exact .inr ⟨p, by simp, h1⟩
    · rcases List.mem_append.mp h1 with h2 | h2
      · exact .inl h2
      · rcases mem_joinL h2 with h3 | ⟨p', hp, hc⟩
        · exact .inl h3
        · exact .inr ⟨p', List.mem_cons_of_mem _ hp, hc⟩
theorem mem_join {y : Str} {parts : List Str} {c : Nat} (h : c ∈ TL.tl (Txt.join y parts)) : c ∈ TL.tl y ∨ ∃ p ∈ parts, c ∈ TL.tl p := by
  rw [TL.join_eq, TL.tl_join] at h
  rcases mem_joinL h with h | ⟨p, hp, hc⟩
  · exact .inl h
  · obtain ⟨q, hq, rfl⟩ := List.mem_map.mp hp
    exact .inr ⟨q, hq, hc⟩
theorem strOk_iff {x : Str} : PyData.strOk x = true ↔ ∀ c ∈ TL.tl x, c < 0x110000 := by
  unfold PyData.strOk
  rw [← Array.all_toList, List.all_eq_true]
  exact ⟨fun h c hc => of_decide_eq_true (h c hc), fun h c hc => decide_eq_true (h c hc)⟩
theorem row_semi {r : Row} (h1 : 59 ∉ TL.tl r.1) (h2 : ∀ s ∈ r.2, 59 ∉ TL.tl s) : 59 ∉ TL.tl (rowText r) := fun z => by
  rcases mem_join z with z | ⟨p, hp, z⟩
  · exact absurd z (by decide +kernel)
  · rcases List.mem_cons.mp hp with rfl | hp
    · exact h1 z
    · exact h2 p hp z
theorem rowText_ok {r : Row} (h1 : PyData.strOk r.1 = true) (h2 : ∀ s ∈ r.2, PyData.strOk s = true) : PyData.strOk (rowText r) = true := strOk_iff.mpr fun c z => by
  rcases mem_join z with z | ⟨p, hp, z⟩
  · exact (strOk_iff (x := " ")).mp (by decide +kernel) c z
  · rcases List.mem_cons.mp hp with rfl | hp
    · exact strOk_iff.mp h1 c z
    · exact strOk_iff.mp (h2 p hp) c z
theorem said_ok {rows : List Row} (h : ∀ r ∈ rows, PyData.strOk r.1 = true ∧ ∀ s ∈ r.2, PyData.strOk s = true) : PyData.strOk (said rows) = true := strOk_iff.mpr fun c z => by
  rcases mem_join z with z | ⟨p, hp, z⟩
  · exact (strOk_iff (x := "; ")).mp (by decide +kernel) c z
  · obtain ⟨r, hr, rfl⟩ := List.mem_map.mp hp
    exact strOk_iff.mp (rowText_ok (h r hr).1 (h r hr).2) c z
def Pooled (rows : List Row) : Prop := ∀ r ∈ rows, r.1 ∈ WP
theorem fit_of {rows : List Row} {r : Row} (hx : r.1 ∈ WP) (hn : r.1 ∉ namesOf rows) (hp : Pooled rows) (hs : if rows = [] then r.2 = [] else okSrc r.2 (namesOf rows) = true) (hc : ∀ s ∈ r.2, (copiesOf rows s).length < 2) : Fit rows r := by
  have hm : (∀ s ∈ r.2, s ∈ namesOf rows) ∧ r.2.length ≤ 2 := by
    split at hs
    · rw [hs]
      exact ⟨(fun s hs => by cases hs), by simp⟩
    · refine ⟨(ok_mem hs).1, ?_⟩
      unfold okSrc at hs
      split at hs
      · rename_i e; rw [e]; simp
      · rename_i e; rw [e]; simp
      · cases hs
  have hq : ∀ s ∈ r.2, Good s := fun s hs => by
    obtain ⟨q, hq, e⟩ := List.mem_map.mp (hm.1 s hs)
    rw [← e]
    exact pool_ok (hp q hq)
  have g := pool_ok hx
  exact ⟨⟨g.len, hm.2, fun s hs => (hq s hs).len⟩, g.name, hn, hs, hc, fun s hs => (hq s hs).ok, row_semi g.semi fun s hs => (hq s hs).semi, g.gap, fun s hs => (hq s hs).gap⟩
theorem last_free {rows : List Row} {r : Row} (h : Fits [] (rows ++ [r])) : copiesOf (rows ++ [r]) r.1 = [] := by
  have good := h.good (by simp) (fun q hq => by cases hq)
  rw [List.nil_append] at good
  have hn := good.1
  rw [List.map_append, List.nodup_append] at hn
  have nw : r.1 ∉ namesOf rows := fun z => hn.2.2 _ z r.1 (by simp) rfl
  unfold copiesOf
  rw [List.map_eq_nil_iff, List.filter_eq_nil_iff]
  intro q hq z
  have z := of_decide_eq_true z
  obtain ⟨i, hi⟩ := List.mem_iff_getElem?.mp hq
  have f := h.at hi
  have s := f.srcs _ z
  rw [List.nil_append] at s
  have hlt := (List.getElem?_eq_some_iff.mp hi).1
  rw [List.length_append, List.length_singleton] at hlt
  have tk : (rows ++ [r]).take i = rows.take i := by
    rw [List.take_append_of_le_length (by omega)]
  rw [tk] at s
  obtain ⟨q', hq', e⟩ := List.mem_map.mp s
  exact nw (List.mem_map.mpr ⟨q', List.mem_of_mem_take hq', e⟩)
theorem len_pos {α : Type} {xs : List α} (h : xs ≠ []) : 0 < xs.length := List.length_pos_iff.mpr h
theorem set_self {α : Type} {xs : List α} {i : Nat} {x : α} (h : xs[i]? = some x) : xs.set i x = xs := by
  have hlt := (List.getElem?_eq_some_iff.mp h).1
  apply List.ext_getElem?
  intro j
  by_cases hj : i = j
  · subst hj
    rw [List.getElem?_set_self hlt, h]
  · rw [List.getElem?_set_ne hj]
theorem set_at {α : Type} {xs : List α} {i : Nat} {x y : α} (h : xs[i]? = some x) : (xs.set i y)[i]? = some y := List.getElem?_set_self (List.getElem?_eq_some_iff.mp h).1
theorem drop_of {m : EI} {ρ : En} {h h1 : Hh} {a : A} (e : m ρ h = some (a, h1)) : mDrop m ρ h = some (.nx ρ h1) := by
  unfold mDrop
  rw [e]
theorem if_yes {t : TI'} {a b : SI} {ρ : En} {h h1 : Hh} (e : t ρ h = some (true, h1)) : mIfS t a b ρ h = a ρ h1 := by
  unfold mIfS
  rw [e]
theorem if_no {t : TI'} {a : SI} {ρ : En} {h h1 : Hh} (e : t ρ h = some (false, h1)) : mIfS t a mSkip ρ h = some (.nx ρ h1) := by
  unfold mIfS
  rw [e]
  rfl
theorem fvs_LA : ∀ ys : List Str, fvs (LA ys) = some (ys.map V.str)
  | [] => rfl
  | y :: ys => by
    show (fvs (LA ys)).map (V.str y :: ·) = _
    rw [fvs_LA ys]
    rfl
theorem and_no {a b : TI'} {ρ : En} {h h1 : Hh} (e : a ρ h = some (false, h1)) : mAndT a b ρ h = some (false, h1) := by
  unfold mAndT
  rw [e]
theorem and_yes {a b : TI'} {ρ : En} {h h1 : Hh} (e : a ρ h = some (true, h1)) : mAndT a b ρ h = b ρ h1 := by
  unfold mAndT
  rw [e]
theorem put_old {ks : List (Str × A)} {x : Str} {v : A} (h : x ∈ ks.map (·.1)) : putG (tabL ks) (.inr x : Key) v = tabL (ks.map fun k => if k.1 = x then (k.1, v) else k) := by
  unfold putG
  have e : ((tabL ks).any fun kv => decide (kv.1 = (Sum.inr x : Key))) = true := by
    rw [List.any_eq_true]
    obtain ⟨k, hk, rfl⟩ := List.mem_map.mp h
    exact ⟨(.inr k.1, k.2), List.mem_map.mpr ⟨k, hk, rfl⟩, by simp⟩
  rw [if_pos e]
  unfold tabL
  rw [List.map_map, List.map_map]
  apply List.map_congr_left
  intro k hk
  by_cases c : k.1 = x
  · simp [c]
  · simp [c]
def valK (names : List Str) (val : Str → Int) : List (Str × A) := names.map fun x => (x, .d (.int (val x)))
theorem val_names (names : List Str) (val : Str → Int) : (valK names val).map (·.1) = names := by
  unfold valK
  rw [List.map_map]
  exact List.map_id _
theorem val_at {names : List Str} (hn : names.Nodup) (val : Str → Int) {x : Str} (hx : x ∈ names) : lookG (tabL (valK names val)) (.inr x : Key) = some (.d (.int (val x))) := by
  obtain ⟨j, hj⟩ := List.mem_iff_getElem?.mp hx
  exact look_at (ks := valK names val) (by rw [val_names]; exact hn) (j := j) (k := (x, .d (.int (val x)))) (by simp [valK, hj])
theorem val_put (names : List Str) (val : Str → Int) {x : Str} (hx : x ∈ names) (v : Int) : putG (tabL (valK names val)) (.inr x : Key) (.d (.int v)) = tabL (valK names fun y => if y = x then v else val y) := by
  rw [put_old (by rw [val_names]; exact hx)]
  congr 1
  unfold valK
  rw [List.map_map]
  apply List.map_congr_left
  intro y hy
  by_cases c : y = x
  · simp [c]
  · simp [c]
theorem val_new {names : List Str} {val : Str → Int} {x : Str} (hx : x ∉ names) (v : Int) : putG (tabL (valK names val)) (.inr x : Key) (.d (.int v)) = tabL (valK (names ++ [x]) fun y => if y = x then v else val y) := by
  rw [put_new (by rw [val_names]; exact hx)]
  congr 1
  unfold valK
  rw [List.map_append]
  congr 1
  · apply List.map_congr_left
    intro y hy
    have c : ¬ y = x := fun z => hx (z ▸ hy)
    simp [c]
  · simp
theorem for_goI {items : List A} {s : Src} {turn : A → En → Hh → Option Out} {I : Nat → En → Hh → Prop} (hs : ∀ i ρ h, I i ρ h → s.nxt i h = some items[i]?)
    (step : ∀ (i : Nat) (ρ : En) (H : Hh) (hi : i < items.length), I i ρ H → ∃ ρ' H', turn items[i] ρ H = some (.nx ρ' H') ∧ I (i + 1) ρ' H') :
    ∀ (m i : Nat) (ρ : En) (H : Hh), i + m = items.length → I i ρ H → ∃ ρ' H', forGo s turn m i ρ H = some (.nx ρ' H') ∧ I items.length ρ' H' := by
  intro m
  induction m with
  | zero =>
    intro i ρ H hi h
    refine ⟨ρ, H, ?_, ?_⟩
    · unfold forGo
      rw [hs i ρ H h, List.getElem?_eq_none (by omega)]
    · have e : i = items.length := by omega
      rw [← e]; exact h
  | succ m ih =>
    intro i ρ H hi h
    have hlt : i < items.length := by omega
    obtain ⟨ρ1, H1, e1, h1⟩ := step i ρ H hlt h
    obtain ⟨ρ2, H2, e2, h2⟩ := ih (i + 1) ρ1 H1 (by omega) h1
    refine ⟨ρ2, H2, ?_, h2⟩
    unfold forGo
    rw [hs i ρ H h, List.getElem?_eq_getElem hlt]
    dsimp only
    rw [e1]
    exact e2
theorem for_itemsI {items : List A} {s : Src} {it : SrcI} {g : GI} {b : SI} {I : Nat → En → Hh → Prop} {ρ : En} {H H1 : Hh} (hs : ∀ i ρ h, I i ρ h → s.nxt i h = some items[i]?) (hf : s.fuel = items.length) (hit : it ρ H = some (s, H1))
    (step : ∀ (i : Nat) (ρ : En) (H : Hh) (hi : i < items.length), I i ρ H → ∃ ρ' H', mTurn g b items[i] ρ H = some (.nx ρ' H') ∧ I (i + 1) ρ' H') (h0 : I 0 ρ H1) : ∃ ρ' H', mFor it g b ρ H = some (.nx ρ' H') ∧ I items.length ρ' H' := by
  unfold mFor
  rw [hit]
  dsimp only
  rw [hf]
  exact for_goI hs step items.length 0 ρ H1 (by omega) h0
theorem cell_src {m : EI} {ρ : En} {h h1 : Hh} {c : Nat} {xs : List A} (e : m ρ h = some (.ref c, h1)) (hc : h1[c]? = some (.lst xs)) : srcQ m ρ h = some (⟨listN (.ref c), xs.length⟩, h1) := by
  unfold srcQ srcL
  rw [e]
  dsimp only
  rw [show itemsL (.ref c) h1 = some xs by simp [itemsL, hc]]
theorem st_key {h : Hh} {t : Nat} {kvs : List (Key × A)} {x : Str} {v : A} (ht : h[t]? = some (.dK kvs)) (hz : kvs.length < 1000) : stF (.ref t) (.d (.str x)) v h = some (h.set t (.dK (putG kvs (.inr x) v))) := by
  have lv := LIMv
  unfold stF
  dsimp only
  rw [ht]
  dsimp only
  rw [show keyOf (.str x) = some (.inr x) from rfl]
  dsimp only
  rw [if_pos (by omega)]
theorem last_row {rows : List Row} (h : rows ≠ []) : ∃ r0 r, rows = r0 ++ [r] := ⟨rows.dropLast, rows.getLast h, (List.dropLast_concat_getLast h).symm⟩
theorem src_of {names ss : List Str} (h : ∀ s ∈ ss, s ∈ names) (hd : ss.Nodup) (hl : ss.length ≤ 2) (hne : ss ≠ []) : okSrc ss names = true := by
  match ss, h, hd, hl, hne with
  | [], _, _, _, z => exact absurd rfl z
  | [a], h, _, _, _ => exact decide_eq_true (h a (by simp))
  | [a, b], h, hd, _, _ =>
    simp at hd
    show (decide (a ∈ names) && (decide (b ∈ names) && !decide (a = b))) = true
    rw [decide_eq_true (h a (by simp)), decide_eq_true (h b (by simp)), decide_eq_false hd]
    rfl
  | _ :: _ :: _ :: _, _, _, hl, _ => simp at hl
theorem cutF_D {n c : Nat} {h G : Hh} {xs : List D} (hn : n ≤ c) (hc : h[c]? = some (.lst (xs.map A.d))) (ht : h.take n = G) (hd : DH G) : cutF n (.ref c) h = (.d (.lst xs), G) := by
  unfold cutF
  dsimp only
  rw [ht, if_pos ⟨hn, hd.low⟩, hc]
  dsimp only
  rw [allD_map]
end K52
set_option Elab.async false
set_option linter.all false
set_option maxRecDepth 100000
set_option maxHeartbeats 1000000
namespace K52
open PySem PySem.Spec PyProof.Rows L2 F2
/-! ### how often each name is used -/
def cnt (rows : List Row) (x : Str) : Int := ((copiesOf rows x).length : Int)
def usedK (rows : List Row) : List (Str × A) := valK (namesOf rows) (cnt rows)
theorem used_names (rows : List Row) : (usedK rows).map (·.1) = namesOf rows := val_names _ _
structure Bs (H : Hh) (l : Nat) (p : U3) (rows : List Row) (ks : List (Str × A)) (h : Hh) : Prop where
  lt : l < H.length
  len : H.length + 2 ≤ h.length
  old : ∀ k, k < H.length → h[k]? = (H.set l (URN p))[k]?
  fnd : h[H.length]? = some (.lst ((rows.map rowD).map A.d))
  tab : h[H.length + 1]? = some (.dK (tabL ks))
section
variable {H : Hh} {l : Nat} {p : U3} {rows : List Row} {ks : List (Str × A)} {h : Hh}
theorem Bs.urn (b : Bs H l p rows ks h) : h[l]? = some (URN p) := by
  rw [b.old l b.lt]
  exact List.getElem?_set_self b.lt
theorem Bs.setP (b : Bs H l p rows ks h) (p' : U3) : Bs H l p' rows ks (h.set l (URN p')) where
  lt := b.lt
  len := by rw [List.length_set]; exact b.len
  old := fun k hk => by
    by_cases e : l = k
    · subst e
      rw [set_at b.urn, List.getElem?_set_self hk]
    · rw [List.getElem?_set_ne e, List.getElem?_set_ne e, b.old k hk, List.getElem?_set_ne e]
  fnd := by rw [List.getElem?_set_ne (by have := b.lt; omega)]; exact b.fnd
  tab := by rw [List.getElem?_set_ne (by have := b.lt; omega)]; exact b.tab
theorem Bs.setC (b : Bs H l p rows ks h) {c : Nat} (hc : H.length + 1 < c) (o : O) : Bs H l p rows ks (h.set c o) where
  lt := b.lt
  len := by rw [List.length_set]; exact b.len
  old := fun k hk => by rw [List.getElem?_set_ne (by omega)]; exact b.old k hk
  fnd := by rw [List.getElem?_set_ne (by omega)]; exact b.fnd
  tab := by rw [List.getElem?_set_ne (by omega)]; exact b.tab
theorem Bs.app (b : Bs H l p rows ks h) (o : O) : Bs H l p rows ks (h ++ [o]) where
  lt := b.lt
  len := by rw [List.length_append]; have := b.len; omega
  old := fun k hk => by rw [List.getElem?_append_left (by have := b.len; omega)]; exact b.old k hk
  fnd := by rw [List.getElem?_append_left (by have := b.len; omega)]; exact b.fnd
  tab := by rw [List.getElem?_append_left (by have := b.len; omega)]; exact b.tab
theorem Bs.setT (b : Bs H l p rows ks h) (ks' : List (Str × A)) : Bs H l p rows ks' (h.set (H.length + 1) (.dK (tabL ks'))) where
  lt := b.lt
  len := by rw [List.length_set]; exact b.len
  old := fun k hk => by rw [List.getElem?_set_ne (by omega)]; exact b.old k hk
  fnd := by rw [List.getElem?_set_ne (by omega)]; exact b.fnd
  tab := set_at b.tab
theorem Bs.setF (b : Bs H l p rows ks h) (rows' : List Row) : Bs H l p rows' ks (h.set H.length (.lst ((rows'.map rowD).map A.d))) where
  lt := b.lt
  len := by rw [List.length_set]; exact b.len
  old := fun k hk => by rw [List.getElem?_set_ne (by omega)]; exact b.old k hk
  fnd := set_at b.fnd
  tab := by rw [List.getElem?_set_ne (by omega)]; exact b.tab
theorem Bs.pull (b : Bs H l p rows ks h) {m : Int} (h0 : 0 < m) (h1 : m < 1073741824) {e : EI} {r : En} (em : e (some (.ref l) :: r) h = some (.d (.int m), h)) :
    mCall 2 fn_law_pull (mCons (mVar 0) (mCons e mNil)) (some (.ref l) :: r) h = some (.d (.int (pul p m).1), h.set l (URN (pul p m).2)) :=
  (call_of (n := 2) (F := fn_law_pull) (cons_of (show mVar 0 (some (.ref l) :: r) h = some (.ref l, h) from rfl) (cons_of em (show mNil (some (.ref l) :: r) h = some ([], h) from rfl))) rfl).trans (pull_eq h0 h1 b.urn)
theorem Bs.ne (b : Bs H l p rows ks h) {c : Nat} (hc : H.length + 1 < c) : l ≠ c := by have := b.lt; omega
end
/-! ### the free names -/
def isFree (rows : List Row) (x : Str) : Bool := decide (cnt rows x < 2)
def freeOf (rows : List Row) : List Str := (namesOf rows).filter (isFree rows)
theorem mem_free {rows : List Row} {x : Str} (h : x ∈ freeOf rows) : x ∈ namesOf rows ∧ (copiesOf rows x).length < 2 := by
  unfold freeOf at h
  rw [List.mem_filter] at h
  refine ⟨h.1, ?_⟩
  have := of_decide_eq_true h.2
  unfold cnt at this
  omega
def t_free : TI' := (mBl (mBin fLt (mBin fIx (mVar 5) (mVar 8)) (mC (.int 2))))
def e_free : EI := (mLc true (srcK (mVar 5)) (gN 8) t_free (mVar 8) [8])
theorem free_ok {rows : List Row} {t : Nat} {h : Hh} (ht : h[t]? = some (.dK (tabL (usedK rows)))) (hn : (namesOf rows).Nodup) (hz : rows.length ≤ 40) (x0 x1 x2 x3 x4 x6 x7 x8 x9 x10 : Option A) :
    mLockS 5 (mAsg e_free (gN 7)) [x0, x1, x2, x3, x4, some (.ref t), x6, x7, x8, x9, x10] h = some (.nx [x0, x1, x2, x3, x4, some (.ref t), x6, some (.ref h.length), x8, x9, x10] (h ++ [.lst (LA (freeOf rows))])) := by
  have hlt := (List.getElem?_eq_some_iff.mp ht).1
  let hL : Hh := h.set t (.lK (tabL (usedK rows)))
  have hL1 : hL[t]? = some (.lK (tabL (usedK rows))) := List.getElem?_set_self hlt
  have hLl : hL.length = h.length := List.length_set
  obtain ⟨s, e1, e2, e3⟩ := keys_src (m := mVar 5) (ρ := [x0, x1, x2, x3, x4, some (.ref t), x6, x7, x8, x9, x10]) (h := hL) (h1 := hL) (l := t) rfl hL1
  rw [used_names] at e2 e3
  have tb : F2.tabOf (.ref t) hL = some (.k (tabL (usedK rows))) := by simp only [F2.tabOf, hL1]
  obtain ⟨acc, H', ⟨ea, eh⟩, e4⟩ := lc_items (items := LA (namesOf rows)) (g := gN 8) (t := t_free) (m := mVar 8) (vs := [8]) (I := fun i acc h => acc = LA (((namesOf rows).take i).filter (isFree rows)) ∧ h = hL) e3 (by rw [e2, LA_len]) e1
    (fun i acc h' hi ⟨ea, eh⟩ => by
      subst eh
      have hi' : i < rows.length := by rw [LA_len, List.length_map] at hi; exact hi
      have hi2 : i < (namesOf rows).length := by rw [List.length_map]; exact hi'
      have gi : (LA (namesOf rows))[i] = .d (.str rows[i].1) := by simp [LA]
      have ni : (namesOf rows)[i] = rows[i].1 := by simp
      have mi : rows[i].1 ∈ namesOf rows := by rw [← ni]; exact List.getElem_mem hi2
      have e5 := at_tab tb (val_at hn (cnt rows) mi)
      let ρ1 : En := [x0, x1, x2, x3, x4, some (.ref t), x6, x7, some (.d (.str rows[i].1)), x9, x10]
      have a1 : mBin fIx (mVar 5) (mVar 8) ρ1 hL = some (.d (.int (cnt rows rows[i].1)), hL) := (bin_of (show mVar 5 ρ1 hL = some (.ref t, hL) from rfl) (show mVar 8 ρ1 hL = some (.d (.str rows[i].1), hL) from rfl)).trans e5
      have t1 : t_free ρ1 hL = some (isFree rows rows[i].1, hL) := bl_of ((bin_of (f := fLt) a1 (show mC (.int 2) ρ1 hL = some (.d (.int 2), hL) from rfl)).trans rfl)
      refine ⟨ρ1, hL, isFree rows rows[i].1, hL, by rw [gi]; rfl, t1, fun z => ⟨?_, rfl⟩, fun z => ⟨.d (.str rows[i].1), hL, rfl, ⟨?_, rfl⟩, ?_⟩⟩
      · rw [ea, take_snoc hi2, List.filter_append, ni, List.filter_cons, z]
        simp
      · rw [ea, take_snoc hi2, List.filter_append, ni, List.filter_cons, z, LA_snoc]
        simp
      · rw [ea, LA_len]
        have := List.length_filter_le (isFree rows) ((namesOf rows).take i)
        rw [List.length_take, List.length_map] at this
        omega) ⟨rfl, rfl⟩
  subst eh
  rw [LA_len, List.take_length] at ea
  have hle : (freeOf rows).length ≤ 40 := by
    unfold freeOf
    have := List.length_filter_le (isFree rows) (namesOf rows)
    rw [List.length_map] at this
    omega
  have l1 : e_free [x0, x1, x2, x3, x4, some (.ref t), x6, x7, x8, x9, x10] hL = some (.ref h.length, hL ++ [.lst (LA (freeOf rows))]) := by
    unfold e_free
    rw [e4 true, ea, mkL_cell (by rw [LA_len]; unfold freeOf at hle; omega), hLl]
    rfl
  have back : (hL ++ [O.lst (LA (freeOf rows))]).set t (.dK (tabL (usedK rows))) = h ++ [.lst (LA (freeOf rows))] := by
    rw [List.set_append_left _ _ (by rw [hLl]; exact hlt)]
    simp only [hL]
    rw [List.set_set, set_same ht]
  have hL2 : (hL ++ [O.lst (LA (freeOf rows))])[t]? = some (.lK (tabL (usedK rows))) := by
    rw [List.getElem?_append_left (by rw [hLl]; exact hlt)]; exact hL1
  have a1 := asg_N (i := 7) l1
  unfold mLockS
  simp only [List.getElem?_cons_succ, List.getElem?_cons_zero, ht]
  rw [show h.set t (.lK (tabL (usedK rows))) = hL from rfl, a1]
  simp only [Out.heap, hL2, Out.to, back]
  rfl
/-- a cell of names that is empty, or not -/
theorem strs_py : ∀ xs : List Str, toPys (xs.map .str) = some (xs.map PyData.str)
  | [] => by simp [toPys]
  | x :: xs => by simp [toPys, toPy, strs_py xs]
theorem shaped_strs {xs : List Str} (ho : ∀ x ∈ xs, PyData.strOk x = true) : SeqAt.shaped (.list (xs.map PyData.str)) = true := by
  have a : PyData.canLayAll0 (xs.map PyData.str) = true := by
    induction xs with
    | nil => simp [PyData.canLayAll0]
    | cons x xs ih => simp [PyData.canLayAll0, PyData.canLay0, ho x List.mem_cons_self, ih fun y hy => ho y (List.mem_cons_of_mem _ hy)]
  have b : ∀ ys : List Str, PyData.depthAll (ys.map PyData.str) ≤ 0 := by
    intro ys
    induction ys with
    | nil => simp [PyData.depthAll]
    | cons x ys ih => simp only [List.map_cons, PyData.depthAll, PyData.depth]; omega
  unfold SeqAt.shaped
  rw [Bool.and_eq_true, decide_eq_true_eq]
  refine ⟨by simp only [PyData.canLay0]; exact a, ?_⟩
  simp only [PyData.depth]
  have := b xs
  omega
theorem cell_ne {xs : List Str} (ho : ∀ x ∈ xs, PyData.strOk x = true) {h : Hh} {c : Nat} (hc : h[c]? = some (.lst (LA xs))) : fEqD true (.ref c) (.d (.lst [])) h = some (.d (.bl (!decide (xs = []))), h) := by
  have e1 : pyOf (.ref c) h = some (.list (xs.map PyData.str)) := by
    unfold pyOf
    dsimp only
    rw [show itemsL (.ref c) h = some (LA xs) by simp [itemsL, hc]]
    dsimp only
    rw [allD_LA]
    dsimp only
    rw [strs_py]
    rfl
  have e2 : pyOf (.d (.lst [])) h = some (.list []) := by simp [pyOf, toPy, toPys]
  have s2 : SeqAt.shaped (.list []) = true := by simp [SeqAt.shaped, PyData.canLay0, PyData.canLayAll0, PyData.depth, PyData.depthAll]
  unfold fEqD
  rw [e1, e2]
  dsimp only
  rw [shaped_strs ho, s2]
  cases xs with
  | nil => simp [PyData.eqv, PyData.eqvAll]
  | cons r xs => simp [PyData.eqv, PyData.eqvAll]
end K52
set_option Elab.async false
set_option linter.all false
set_option maxRecDepth 100000
set_option maxHeartbeats 1000000
namespace K52
open PySem PySem.Spec PyProof.Rows L2 F2
def e_len (i : Nat) : EI := mOn (orC fLen fLenD) (mCons (mVar i) mNil)
def e_min3 : EI := (mOn fMin2 (mCons (mC (.int 3)) (mCons (e_len 7) mNil)))
def e_pull3 : EI := (mCall 2 fn_law_pull (mCons (mVar 0) (mCons e_min3 mNil)))
def e_ix : EI := (mBin fSub (mBin fSub (e_len 7) (mC (.int 1))) e_pull3)
theorem elen_cell {i : Nat} {ρ : En} {h : Hh} {c : Nat} {xs : List Str} (v : mVar i ρ h = some (.ref c, h)) (hc : h[c]? = some (.lst (LA xs))) : e_len i ρ h = some (.d (.int xs.length), h) := by
  have z := len_eq hc
  rw [LA_len] at z
  exact (on_of (cons_of v (show mNil ρ h = some ([], h) from rfl))).trans z
section
variable {H : Hh} {l : Nat} {p : U3} {rows : List Row} {ks : List (Str × A)} {h : Hh}
theorem Bs.ix (b : Bs H l p rows ks h) {cf : Nat} {fr : List Str} (hf : h[cf]? = some (.lst (LA fr))) (h0 : fr ≠ []) (h1 : fr.length < 1000) {r : En} (v7 : mVar 7 (some (.ref l) :: r) h = some (.ref cf, h)) :
    ∃ (i : Nat) (p' : U3), i < fr.length ∧ e_ix (some (.ref l) :: r) h = some (.d (.int i), h.set l (URN p')) := by
  have hp := len_pos h0
  have ln := elen_cell v7 hf
  have s1 : mBin fSub (e_len 7) (mC (.int 1)) (some (.ref l) :: r) h = some (.d (.int ((fr.length : Int) - 1)), h) := (bin_of (f := fSub) ln (show mC (.int 1) (some (.ref l) :: r) h = some (.d (.int 1), h) from rfl)).trans rfl
  have m3 : e_min3 (some (.ref l) :: r) h = some (.d (.int (if (fr.length : Int) < 3 then (fr.length : Int) else 3)), h) := (on_of (cons_of (show mC (.int 3) (some (.ref l) :: r) h = some (.d (.int 3), h) from rfl) (cons_of ln (show mNil (some (.ref l) :: r) h = some ([], h) from rfl)))).trans rfl
  generalize hm : (if (fr.length : Int) < 3 then (fr.length : Int) else 3) = m at m3
  have m0 : 0 < m := by rw [← hm]; split <;> omega
  have m1 : m ≤ fr.length := by rw [← hm]; split <;> omega
  have m2 : m ≤ 3 := by rw [← hm]; split <;> omega
  have lo := pul_lo (p := p) m0
  have hi := pul_hi (p := p) m0
  have s2 : e_ix (some (.ref l) :: r) h = some (.d (.int ((fr.length : Int) - 1 - (pul p m).1)), h.set l (URN (pul p m).2)) := (bin_of (f := fSub) s1 (b.pull m0 (by omega) m3)).trans rfl
  obtain ⟨i, hi2⟩ := Int.eq_ofNat_of_zero_le (show 0 ≤ (fr.length : Int) - 1 - (pul p m).1 by omega)
  rw [hi2] at s2
  exact ⟨i, (pul p m).2, by omega, s2⟩
def t_ne (i : Nat) : TI' := (mBl (mBin (fEqD true) (mVar i) (mOn (mkL false) mNil)))
theorem tne_ok {i : Nat} {ρ : En} {c : Nat} {xs : List Str} (v : mVar i ρ h = some (.ref c, h)) (hc : h[c]? = some (.lst (LA xs))) (ho : ∀ x ∈ xs, PyData.strOk x = true) : t_ne i ρ h = some (!decide (xs = []), h) :=
  bl_of ((bin_of (f := fEqD true) v (nil_data ρ h)).trans (cell_ne ho hc))
def e_some : EI := (mIf (t_ne 7) (mOn (mkL true) (mCons (mMet "list" fPopAt (mVar 7) (mCons e_ix mNil)) mNil)) (mOn (mkL true) mNil))
/-- the sources drawn first, and what is left free -/
structure Drawn (rows : List Row) (fr ss : List Str) : Prop where
  free : ∀ s ∈ ss, s ∈ freeOf rows
  left : ∀ s ∈ fr, s ∈ freeOf rows
  nd : ss.Nodup
  apart : ∀ s ∈ fr, s ∉ ss
theorem Bs.e_some (b : Bs H l p rows ks h) (ok : ∀ x ∈ namesOf rows, PyData.strOk x = true) (hn : (namesOf rows).Nodup) (hz : rows.length ≤ 40) {cf : Nat} (gt : H.length + 1 < cf) (hf : h[cf]? = some (.lst (LA (freeOf rows)))) {r : En} (v7 : ∀ h, mVar 7 (some (.ref l) :: r) h = some (.ref cf, h)) :
    ∃ (p' : U3) (fr ss : List Str) (h' : Hh) (cs : Nat), K52.e_some (some (.ref l) :: r) h = some (.ref cs, h') ∧ Bs H l p' rows ks h' ∧ h'[cf]? = some (.lst (LA fr)) ∧ h'[cs]? = some (.lst (LA ss)) ∧ cf < cs ∧ Drawn rows fr ss ∧ ss.length ≤ 1 ∧ fr.length ≤ 40 := by
  have sub : ∀ x ∈ freeOf rows, x ∈ namesOf rows := fun x hx => (mem_free hx).1
  have hle : (freeOf rows).length ≤ 40 := by
    unfold freeOf
    have := List.length_filter_le (isFree rows) (namesOf rows)
    rw [List.length_map] at this
    omega
  have fd : (freeOf rows).Nodup := hn.filter _
  have t := tne_ok (i := 7) (v7 h) hf fun x hx => ok x (sub x hx)
  have hcl := (List.getElem?_eq_some_iff.mp hf).1
  by_cases z : freeOf rows = []
  · rw [decide_eq_true z] at t
    refine ⟨p, freeOf rows, [], h ++ [.lst []], h.length, ?_, b.app _, ?_, ?_, hcl, ⟨by simp, fun s hs => hs, by simp, by simp⟩, by simp, hle⟩
    · unfold K52.e_some mIf
      rw [t]
      exact nil_cell _ h
    · rw [List.getElem?_append_left hcl]; exact hf
    · rw [List.getElem?_append_right (by omega)]; simp [LA]
  · rw [decide_eq_false z] at t
    obtain ⟨i, p', hi, e⟩ := b.ix hf z (by omega) (v7 h)
    have b1 := b.setP p'
    have hf1 : (h.set l (URN p'))[cf]? = some (.lst (LA (freeOf rows))) := by rw [List.getElem?_set_ne (b.ne gt)]; exact hf
    have pp := popAt_eq hf1 (i := i) (by rw [LA_len]; exact hi) (by rw [LA_len]; omega)
    have er : (LA (freeOf rows)).eraseIdx i = LA ((freeOf rows).eraseIdx i) := map_erase _ _ _
    have eg : (LA (freeOf rows))[i]'(by rw [LA_len]; exact hi) = .d (.str (freeOf rows)[i]) := by simp [LA]
    rw [er, eg] at pp
    have e2 := (met_of (T := "list") (F := fPopAt) (v7 h) (isT_list hf) (cons_of e (show mNil (some (.ref l) :: r) (h.set l (URN p')) = some ([], h.set l (URN p')) from rfl))).trans pp
    have pm := erase_perm (l := freeOf rows) hi
    have nd2 := pm.nodup_iff.mpr fd
    rw [List.nodup_cons] at nd2
    let h2 := (h.set l (URN p')).set cf (.lst (LA ((freeOf rows).eraseIdx i)))
    have b2 : Bs H l p' rows ks h2 := b1.setC gt _
    have hl2 : h2.length = h.length := by simp only [h2]; rw [List.length_set, List.length_set]
    have e3 : mOn (mkL true) (mCons (mMet "list" fPopAt (mVar 7) (mCons e_ix mNil)) mNil) (some (.ref l) :: r) h = some (.ref h2.length, h2 ++ [.lst (LA [(freeOf rows)[i]])]) :=
      (on_of (cons_of e2 (show mNil (some (.ref l) :: r) h2 = some ([], h2) from rfl))).trans (mkL_cell (by simp))
    refine ⟨p', (freeOf rows).eraseIdx i, [(freeOf rows)[i]], h2 ++ [.lst (LA [(freeOf rows)[i]])], h2.length, ?_, b2.app _, ?_, ?_, by rw [hl2]; exact hcl, ⟨?_, ?_, by simp, ?_⟩, by simp, ?_⟩
    · unfold K52.e_some mIf
      rw [t]
      exact e3
    · rw [List.getElem?_append_left (by rw [hl2]; exact hcl)]
      exact set_at hf1
    · rw [List.getElem?_append_right (Nat.le_refl _)]; simp
    · intro s hs
      rw [List.mem_singleton.mp hs]; exact List.getElem_mem hi
    · intro s hs
      exact pm.mem_iff.mp (List.mem_cons_of_mem _ hs)
    · intro s hs z
      rw [List.mem_singleton.mp z] at hs
      exact nd2.1 hs
    · rw [List.length_eraseIdx_of_lt hi]; omega
/-! ### the last row's sources -/
def e_last : EI := (mBin fIx (mBin fIx (mVar 4) (mUn fNeg (mC (.int 1)))) (mC (.int 1)))
theorem Bs.e_last (b : Bs H l p rows ks h) {r0 : List Row} {q : Row} (e : rows = r0 ++ [q]) {ρ : En} (v4 : mVar 4 ρ h = some (.ref H.length, h)) : K52.e_last ρ h = some (.d (.tup (q.2.map .str)), h) := by
  have a1 : mUn fNeg (mC (.int 1)) ρ h = some (.d (.int (-1)), h) := rfl
  have a2 : fIx (.ref H.length) (.d (.int (-1))) h = some (.d (rowD q), h) := by
    have hl : ((rows.map rowD).map A.d).length = r0.length + 1 := by rw [e]; simp
    have hx : L2.atI ((rows.map rowD).map A.d) (-1) = some (.d (rowD q)) := by
      unfold L2.atI
      have : ixN ((rows.map rowD).map A.d).length (-1) = some r0.length := by
        rw [hl]
        unfold ixN
        simp
        omega
      rw [this]
      show ((rows.map rowD).map A.d)[r0.length]? = _
      rw [e]; simp
    simp only [fIx, orF, fIxS, itemsL, b.fnd, hx, Option.map_some]
  have a3 : fIx (.d (rowD q)) (.d (.int 1)) h = some (.d (.tup (q.2.map .str)), h) := by
    simp [fIx, orF, fIxS, itemsL, rowD, L2.atI, ixN]
  exact (bin_of ((bin_of v4 a1).trans a2) (show mC (.int 1) ρ h = some (.d (.int 1), h) from rfl)).trans a3
end
end K52
set_option Elab.async false
set_option linter.all false
set_option maxRecDepth 100000
set_option maxHeartbeats 1000000
namespace K52
open PySem PySem.Spec PyProof.Rows L2 F2
def e_cnts : EI := (mLc false (srcQ (mVar 10)) (gN 8) mYes (mBin fIx (mVar 5) (mVar 8)) [8])
def t_pos : TI' := (mBl (mBin fGt (mVar 2) (mC (.int 0))))
def t_two : TI' := (mBl (mBin (fEqD false) (e_len 10) (mC (.int 2))))
def t_max : TI' := (mBl (mBin fLt (mOn fMaxL (mCons e_cnts mNil)) (mC (.int 2))))
def e_pul (m : Int) : EI := mCall 2 fn_law_pull (mCons (mVar 0) (mCons (mC (.int m)) mNil))
def t_pul0 : TI' := (mBl (mBin (fEqD false) (e_pul 2) (mC (.int 0))))
def t_pul3 : TI' := (mBl (mBin fGt (e_pul 3) (mC (.int 0))))
def t_dup : TI' := mAndT t_pos (mAndT t_two (mAndT t_max t_pul0))
def t_app : TI' := mAndT t_pos (mAndT (t_ne 9) (mAndT (t_ne 7) t_pul3))
def b_dup : SI := (mAsg (mOn (fList true) (mCons (mVar 10) mNil)) (gN 9))
def b_app : SI := (mDrop (mMet "list" fAppend (mVar 9) (mCons (mBin fIx (mVar 7) e_ix) mNil)))
def b_more : SI := mIfS t_dup b_dup (mIfS t_app b_app mSkip)
theorem if_else {t : TI'} {a b : SI} {ρ : En} {h h1 : Hh} (e : t ρ h = some (false, h1)) : mIfS t a b ρ h = b ρ h1 := by
  unfold mIfS
  rw [e]
section
variable {H : Hh} {l : Nat} {p : U3} {rows : List Row} {h : Hh}
theorem Bs.pulE (b : Bs H l p rows ks h) {m : Int} (h0 : 0 < m) (h1 : m < 1073741824) (r : En) : e_pul m (some (.ref l) :: r) h = some (.d (.int (pul p m).1), h.set l (URN (pul p m).2)) := b.pull h0 h1 rfl
theorem cnts_ok {ss : List Str} {t : Nat} (ht : h[t]? = some (.dK (tabL (usedK rows)))) (hn : (namesOf rows).Nodup) (hs : ∀ s ∈ ss, s ∈ namesOf rows) (hz : ss.length < 500) (x0 x1 x2 x3 x4 x6 x7 x8 x9 : Option A) :
    e_cnts [x0, x1, x2, x3, x4, some (.ref t), x6, x7, x8, x9, some (.d (.tup (ss.map .str)))] h = some (.d (.lst (ss.map fun s => .int (cnt rows s))), h) := by
  have tb : F2.tabOf (.ref t) h = some (.k (tabL (usedK rows))) := by simp only [F2.tabOf, ht]
  obtain ⟨s, q1, q2, q3⟩ := sq_src (b := true) (xs := ss) (m := mVar 10) (ρ := [x0, x1, x2, x3, x4, some (.ref t), x6, x7, x8, x9, some (.d (.tup (ss.map .str)))]) (h := h) (h1 := h) rfl
  obtain ⟨acc, H', ⟨ea, eh⟩, e4⟩ := lc_items (items := LA ss) (g := gN 8) (t := mYes) (m := mBin fIx (mVar 5) (mVar 8)) (vs := [8]) (I := fun i acc h' => acc = ((ss.take i).map fun s => D.int (cnt rows s)).map A.d ∧ h' = h) q3 q2 q1
    (fun i acc h' hi ⟨ea, eh⟩ => by
      subst eh
      have hi' : i < ss.length := by rw [LA_len] at hi; exact hi
      have gi : (LA ss)[i] = .d (.str ss[i]) := by simp [LA]
      let ρ1 : En := [x0, x1, x2, x3, x4, some (.ref t), x6, x7, some (.d (.str ss[i])), x9, some (.d (.tup (ss.map .str)))]
      have a1 : mBin fIx (mVar 5) (mVar 8) ρ1 h' = some (.d (.int (cnt rows ss[i])), h') := (bin_of (show mVar 5 ρ1 h' = some (.ref t, h') from rfl) (show mVar 8 ρ1 h' = some (.d (.str ss[i]), h') from rfl)).trans (at_tab tb (val_at hn (cnt rows) (hs _ (List.getElem_mem hi'))))
      refine ⟨ρ1, h', true, h', by rw [gi]; rfl, rfl, (fun z => by cases z), fun _ => ⟨_, h', a1, ⟨?_, rfl⟩, ?_⟩⟩
      · rw [ea, take_snoc hi', List.map_append, List.map_append]; rfl
      · rw [ea, List.length_map, List.length_map, List.length_take]; omega) ⟨rfl, rfl⟩
  subst eh
  rw [LA_len, List.take_length] at ea
  unfold e_cnts
  rw [e4 false, ea, mkL_data (by rw [List.length_map]; omega)]
theorem intsA_map : ∀ (ns : List Int), intsA ((ns.map D.int).map A.d) = some ns
  | [] => rfl
  | n :: ns => by
    show (intsA ((ns.map D.int).map A.d)).map (n :: ·) = _
    rw [intsA_map ns]; rfl
theorem Bs.dup (b : Bs H l p rows (usedK rows) h) (hn : (namesOf rows).Nodup) {ss : List Str} (hs : ∀ s ∈ ss, s ∈ namesOf rows) (hz : ss.length ≤ 2) (j : Int) (x1 x3 x4 x6 x7 x8 x9 : Option A) :
    ∃ k p', t_dup [some (.ref l), x1, some (.d (.int j)), x3, x4, some (.ref (H.length + 1)), x6, x7, x8, x9, some (.d (.tup (ss.map .str)))] h = some (k, h.set l (URN p')) ∧ (k = true → ss.length = 2 ∧ ∀ s ∈ ss, cnt rows s < 2) := by
  let ρ : En := [some (.ref l), x1, some (.d (.int j)), x3, x4, some (.ref (H.length + 1)), x6, x7, x8, x9, some (.d (.tup (ss.map .str)))]
  have same : h.set l (URN p) = h := set_self b.urn
  have g1 : t_pos ρ h = some (decide ((0 : Int) < j), h) := bl_of ((bin_of (f := fGt) (show mVar 2 ρ h = some (.d (.int j), h) from rfl) (show mC (.int 0) ρ h = some (.d (.int 0), h) from rfl)).trans rfl)
  have el : e_len 10 ρ h = some (.d (.int ss.length), h) := (on_of (cons_of (show mVar 10 ρ h = some (.d (.tup (ss.map .str)), h) from rfl) (show mNil ρ h = some ([], h) from rfl))).trans (sq_len (b := true))
  have g2 : t_two ρ h = some (decide ((ss.length : Int) = 2), h) := bl_of ((bin_of (f := fEqD false) el (show mC (.int 2) ρ h = some (.d (.int 2), h) from rfl)).trans (int_eq _ _ _))
  by_cases z1 : (0 : Int) < j
  · rw [decide_eq_true z1] at g1
    by_cases z2 : (ss.length : Int) = 2
    · rw [decide_eq_true z2] at g2
      have ec := cnts_ok b.tab hn hs (by omega) (some (.ref l)) x1 (some (.d (.int j))) x3 x4 x6 x7 x8 x9
      have hne : ss.map (cnt rows) ≠ [] := fun z => by
        have := congrArg List.length z
        rw [List.length_map] at this
        simp at this
        rw [this] at z2
        simp at z2
      have em : mOn fMaxL (mCons e_cnts mNil) ρ h = some (.d (.int (maxI (ss.map (cnt rows)))), h) := by
        rw [on_of (cons_of ec (show mNil ρ h = some ([], h) from rfl))]
        unfold fMaxL
        have e1 : itemsL (.d (.lst (ss.map fun s => .int (cnt rows s)))) h = some (((ss.map (cnt rows)).map D.int).map A.d) := by
          show some ((ss.map fun s => D.int (cnt rows s)).map A.d) = _
          rw [List.map_map, List.map_map, List.map_map]; rfl
        dsimp only
        rw [e1]
        dsimp only
        rw [intsA_map]
        dsimp only
        rw [if_neg hne]
      have g3 : t_max ρ h = some (decide (maxI (ss.map (cnt rows)) < 2), h) := bl_of ((bin_of (f := fLt) em (show mC (.int 2) ρ h = some (.d (.int 2), h) from rfl)).trans rfl)
      by_cases z3 : maxI (ss.map (cnt rows)) < 2
      · rw [decide_eq_true z3] at g3
        have g4 : t_pul0 ρ h = some (decide ((pul p 2).1 = 0), h.set l (URN (pul p 2).2)) := by
          unfold t_pul0 mBl
          rw [(bin_of (f := fEqD false) (b.pulE (m := 2) (by omega) (by omega) _) (show mC (.int 0) ρ (h.set l (URN (pul p 2).2)) = some (.d (.int 0), h.set l (URN (pul p 2).2)) from rfl)).trans (int_eq _ _ _)]
        refine ⟨_, _, (and_yes g1).trans ((and_yes g2).trans ((and_yes g3).trans g4)), fun _ => ⟨by omega, fun s hs' => ?_⟩⟩
        have := (maxI_spec hne).2 _ (List.mem_map_of_mem hs')
        omega
      · rw [decide_eq_false z3] at g3
        refine ⟨false, p, ?_, fun z => by cases z⟩
        rw [same]
        exact (and_yes g1).trans ((and_yes g2).trans (and_no g3))
    · rw [decide_eq_false z2] at g2
      refine ⟨false, p, ?_, fun z => by cases z⟩
      rw [same]
      exact (and_yes g1).trans (and_no g2)
  · rw [decide_eq_false z1] at g1
    refine ⟨false, p, ?_, fun z => by cases z⟩
    rw [same]
    exact and_no g1
theorem Bs.tapp (b : Bs H l p rows ks h) {cf cs : Nat} {fr ss : List Str} (hf : h[cf]? = some (.lst (LA fr))) (hc : h[cs]? = some (.lst (LA ss))) (ok1 : ∀ x ∈ fr, PyData.strOk x = true) (ok2 : ∀ x ∈ ss, PyData.strOk x = true) (j : Int) (x1 x3 x4 x5 x6 x8 x10 : Option A) :
    ∃ k p', t_app [some (.ref l), x1, some (.d (.int j)), x3, x4, x5, x6, some (.ref cf), x8, some (.ref cs), x10] h = some (k, h.set l (URN p')) ∧ (k = true → fr ≠ []) := by
  let ρ : En := [some (.ref l), x1, some (.d (.int j)), x3, x4, x5, x6, some (.ref cf), x8, some (.ref cs), x10]
  have same : h.set l (URN p) = h := set_self b.urn
  have g1 : t_pos ρ h = some (decide ((0 : Int) < j), h) := bl_of ((bin_of (f := fGt) (show mVar 2 ρ h = some (.d (.int j), h) from rfl) (show mC (.int 0) ρ h = some (.d (.int 0), h) from rfl)).trans rfl)
  have g2 := tne_ok (i := 9) (ρ := ρ) rfl hc ok2
  have g3 := tne_ok (i := 7) (ρ := ρ) rfl hf ok1
  have g4 : t_pul3 ρ h = some (decide ((0 : Int) < (pul p 3).1), h.set l (URN (pul p 3).2)) := by
    unfold t_pul3 mBl
    rw [(bin_of (f := fGt) (b.pulE (m := 3) (by omega) (by omega) _) (show mC (.int 0) ρ (h.set l (URN (pul p 3).2)) = some (.d (.int 0), h.set l (URN (pul p 3).2)) from rfl))]
    rfl
  by_cases z1 : (0 : Int) < j
  · rw [decide_eq_true z1] at g1
    by_cases z2 : ss = []
    · rw [decide_eq_true z2] at g2
      refine ⟨false, p, ?_, fun z => by cases z⟩
      rw [same]
      exact (and_yes g1).trans (and_no g2)
    · rw [decide_eq_false z2] at g2
      by_cases z3 : fr = []
      · rw [decide_eq_true z3] at g3
        refine ⟨false, p, ?_, fun z => by cases z⟩
        rw [same]
        exact (and_yes g1).trans ((and_yes g2).trans (and_no g3))
      · rw [decide_eq_false z3] at g3
        exact ⟨_, _, (and_yes g1).trans ((and_yes g2).trans ((and_yes g3).trans g4)), fun _ => z3⟩
  · rw [decide_eq_false z1] at g1
    refine ⟨false, p, ?_, fun z => by cases z⟩
    rw [same]
    exact and_no g1
theorem Bs.more (b : Bs H l p rows (usedK rows) h) (ok : ∀ x ∈ namesOf rows, PyData.strOk x = true) (hn : (namesOf rows).Nodup) {q : Row} (hq : ∀ s ∈ q.2, s ∈ namesOf rows) (hd : q.2.Nodup) (hq2 : q.2.length ≤ 2) {cf cs : Nat} {fr ss : List Str} (gt : H.length + 1 < cf) (gs : cf < cs) (hf : h[cf]? = some (.lst (LA fr))) (hc : h[cs]? = some (.lst (LA ss))) (dr : Drawn rows fr ss) (h1 : ss.length ≤ 1) (h40 : fr.length ≤ 40) (j : Int) (x1 x3 x6 x8 : Option A) :
    ∃ (p' : U3) (cs' : Nat) (ss' : List Str) (h' : Hh), b_more [some (.ref l), x1, some (.d (.int j)), x3, some (.ref H.length), some (.ref (H.length + 1)), x6, some (.ref cf), x8, some (.ref cs), some (.d (.tup (q.2.map .str)))] h =
      some (.nx [some (.ref l), x1, some (.d (.int j)), x3, some (.ref H.length), some (.ref (H.length + 1)), x6, some (.ref cf), x8, some (.ref cs'), some (.d (.tup (q.2.map .str)))] h') ∧ Bs H l p' rows (usedK rows) h' ∧ h'[cs']? = some (.lst (LA ss')) ∧ H.length + 1 < cs' ∧ (∀ s ∈ ss', s ∈ freeOf rows) ∧ ss'.Nodup ∧ ss'.length ≤ 2 := by
  obtain ⟨k, p1, t, hk⟩ := b.dup hn hq hq2 j x1 x3 (some (.ref H.length)) x6 (some (.ref cf)) x8 (some (.ref cs))
  have b1 := b.setP p1
  have hf1 : (h.set l (URN p1))[cf]? = some (.lst (LA fr)) := by rw [List.getElem?_set_ne (b.ne gt)]; exact hf
  have hc1 : (h.set l (URN p1))[cs]? = some (.lst (LA ss)) := by rw [List.getElem?_set_ne (b.ne (Nat.lt_trans gt gs))]; exact hc
  cases k with
  | true =>
    obtain ⟨q1, q2⟩ := hk rfl
    have e : mOn (fList true) (mCons (mVar 10) mNil) [some (.ref l), x1, some (.d (.int j)), x3, some (.ref H.length), some (.ref (H.length + 1)), x6, some (.ref cf), x8, some (.ref cs), some (.d (.tup (q.2.map .str)))] (h.set l (URN p1)) = some (.ref (h.set l (URN p1)).length, h.set l (URN p1) ++ [.lst (LA q.2)]) := by
      rw [on_of (cons_of (show mVar 10 [some (.ref l), x1, some (.d (.int j)), x3, some (.ref H.length), some (.ref (H.length + 1)), x6, some (.ref cf), x8, some (.ref cs), some (.d (.tup (q.2.map .str)))] (h.set l (URN p1)) = some (.d (.tup (q.2.map .str)), h.set l (URN p1)) from rfl) (show mNil [some (.ref l), x1, some (.d (.int j)), x3, some (.ref H.length), some (.ref (H.length + 1)), x6, some (.ref cf), x8, some (.ref cs), some (.d (.tup (q.2.map .str)))] (h.set l (URN p1)) = some ([], h.set l (URN p1)) from rfl))]
      have e2 : fList true [.d (.tup (q.2.map .str))] (h.set l (URN p1)) = mkL true (LA q.2) (h.set l (URN p1)) := by
        show mkL true ((q.2.map D.str).map A.d) _ = _
        rw [List.map_map]; rfl
      rw [e2, mkL_cell (by rw [LA_len]; omega)]
    refine ⟨p1, _, q.2, _, (if_yes t).trans (asg_N (i := 9) e), b1.app _, ?_, ?_, fun s hs => ?_, hd, hq2⟩
    · rw [List.getElem?_append_right (Nat.le_refl _)]; simp
    · have := b1.len; omega
    · unfold freeOf
      rw [List.mem_filter]
      exact ⟨hq s hs, decide_eq_true (q2 s hs)⟩
  | false =>
    have sub : ∀ x ∈ freeOf rows, x ∈ namesOf rows := fun x hx => (mem_free hx).1
    obtain ⟨k2, p2, t2, hk2⟩ := b1.tapp hf1 hc1 (fun x hx => ok x (sub x (dr.left x hx))) (fun x hx => ok x (sub x (dr.free x hx))) j x1 x3 (some (.ref H.length)) (some (.ref (H.length + 1))) x6 x8 (some (.d (.tup (q.2.map .str))))
    rw [List.set_set] at t2
    have b2 := b.setP p2
    have hf2 : (h.set l (URN p2))[cf]? = some (.lst (LA fr)) := by rw [List.getElem?_set_ne (b.ne gt)]; exact hf
    have hc2 : (h.set l (URN p2))[cs]? = some (.lst (LA ss)) := by rw [List.getElem?_set_ne (b.ne (Nat.lt_trans gt gs))]; exact hc
    cases k2 with
    | false => exact ⟨p2, cs, ss, _, (if_else t).trans (if_no t2), b2, hc2, Nat.lt_trans gt gs, dr.free, dr.nd, by omega⟩
    | true =>
      have hne := hk2 rfl
      let r : En := [x1, some (.d (.int j)), x3, some (.ref H.length), some (.ref (H.length + 1)), x6, some (.ref cf), x8, some (.ref cs), some (.d (.tup (q.2.map .str)))]
      obtain ⟨i, p3, hi, e⟩ := b2.ix hf2 hne (by omega) (r := r) rfl
      rw [List.set_set] at e
      have b3 := b.setP p3
      have hf3 : (h.set l (URN p3))[cf]? = some (.lst (LA fr)) := by rw [List.getElem?_set_ne (b.ne gt)]; exact hf
      have hc3 : (h.set l (URN p3))[cs]? = some (.lst (LA ss)) := by rw [List.getElem?_set_ne (b.ne (Nat.lt_trans gt gs))]; exact hc
      have a1 : fIx (.ref cf) (.d (.int i)) (h.set l (URN p3)) = some (.d (.str fr[i]), h.set l (URN p3)) := by
        have hx : L2.atI (LA fr) i = some (.d (.str fr[i])) := by
          unfold L2.atI
          have : ixN (LA fr).length i = some i := by
            unfold ixN
            rw [LA_len]
            simp
            omega
          rw [this]
          simp [LA, hi]
        simp only [fIx, orF, fIxS, itemsL, hf3, hx, Option.map_some]
      have a2 := (bin_of (f := fIx) (show mVar 7 (some (.ref l) :: r) (h.set l (URN p2)) = some (.ref cf, h.set l (URN p2)) from rfl) e).trans a1
      have ap := append_eq (y := .d (.str fr[i])) hc3 (by rw [LA_len]; omega)
      rw [LA_snoc] at ap
      have e3 := (met_of (T := "list") (F := fAppend) (show mVar 9 (some (.ref l) :: r) (h.set l (URN p2)) = some (.ref cs, h.set l (URN p2)) from rfl) (isT_list hc2) (cons_of a2 (show mNil (some (.ref l) :: r) (h.set l (URN p3)) = some ([], h.set l (URN p3)) from rfl))).trans ap
      have hmem : fr[i] ∈ fr := List.getElem_mem hi
      refine ⟨p3, cs, ss ++ [fr[i]], _, (if_else t).trans ((if_yes t2).trans (drop_of e3)), b3.setC (Nat.lt_trans gt gs) _, set_at hc3, Nat.lt_trans gt gs, fun s hs => ?_, ?_, by rw [List.length_append]; simp; omega⟩
      · rcases List.mem_append.mp hs with hs | hs
        · exact dr.free s hs
        · rw [List.mem_singleton.mp hs]; exact dr.left _ hmem
      · refine List.nodup_append.mpr ⟨dr.nd, by simp, fun a ha c hc' => ?_⟩
        rw [List.mem_singleton.mp hc']
        exact fun z => dr.apart _ hmem (z ▸ ha)
end
end K52
set_option Elab.async false
set_option linter.all false
set_option maxRecDepth 100000
set_option maxHeartbeats 1000000
namespace K52
open PySem PySem.Spec PyProof.Rows L2 F2
def b_dbl : SI := (mAsg (mBin (fAdd false) (mBin fSub (mVar 2) (e_len 9)) (mC (.int 1))) (gN 2))
def e_ones : EI := (mOn (mkL false) (mCons (mC (.int 1)) (mCons (mUn fNeg (mC (.int 1))) mNil)))
def e_one : EI := (mCall 2 fn_law_of (mCons (mVar 0) (mCons e_ones mNil)))
def b_step : SI := (mAsg (mBin (fStp true) (mVar 9) e_one) (gN 9))
def e_rowT : EI := (mOn mkT (mCons (mVar 6) (mCons (mOn (orC fTuple fTupD) (mCons (mVar 9) mNil)) mNil)))
def b_found : SI := (mDrop (mMet "list" fAppend (mVar 4) (mCons e_rowT mNil)))
def b_zero : SI := (mAsg (mC (.int 0)) (F2.gSub (mVar 5) (mVar 6)))
def b_inc : SI := (mAsg (mBin (fAdd false) (mBin fIx (mVar 5) (mVar 8)) (mC (.int 1))) (F2.gSub (mVar 5) (mVar 8)))
def b_add : SI := mIfS (t_ne 9) (mSeq b_dbl (mSeq b_step (mSeq b_found (mSeq b_zero (mFor (srcQ (mVar 9)) (gN 8) b_inc))))) mSkip
section
variable {H : Hh} {l : Nat} {p : U3} {rows : List Row} {ks : List (Str × A)} {h : Hh}
theorem Bs.one (b : Bs H l p rows ks h) (r : En) : ∃ (i : Int) (p' : U3), (i = 1 ∨ i = -1) ∧ e_one (some (.ref l) :: r) h = some (.d (.int i), h.set l (URN p')) := by
  have e1 : e_ones (some (.ref l) :: r) h = some (.d (.lst [.int 1, .int (-1)]), h) := mkL_data (xs := [.int 1, .int (-1)]) (by simp)
  obtain ⟨x, hx, e2⟩ := of_eq (xs := [.int 1, .int (-1)]) (by simp) (by simp) b.urn
  have e3 := (call_of (n := 2) (F := fn_law_of) (cons_of (show mVar 0 (some (.ref l) :: r) h = some (.ref l, h) from rfl) (cons_of e1 (show mNil (some (.ref l) :: r) h = some ([], h) from rfl))) rfl).trans e2
  simp only [List.mem_cons, List.not_mem_nil, or_false] at hx
  rcases hx with rfl | rfl
  · exact ⟨1, _, .inl rfl, e3⟩
  · exact ⟨-1, _, .inr rfl, e3⟩
theorem Bs.inc {names : List Str} {val : Str → Int} (hn : names.Nodup) (hz : names.length ≤ 40) (b : Bs H l p rows (valK names val) h) {x : Str} (hx : x ∈ names) (x0 x1 x2 x3 x4 x6 x7 x9 x10 : Option A) :
    b_inc [x0, x1, x2, x3, x4, some (.ref (H.length + 1)), x6, x7, some (.d (.str x)), x9, x10] h = some (.nx [x0, x1, x2, x3, x4, some (.ref (H.length + 1)), x6, x7, some (.d (.str x)), x9, x10] (h.set (H.length + 1) (.dK (tabL (valK names fun y => if y = x then val x + 1 else val y))))) := by
  let ρ : En := [x0, x1, x2, x3, x4, some (.ref (H.length + 1)), x6, x7, some (.d (.str x)), x9, x10]
  have tb : F2.tabOf (.ref (H.length + 1)) h = some (.k (tabL (valK names val))) := by simp only [F2.tabOf, b.tab]
  have v5 : mVar 5 ρ h = some (.ref (H.length + 1), h) := rfl
  have v8 : mVar 8 ρ h = some (.d (.str x), h) := rfl
  have e1 := (bin_of (f := fIx) v5 v8).trans (at_tab tb (val_at hn val hx))
  have e2 : mBin (fAdd false) (mBin fIx (mVar 5) (mVar 8)) (mC (.int 1)) ρ h = some (.d (.int (val x + 1)), h) := (bin_of (f := fAdd false) e1 (show mC (.int 1) ρ h = some (.d (.int 1), h) from rfl)).trans rfl
  have e3 := st_key (x := x) (v := .d (.int (val x + 1))) b.tab (by simp [tabL, valK]; omega)
  rw [val_put _ _ hx] at e3
  show b_inc ρ h = _
  unfold b_inc mAsg
  rw [e2]
  dsimp only
  unfold F2.gSub
  rw [v5]
  dsimp only
  rw [v8]
  dsimp only
  rw [e3]
  rfl
theorem Bs.incs {names : List Str} {val : Str → Int} (hn : names.Nodup) (hz : names.length ≤ 40) (b : Bs H l p rows (valK names val) h) {cs : Nat} {ss : List Str} (gt : H.length + 1 < cs) (hc : h[cs]? = some (.lst (LA ss))) (hs : ∀ x ∈ ss, x ∈ names) (hd : ss.Nodup) (x0 x1 x2 x3 x4 x6 x7 x8 x10 : Option A) :
    ∃ x8' h', mFor (srcQ (mVar 9)) (gN 8) b_inc [x0, x1, x2, x3, x4, some (.ref (H.length + 1)), x6, x7, x8, some (.ref cs), x10] h = some (.nx [x0, x1, x2, x3, x4, some (.ref (H.length + 1)), x6, x7, x8', some (.ref cs), x10] h') ∧ Bs H l p rows (valK names fun y => val y + if y ∈ ss then 1 else 0) h' := by
  obtain ⟨ρ', h', e, x8', e1, s', _⟩ := for_itemsI (items := LA ss) (g := gN 8) (b := b_inc) (ρ := [x0, x1, x2, x3, x4, some (.ref (H.length + 1)), x6, x7, x8, some (.ref cs), x10]) (H := h)
    (I := fun i ρ h => ∃ x8 : Option A, ρ = [x0, x1, x2, x3, x4, some (.ref (H.length + 1)), x6, x7, x8, some (.ref cs), x10] ∧ Bs H l p rows (valK names fun y => val y + if y ∈ ss.take i then 1 else 0) h ∧ h[cs]? = some (.lst (LA ss)))
    (fun i ρ h' ⟨_, _, _, hc'⟩ => by simp [listN, itemsL, hc']) rfl (cell_src (m := mVar 9) rfl hc)
    (fun i ρ h' hi ⟨x8, e, s', hc'⟩ => by
      subst e
      have hi' : i < ss.length := by rw [LA_len] at hi; exact hi
      have gi : (LA ss)[i] = .d (.str ss[i]) := by simp [LA]
      have e2 := s'.inc hn hz (hs _ (List.getElem_mem hi')) x0 x1 x2 x3 x4 x6 x7 (some (.ref cs)) x10
      refine ⟨_, _, by rw [gi]; exact e2, _, rfl, ?_, by rw [List.getElem?_set_ne (by omega)]; exact hc'⟩
      have hni : ss[i] ∉ ss.take i := fun z => by
        obtain ⟨j, hj⟩ := List.mem_iff_getElem?.mp z
        have hji : j < i := by
          have := (List.getElem?_eq_some_iff.mp hj).1
          rw [List.length_take] at this
          omega
        rw [List.getElem?_take_of_lt hji] at hj
        have e := (List.getElem?_inj (List.getElem?_eq_some_iff.mp hj).1 hd).mp (hj.trans (List.getElem?_eq_getElem hi').symm)
        omega
      have ev : (fun y => if y = ss[i] then (val ss[i] + if ss[i] ∈ ss.take i then 1 else 0) + 1 else val y + if y ∈ ss.take i then 1 else 0) = fun y => val y + if y ∈ ss.take (i + 1) then (1 : Int) else 0 := by
        funext y
        rw [take_snoc hi']
        by_cases c1 : y = ss[i]
        · rw [if_pos c1, if_neg hni, if_pos (by rw [c1]; exact List.mem_append.mpr (.inr (List.mem_singleton.mpr rfl))), c1]
          omega
        · rw [if_neg c1]
          by_cases c2 : y ∈ ss.take i
          · rw [if_pos c2, if_pos (List.mem_append.mpr (.inl c2))]
          · rw [if_neg c2, if_neg (fun z => by
              rcases List.mem_append.mp z with z | z
              · exact c2 z
              · exact c1 (by simpa using z))]
      have s2 := s'.setT (valK names fun y => if y = ss[i] then (val ss[i] + if ss[i] ∈ ss.take i then 1 else 0) + 1 else val y + if y ∈ ss.take i then 1 else 0)
      rw [ev] at s2
      rw [← ev] at s2 ⊢
      exact s2) ⟨x8, rfl, by simpa using b, hc⟩
  rw [LA_len, List.take_length] at s'
  rw [e1] at e
  exact ⟨x8', h', e, s'⟩
theorem used_snoc {rows : List Row} {x : Str} {ss : List Str} (hf : copiesOf (rows ++ [(x, ss)]) x = []) (hx : x ∉ namesOf rows) (hs : x ∉ ss) :
    valK (namesOf rows ++ [x]) (fun y => (if y = x then 0 else cnt rows y) + if y ∈ ss then 1 else 0) = usedK (rows ++ [(x, ss)]) := by
  have en : namesOf (rows ++ [(x, ss)]) = namesOf rows ++ [x] := by simp
  unfold usedK
  rw [en]
  unfold valK
  apply List.map_congr_left
  intro y hy
  congr 3
  show ((if y = x then (0 : Int) else cnt rows y) + if y ∈ ss then 1 else 0) = cnt (rows ++ [(x, ss)]) y
  by_cases c : y = x
  · subst c
    rw [if_pos rfl, if_neg hs]
    unfold cnt
    rw [hf]
    rfl
  · rw [if_neg c]
    unfold cnt
    rw [copies_snoc]
    by_cases z : y ∈ ss
    · rw [if_pos z, if_pos z]
      simp
    · rw [if_neg z, if_neg z]
      simp
theorem Bs.add (b : Bs H l p rows (usedK rows) h) (hv : Fits [] rows) (hp : Pooled rows) (hne : rows ≠ []) (hz : rows.length < 40) (hn : (namesOf rows).Nodup) {x : Str} (hx : x ∈ WP) (hni : x ∉ namesOf rows) {cs : Nat} {ss : List Str} (gt : H.length + 1 < cs) (hc : h[cs]? = some (.lst (LA ss))) (hs : ∀ s ∈ ss, s ∈ freeOf rows) (hd : ss.Nodup) (hl : ss.length ≤ 2) (j : Int) (x1 x3 x7 x8 x10 : Option A) :
    ∃ j' p' rows' y8 y9 h', b_add [some (.ref l), x1, some (.d (.int j)), x3, some (.ref H.length), some (.ref (H.length + 1)), some (.d (.str x)), x7, x8, some (.ref cs), x10] h = some (.nx [some (.ref l), x1, some (.d (.int j')), x3, some (.ref H.length), some (.ref (H.length + 1)), some (.d (.str x)), x7, y8, y9, x10] h')
      ∧ Bs H l p' rows' (usedK rows') h' ∧ (rows' = rows ∨ ∃ ss', rows' = rows ++ [(x, ss')] ∧ Fit rows (x, ss')) := by
  have sub : ∀ s ∈ ss, s ∈ namesOf rows := fun s h => (mem_free (hs s h)).1
  have okN : ∀ y ∈ namesOf rows, PyData.strOk y = true := fun y hy => by
    obtain ⟨q, hq, e⟩ := List.mem_map.mp hy
    rw [← e]; exact (pool_ok (hp q hq)).ok
  let ρ : En := [some (.ref l), x1, some (.d (.int j)), x3, some (.ref H.length), some (.ref (H.length + 1)), some (.d (.str x)), x7, x8, some (.ref cs), x10]
  have t := tne_ok (i := 9) (ρ := ρ) rfl hc fun s h => okN s (sub s h)
  by_cases z : ss = []
  · rw [decide_eq_true z] at t
    exact ⟨j, p, rows, x8, some (.ref cs), h, if_no t, b, .inl rfl⟩
  · rw [decide_eq_false z] at t
    have el := elen_cell (i := 9) (ρ := ρ) rfl hc
    have d1 : mBin (fAdd false) (mBin fSub (mVar 2) (e_len 9)) (mC (.int 1)) ρ h = some (.d (.int (j - ss.length + 1)), h) :=
      (bin_of (f := fAdd false) ((bin_of (f := fSub) (show mVar 2 ρ h = some (.d (.int j), h) from rfl) el).trans rfl) (show mC (.int 1) ρ h = some (.d (.int 1), h) from rfl)).trans rfl
    have s1 : b_dbl ρ h = some (.nx [some (.ref l), x1, some (.d (.int (j - ss.length + 1))), x3, some (.ref H.length), some (.ref (H.length + 1)), some (.d (.str x)), x7, x8, some (.ref cs), x10] h) := asg_N (i := 2) d1
    let r1 : En := [x1, some (.d (.int (j - ss.length + 1))), x3, some (.ref H.length), some (.ref (H.length + 1)), some (.d (.str x)), x7, x8, some (.ref cs), x10]
    obtain ⟨i, p', hi, e1⟩ := b.one r1
    have b1 := b.setP p'
    have hc1 : (h.set l (URN p'))[cs]? = some (.lst (LA ss)) := by rw [List.getElem?_set_ne (b.ne gt)]; exact hc
    let ss' : List Str := stp i ss
    have es : stp i (LA ss) = LA ss' := by
      simp only [ss', stp, LA]
      split <;> simp
    have hm : ∀ s, s ∈ ss' ↔ s ∈ ss := fun s => by
      simp only [ss', stp]
      split
      · exact Iff.rfl
      · exact List.mem_reverse
    have hd' : ss'.Nodup := by
      simp only [ss', stp]
      split
      · exact hd
      · exact (List.reverse_perm ss).nodup_iff.mpr hd
    have hl' : ss'.length ≤ 2 := by
      simp only [ss', stp]
      split
      · exact hl
      · rw [List.length_reverse]; exact hl
    have hne' : ss' ≠ [] := by
      simp only [ss', stp]
      split
      · exact z
      · exact fun q => z (List.reverse_eq_nil_iff.mp q)
    have st : fStp true (.ref cs) (.d (.int i)) (h.set l (URN p')) = some (.ref (h.set l (URN p')).length, h.set l (URN p') ++ [.lst (LA ss')]) := by
      unfold fStp
      dsimp only
      rw [show itemsL (.ref cs) (h.set l (URN p')) = some (LA ss) by simp only [itemsL]; rw [hc1]]
      dsimp only
      rw [if_pos hi, es, mkL_cell (by rw [LA_len]; omega)]
    have a2 := (bin_of (f := fStp true) (show mVar 9 (some (.ref l) :: r1) h = some (.ref cs, h) from rfl) e1).trans st
    let cn := (h.set l (URN p')).length
    let h2 := h.set l (URN p') ++ [O.lst (LA ss')]
    have s2 : b_step (some (.ref l) :: r1) h = some (.nx [some (.ref l), x1, some (.d (.int (j - ss.length + 1))), x3, some (.ref H.length), some (.ref (H.length + 1)), some (.d (.str x)), x7, x8, some (.ref cn), x10] h2) := asg_N (i := 9) a2
    have b2 : Bs H l p' rows (usedK rows) h2 := b1.app _
    have hcn : h2[cn]? = some (.lst (LA ss')) := by
      show (h.set l (URN p') ++ [O.lst (LA ss')])[(h.set l (URN p')).length]? = _
      rw [List.getElem?_append_right (Nat.le_refl _)]; simp
    have gcn : H.length + 1 < cn := by have := b1.len; show _ < (h.set l (URN p')).length; omega
    let ρ2 : En := [some (.ref l), x1, some (.d (.int (j - ss.length + 1))), x3, some (.ref H.length), some (.ref (H.length + 1)), some (.d (.str x)), x7, x8, some (.ref cn), x10]
    have tp : mOn (orC fTuple fTupD) (mCons (mVar 9) mNil) ρ2 h2 = some (.d (.tup (ss'.map .str)), h2) :=
      (on_of (cons_of (show mVar 9 ρ2 h2 = some (.ref cn, h2) from rfl) (show mNil ρ2 h2 = some ([], h2) from rfl))).trans (tuple_of (by simp only [itemsL]; rw [hcn]) (by omega))
    have er : e_rowT ρ2 h2 = some (.d (rowD (x, ss')), h2) := by
      unfold e_rowT
      rw [on_of (cons_of (show mVar 6 ρ2 h2 = some (.d (.str x), h2) from rfl) (cons_of tp (show mNil ρ2 h2 = some ([], h2) from rfl)))]
      have lv := LIMv
      unfold mkT
      rw [if_pos (by simp; omega)]
      rfl
    have ap := append_eq (y := .d (rowD (x, ss'))) b2.fnd (by simp; omega)
    have e3 := (met_of (T := "list") (F := fAppend) (show mVar 4 ρ2 h2 = some (.ref H.length, h2) from rfl) (isT_list b2.fnd) (cons_of er (show mNil ρ2 h2 = some ([], h2) from rfl))).trans ap
    have ee : (rows.map rowD).map A.d ++ [.d (rowD (x, ss'))] = ((rows ++ [(x, ss')]).map rowD).map A.d := by simp
    rw [ee] at e3
    have s3 : b_found ρ2 h2 = some (.nx ρ2 (h2.set H.length (.lst (((rows ++ [(x, ss')]).map rowD).map A.d)))) := drop_of e3
    have b3 : Bs H l p' (rows ++ [(x, ss')]) (usedK rows) (h2.set H.length (.lst (((rows ++ [(x, ss')]).map rowD).map A.d))) := b2.setF _
    let h3 := h2.set H.length (.lst (((rows ++ [(x, ss')]).map rowD).map A.d))
    have hc3 : h3[cn]? = some (.lst (LA ss')) := by show (h2.set _ _)[cn]? = _; rw [List.getElem?_set_ne (by omega)]; exact hcn
    have k3 := st_key (x := x) (v := .d (.int 0)) b3.tab (by simp [usedK, tabL, valK]; omega)
    have nk : putG (tabL (usedK rows)) (.inr x : Key) (.d (.int 0)) = tabL (valK (namesOf rows ++ [x]) fun y => if y = x then 0 else cnt rows y) := val_new hni 0
    rw [nk] at k3
    have s4 : b_zero ρ2 h3 = some (.nx ρ2 (h3.set (H.length + 1) (.dK (tabL (valK (namesOf rows ++ [x]) fun y => if y = x then 0 else cnt rows y))))) := by
      unfold b_zero mAsg
      rw [show mC (.int 0) ρ2 h3 = some (.d (.int 0), h3) from rfl]
      dsimp only
      unfold F2.gSub
      rw [show mVar 5 ρ2 h3 = some (.ref (H.length + 1), h3) from rfl]
      dsimp only
      rw [show mVar 6 ρ2 h3 = some (.d (.str x), h3) from rfl]
      dsimp only
      rw [k3]
      rfl
    have b4 := b3.setT (valK (namesOf rows ++ [x]) fun y => if y = x then 0 else cnt rows y)
    have hc4 : (h3.set (H.length + 1) (.dK (tabL (valK (namesOf rows ++ [x]) fun y => if y = x then 0 else cnt rows y))))[cn]? = some (.lst (LA ss')) := by rw [List.getElem?_set_ne (by omega)]; exact hc3
    have hn4 : (namesOf rows ++ [x]).Nodup := List.nodup_append.mpr ⟨hn, by simp, fun a ha c hc => by rw [List.mem_singleton.mp hc]; exact fun q => hni (q ▸ ha)⟩
    obtain ⟨y8, h', e5, b5⟩ := b4.incs hn4 (by rw [List.length_append, List.length_map]; simp; omega) gcn hc4 (fun s hs' => List.mem_append_left _ (sub s ((hm s).mp hs'))) hd' (some (.ref l)) x1 (some (.d (.int (j - ss.length + 1)))) x3 (some (.ref H.length)) (some (.d (.str x))) x7 x8 x10
    have fit : Fit rows (x, ss') := fit_of hx hni hp (by
      rw [if_neg hne]
      exact src_of (fun s h => sub s ((hm s).mp h)) hd' hl' hne') fun s h => (mem_free (hs s ((hm s).mp h))).2
    have hf : copiesOf (rows ++ [(x, ss')]) x = [] := last_free (r := (x, ss')) (hv.snoc fit)
    rw [used_snoc hf hni (fun q => hni (sub x ((hm x).mp q)))] at b5
    exact ⟨_, p', rows ++ [(x, ss')], y8, some (.ref cn), h', (if_yes t).trans ((seq_nx s1).trans ((seq_nx s2).trans ((seq_nx s3).trans ((seq_nx s4).trans e5)))), b5, .inr ⟨ss', rfl, fit⟩⟩
end
end K52
set_option Elab.async false
set_option linter.all false
set_option maxRecDepth 100000
set_option maxHeartbeats 1000000
namespace K52
open PySem PySem.Spec PyProof.Rows L2 F2
theorem cut1 {α : Type} (xs : List α) : cutA xs (some 1) none = xs.drop 1 := by
  unfold cutA
  have e1 : HT.sIx xs.length 0 (some 1) = min 1 xs.length := by
    have := HT.sIx_nat xs.length 0 1
    simpa using this
  have e2 : HT.sIx xs.length xs.length none = xs.length := rfl
  rw [e1, e2]
  cases xs with
  | nil => rfl
  | cons x xs =>
    have : min 1 (x :: xs).length = 1 := by simp
    rw [this]
    simp
theorem slc1 {i : Nat} {ρ : En} {h : Hh} {xs : List D} (v : mVar i ρ h = some (.d (.lst xs), h)) (hz : xs.length < 1000) : mSlc false (mVar i) (some (mC (.int 1))) none ρ h = some (.d (.lst (xs.drop 1)), h) := by
  unfold mSlc
  rw [v]
  have e : partI (some (mC (.int 1))) ρ h = some (some 1, h) := rfl
  have e2 : partI none ρ h = some (none, h) := rfl
  dsimp only
  rw [e]
  dsimp only
  rw [e2]
  dsimp only
  show mkL false (cutA (xs.map A.d) (some 1) none) h = _
  rw [cut1, ← List.map_drop, mkL_data (by rw [List.length_drop]; omega)]
def b_rowT : SI := mSeq (mLockS 5 (mAsg e_free (gN 7))) (mSeq (mAsg e_some (gN 9)) (mSeq (mAsg e_last (gN 10)) (mSeq b_more b_add)))
section
variable {H : Hh} {l : Nat} {p : U3} {rows : List Row} {h : Hh}
theorem Bs.turn (b : Bs H l p rows (usedK rows) h) (hv : Fits [] rows) (hp : Pooled rows) (hne : rows ≠ []) (hz : rows.length < 40) {x : Str} (hx : x ∈ WP) (hni : x ∉ namesOf rows) (j : Int) (x1 x3 x7 x8 x9 x10 : Option A) :
    ∃ j' p' rows' y7 y8 y9 y10 h', b_rowT [some (.ref l), x1, some (.d (.int j)), x3, some (.ref H.length), some (.ref (H.length + 1)), some (.d (.str x)), x7, x8, x9, x10] h = some (.nx [some (.ref l), x1, some (.d (.int j')), x3, some (.ref H.length), some (.ref (H.length + 1)), some (.d (.str x)), y7, y8, y9, y10] h')
      ∧ Bs H l p' rows' (usedK rows') h' ∧ (rows' = rows ∨ ∃ ss', rows' = rows ++ [(x, ss')] ∧ Fit rows (x, ss')) := by
  have good := hv.good (by simp) (fun q hq => by cases hq)
  rw [List.nil_append] at good
  have hn : (namesOf rows).Nodup := good.1
  have okN : ∀ y ∈ namesOf rows, PyData.strOk y = true := fun y hy => by
    obtain ⟨q, hq, e⟩ := List.mem_map.mp hy
    rw [← e]; exact (pool_ok (hp q hq)).ok
  have e1 := free_ok (t := H.length + 1) (h := h) b.tab hn (by omega) (some (.ref l)) x1 (some (.d (.int j))) x3 (some (.ref H.length)) (some (.d (.str x))) x7 x8 x9 x10
  have b1 := b.app (.lst (LA (freeOf rows)))
  have hlen := b.len
  have hf : (h ++ [O.lst (LA (freeOf rows))])[h.length]? = some (.lst (LA (freeOf rows))) := by rw [List.getElem?_append_right (Nat.le_refl _)]; simp
  let r1 : En := [x1, some (.d (.int j)), x3, some (.ref H.length), some (.ref (H.length + 1)), some (.d (.str x)), some (.ref h.length), x8, x9, x10]
  obtain ⟨p1, fr, ss, h1, cs, e2, b2, hf2, hc2, gs, dr, l1, l40⟩ := b1.e_some okN hn (by omega) (by omega) hf (r := r1) (fun _ => rfl)
  obtain ⟨r0, q, er⟩ := last_row hne
  have e3 := b2.e_last er (ρ := [some (.ref l), x1, some (.d (.int j)), x3, some (.ref H.length), some (.ref (H.length + 1)), some (.d (.str x)), some (.ref h.length), x8, some (.ref cs), x10]) rfl
  have hq : ∃ pre, Fit pre q ∧ ∀ s ∈ pre, s ∈ rows := by
    have hi : rows[r0.length]? = some q := by rw [er]; simp
    refine ⟨_, hv.at hi, fun s hs => ?_⟩
    rw [List.nil_append] at hs
    exact List.mem_of_mem_take hs
  obtain ⟨pre, fq, sub⟩ := hq
  have hq1 : ∀ s ∈ q.2, s ∈ namesOf rows := fun s hs => by
    obtain ⟨u, hu, e⟩ := List.mem_map.mp (fq.srcs s hs)
    exact List.mem_map.mpr ⟨u, sub u hu, e⟩
  have hq2 : q.2.Nodup := by
    have z := fq.src
    split at z
    · rw [z]; simp
    · exact (ok_mem z).2
  obtain ⟨p2, cs2, ss2, h2, e4, b3, hc3, gt3, hs3, hd3, hl3⟩ := b2.more okN hn hq1 hq2 fq.small.l (by omega) gs hf2 hc2 dr l1 l40 j x1 x3 (some (.d (.str x))) x8
  obtain ⟨j', p', rows', y8, y9, h', e5, b4, fin⟩ := b3.add hv hp hne hz hn hx hni gt3 hc3 hs3 hd3 hl3 j x1 x3 (some (.ref h.length)) x8 (some (.d (.tup (q.2.map .str))))
  exact ⟨j', p', rows', _, y8, y9, _, h', (seq_nx e1).trans ((seq_nx (asg_N (i := 9) e2)).trans ((seq_nx (asg_N (i := 10) e3)).trans ((seq_nx e4).trans e5))), b4, fin⟩
end
def e_0 : EI := (mBin fIx (mVar 3) (mC (.int 0)))
def e_start : EI := (mOn mkT (mCons (mOn (mkL true) (mCons (mOn mkT (mCons e_0 (mCons (mOn mkT mNil) mNil))) mNil)) (mCons (mDisp1 e_0 (mC (.int 0))) mNil)))
theorem rows_eq {p : U3} {n : Nat} (hn : n ≤ 16) (h1n : 1 ≤ n) {H : Hh} {l : Nat} (hl : H[l]? = some (URN p)) (hd : DH H) (j : Int) :
    ∃ rows p', fn_law_rows [.ref l, .d (.int n), .d (.int j)] H = some (.d (rowsD rows), H.set l (URN p')) ∧ Fits [] rows ∧ rows ≠ [] ∧ rows.length ≤ n ∧ Pooled rows := by
  have hlt : l < H.length := (List.getElem?_eq_some_iff.mp hl).1
  obtain ⟨names, p1, ew, ln, nd, pl⟩ := words_eq hn hl hd
  let H1 : Hh := H.set l (URN p1)
  have hH1 : H1.length = H.length := List.length_set
  have h0n : 0 < names.length := by omega
  let ρ0 : En := [some (.ref l), some (.d (.int n)), some (.d (.int j)), none, none, none, none, none, none, none, none]
  have s1 : mAsg (mCall 2 fn_law_words (mCons (mVar 0) (mCons (mVar 1) mNil))) (gN 3) ρ0 H = some (.nx [some (.ref l), some (.d (.int n)), some (.d (.int j)), some (.d (LS names)), none, none, none, none, none, none, none] H1) :=
    asg_N (i := 3) ((call_of (n := 2) (F := fn_law_words) (show mCons (mVar 0) (mCons (mVar 1) mNil) ρ0 H = some ([.ref l, .d (.int n)], H) from rfl) rfl).trans ew)
  let ρ1 : En := [some (.ref l), some (.d (.int n)), some (.d (.int j)), some (.d (LS names)), none, none, none, none, none, none, none]
  have e0 : ∀ h, e_0 ρ1 h = some (.d (.str names[0]), h) := fun h => (bin_of (f := fIx) (show mVar 3 ρ1 h = some (.d (LS names), h) from rfl) (show mC (.int 0) ρ1 h = some (.d (.int (0 : Nat)), h) from rfl)).trans (sq_at (b := false) (i := 0) h0n)
  have t1 : mOn mkT (mCons e_0 (mCons (mOn mkT mNil) mNil)) ρ1 H1 = some (.d (rowD (names[0], [])), H1) := by
    have a : mOn mkT mNil ρ1 H1 = some (.d (.tup []), H1) := rfl
    rw [on_of (cons_of (e0 H1) (cons_of a (show mNil ρ1 H1 = some ([], H1) from rfl)))]
    rfl
  have t2 : mOn (mkL true) (mCons (mOn mkT (mCons e_0 (mCons (mOn mkT mNil) mNil))) mNil) ρ1 H1 = some (.ref H.length, H1 ++ [.lst [.d (rowD (names[0], []))]]) := by
    rw [on_of (cons_of t1 (show mNil ρ1 H1 = some ([], H1) from rfl)), mkL_cell (by simp), hH1]
  let h2 : Hh := H1 ++ [.lst [.d (rowD (names[0], []))]]
  have hh2 : h2.length = H.length + 1 := by show (H1 ++ _).length = _; rw [List.length_append, hH1]; rfl
  let h3 : Hh := h2 ++ [.dK [(.inr names[0], .d (.int 0))]]
  have t3 : mDisp1 e_0 (mC (.int 0)) ρ1 h2 = some (.ref (H.length + 1), h3) := by
    unfold mDisp1
    rw [e0]
    dsimp only
    rw [show keyOf (.str names[0]) = some (.inr names[0]) from rfl]
    dsimp only
    rw [show mC (.int 0) ρ1 (h2 ++ [.dK []]) = some (.d (.int 0), h2 ++ [.dK []]) from rfl]
    dsimp only
    have g : (h2 ++ [O.dK []])[h2.length]? = some (.dK []) := by rw [List.getElem?_append_right (Nat.le_refl _)]; simp
    rw [g]
    dsimp only
    have g2 : (h2 ++ [O.dK []]).set h2.length (.dK [(.inr names[0], .d (.int 0))]) = h3 := by
      rw [List.set_append_right _ _ (Nat.le_refl _), Nat.sub_self]; rfl
    rw [g2, hh2]
  have t4 : e_start ρ1 H1 = some (.tp [.ref H.length, .ref (H.length + 1)], h3) := by
    unfold e_start
    rw [on_of (cons_of t2 (cons_of t3 (show mNil ρ1 h3 = some ([], h3) from rfl)))]
    have lv := LIMv
    unfold mkT
    rw [if_pos (by simp; omega)]
    rfl
  have s2 : mAsg e_start (gT 2 (gsCons (gN 4) (gsCons (gN 5) gsNil))) ρ1 H1 = some (.nx [some (.ref l), some (.d (.int n)), some (.d (.int j)), some (.d (LS names)), some (.ref H.length), some (.ref (H.length + 1)), none, none, none, none, none] h3) := by
    unfold mAsg
    rw [t4]
    rfl
  let ρ2 : En := [some (.ref l), some (.d (.int n)), some (.d (.int j)), some (.d (LS names)), some (.ref H.length), some (.ref (H.length + 1)), none, none, none, none, none]
  have b0 : Bs H l p1 [(names[0], [])] (usedK [(names[0], [])]) h3 := {
    lt := hlt
    len := by show H.length + 2 ≤ (h2 ++ _).length; rw [List.length_append, hh2]; simp
    old := fun k hk => by
      show (H1 ++ _ ++ _)[k]? = _
      rw [List.append_assoc, List.getElem?_append_left (by rw [hH1]; exact hk)]
    fnd := by
      show (H1 ++ _ ++ _)[H.length]? = _
      rw [List.append_assoc, List.getElem?_append_right (by rw [hH1]; exact Nat.le_refl _), hH1, Nat.sub_self]
      rfl
    tab := by
      show (h2 ++ _)[H.length + 1]? = _
      rw [List.getElem?_append_right (by rw [hh2]; exact Nat.le_refl _), hh2, Nat.sub_self]
      have : tabL (usedK [(names[0], [])]) = [(.inr names[0], .d (.int 0))] := by simp [tabL, usedK, valK, cnt, copiesOf]
      rw [this]
      rfl }
  have f0 : Fit [] (names[0], []) := fit_of (pl _ (List.getElem_mem h0n)) (by simp) (fun r hr => by cases hr) (by simp) (fun s hs => by cases hs)
  have v0 : Fits [] [(names[0], [])] := .cons f0 .nil
  have sl := slc1 (i := 3) (ρ := ρ2) (h := h3) (xs := names.map .str) rfl (by rw [List.length_map]; omega)
  rw [← List.map_drop] at sl
  obtain ⟨s, q1, q2, q3⟩ := sq_src (b := false) (xs := names.drop 1) sl
  obtain ⟨ρ', h', e3, rows, p', j', x6, x7, x8, x9, x10, er, b, hv, hp, hne, hlen, hsub⟩ := for_items (items := LA (names.drop 1)) (it := srcQ (mSlc false (mVar 3) (some (mC (.int 1))) none)) (g := gN 6) (b := b_rowT) (ρ := ρ2) (H := h3)
    (I := fun i ρ h => ∃ rows p' j', ∃ x6 x7 x8 x9 x10 : Option A, ρ = [some (.ref l), some (.d (.int n)), some (.d (.int j')), some (.d (LS names)), some (.ref H.length), some (.ref (H.length + 1)), x6, x7, x8, x9, x10] ∧ Bs H l p' rows (usedK rows) h ∧ Fits [] rows ∧ Pooled rows ∧ rows ≠ [] ∧ rows.length ≤ i + 1 ∧ ∀ y ∈ namesOf rows, y ∈ names.take (i + 1))
    q3 q2 q1
    (fun i ρ h hi ⟨rows, p', j', x6, x7, x8, x9, x10, er, b, hv, hp, hne, hlen, hsub⟩ => by
      subst er
      have hi0 : i < (names.drop 1).length := by rw [LA_len] at hi; exact hi
      have hi' : i + 1 < names.length := by rw [List.length_drop] at hi0; omega
      have gi : (LA (names.drop 1))[i] = .d (.str names[i + 1]) := by simp [LA, Nat.add_comm]
      have hni : names[i + 1] ∉ namesOf rows := fun z => by
        obtain ⟨k, hk⟩ := List.mem_iff_getElem?.mp (hsub _ z)
        have hki : k < i + 1 := by
          have := (List.getElem?_eq_some_iff.mp hk).1
          rw [List.length_take] at this
          omega
        rw [List.getElem?_take_of_lt hki] at hk
        have e := (List.getElem?_inj (List.getElem?_eq_some_iff.mp hk).1 nd).mp (hk.trans (List.getElem?_eq_getElem hi').symm)
        omega
      have hpi : names[i + 1] ∈ WP := pl _ (List.getElem_mem hi')
      obtain ⟨j2, p2, rows', y7, y8, y9, y10, h2, e4, b2, f2⟩ := b.turn hv hp hne (by omega) hpi hni j' (some (.d (.int n))) (some (.d (LS names))) x7 x8 x9 x10
      refine ⟨_, h2, by rw [gi]; exact e4, rows', p2, j2, _, _, _, _, _, rfl, b2, ?_⟩
      rcases f2 with f2 | ⟨ss', f2, f3⟩
      · rw [f2]
        exact ⟨hv, hp, hne, by omega, fun y hy => by rw [take_snoc hi']; exact List.mem_append_left _ (hsub y hy)⟩
      · rw [f2]
        refine ⟨hv.snoc (by simpa using f3), fun r hr => ?_, by simp, by rw [List.length_append]; simp; omega, fun y hy => ?_⟩
        · rcases List.mem_append.mp hr with hr | hr
          · exact hp r hr
          · rw [List.mem_singleton.mp hr]; exact hpi
        · rw [take_snoc hi']
          have hy : y ∈ namesOf rows ++ [names[i + 1]] := by simpa [namesOf] using hy
          rcases List.mem_append.mp hy with hy | hy
          · exact List.mem_append_left _ (hsub y hy)
          · exact List.mem_append_right _ (by simpa using hy)) ⟨[(names[0], [])], p1, j, none, none, none, none, none, rfl, b0, v0, fun r hr => by rw [List.mem_singleton.mp hr]; exact pl _ (List.getElem_mem h0n), by simp, by simp, fun y hy => by
        have : y = names[0] := by simpa using hy
        rw [this, List.mem_iff_getElem?]
        exact ⟨0, by rw [List.getElem?_take_of_lt (by omega), List.getElem?_eq_getElem h0n]⟩⟩
  have lr : rows.length ≤ n := by
    rw [LA_len, List.length_drop] at hlen
    omega
  subst er
  have d1 : m_law_rows = mSeq (mAsg (mCall 2 fn_law_words (mCons (mVar 0) (mCons (mVar 1) mNil))) (gN 3)) (mSeq (mAsg e_start (gT 2 (gsCons (gN 4) (gsCons (gN 5) gsNil)))) (mSeq (mFor (srcQ (mSlc false (mVar 3) (some (mC (.int 1))) none)) (gN 6) b_rowT) (mRet (mVar 4)))) := rfl
  have body : m_law_rows ρ0 H = some (.rt (.ref H.length) h') := by
    rw [d1]
    exact (seq_nx s1).trans ((seq_nx s2).trans ((seq_nx e3).trans rfl))
  have tk : h'.take H.length = H.set l (URN p') := by
    apply List.ext_getElem?
    intro k
    by_cases hk : k < H.length
    · rw [List.getElem?_take_of_lt hk, b.old k hk]
    · rw [List.getElem?_eq_none (by simp; omega), List.getElem?_eq_none (by simp; omega)]
  have c := cutF_D (n := H.length) (c := H.length) (h := h') (xs := rows.map rowD) (Nat.le_refl _) b.fnd tk (hd.set dO_urn)
  refine ⟨rows, p', ?_, hv, hne, lr, hp⟩
  have z : fn_law_rows [.ref l, .d (.int n), .d (.int j)] H = finF H.length (m_law_rows ρ0 H) := mkFnF_eq rfl
  rw [z, body]
  show some (cutF H.length (.ref H.length) h') = _
  rw [c]
  rfl
end K52
set_option Elab.async false
set_option linter.all false
set_option maxRecDepth 100000
set_option maxHeartbeats 1000000
namespace K52
open PySem PySem.Spec PyProof.Rows L2 F2
def linesOf (rows : List Row) : List (Str × Str) := rows.flatMap fun r => r.2.map fun s => (s, r.1)
def pairD (p : Str × Str) : D := .tup [.str p.1, .str p.2]
def LP (ps : List (Str × Str)) : List A := ps.map fun p => .d (pairD p)
theorem LP_snoc (ps : List (Str × Str)) (p : Str × Str) : LP ps ++ [.d (pairD p)] = LP (ps ++ [p]) := by simp [LP]
theorem pair_eq (a b : Str) (h : Hh) : mkT [.d (.str a), .d (.str b)] h = some (.d (pairD (a, b)), h) := mkT_LA (ys := [a, b]) (by simp)
theorem lines_len {rows : List Row} (h : ∀ r ∈ rows, r.2.length ≤ 2) : (linesOf rows).length ≤ 2 * rows.length := by
  induction rows with
  | nil => simp [linesOf]
  | cons r rows ih =>
    have h1 := h r List.mem_cons_self
    have h2 := ih fun q hq => h q (List.mem_cons_of_mem _ hq)
    unfold linesOf at h2 ⊢
    rw [List.flatMap_cons, List.length_append, List.length_map, List.length_cons]
    omega
def e_prs : EI := (mLc false (srcQ (mVar 3)) (gN 4) mYes (mOn mkT (mCons (mVar 4) (mCons (mVar 2) mNil))) [4])
theorem prs_ok (x0 x1 x4 : Option A) (a : Str) {ss : List Str} (hz : ss.length ≤ 2) (H : Hh) : e_prs [x0, x1, some (.d (.str a)), some (.d (.tup (ss.map .str))), x4] H = some (.d (.lst ((ss.map fun s => (s, a)).map pairD)), H) := by
  obtain ⟨s, q1, q2, q3⟩ := sq_src (b := true) (xs := ss) (m := mVar 3) (ρ := [x0, x1, some (.d (.str a)), some (.d (.tup (ss.map .str))), x4]) (h := H) (h1 := H) rfl
  obtain ⟨acc, H', ⟨ea, eh⟩, e2⟩ := lc_items (items := LA ss) (g := gN 4) (t := mYes) (m := mOn mkT (mCons (mVar 4) (mCons (mVar 2) mNil))) (vs := [4]) (I := fun k acc h => acc = LP ((ss.take k).map fun s => (s, a)) ∧ h = H) q3 q2 q1
    (fun k acc h hk ⟨ea, eh⟩ => by
      subst eh
      have hk' : k < ss.length := by rw [LA_len] at hk; exact hk
      have gk : (LA ss)[k] = .d (.str ss[k]) := by simp [LA]
      refine ⟨[x0, x1, some (.d (.str a)), some (.d (.tup (ss.map .str))), some (.d (.str ss[k]))], h, true, h, by rw [gk]; rfl, rfl, (fun z => by cases z), fun _ => ⟨.d (pairD (ss[k], a)), h, (on_of (show mCons (mVar 4) (mCons (mVar 2) mNil) [x0, x1, some (.d (.str a)), some (.d (.tup (ss.map .str))), some (.d (.str ss[k]))] h = some ([.d (.str ss[k]), .d (.str a)], h) from rfl)).trans (pair_eq _ _ _), ⟨?_, rfl⟩, ?_⟩⟩
      · rw [ea, LP_snoc, take_snoc hk', List.map_append]
        rfl
      · rw [ea]
        unfold LP
        rw [List.length_map, List.length_map, List.length_take]
        omega) ⟨rfl, rfl⟩
  subst eh
  rw [LA_len, List.take_length] at ea
  unfold e_prs
  rw [e2 false, ea]
  have z := mkL_data (xs := (ss.map fun s => (s, a)).map pairD) (h := H') (by rw [List.length_map, List.length_map]; omega)
  rw [List.map_map] at z
  exact z
def b_prs : SI := (mAsg (mBin (fAdd false) (mVar 1) e_prs) (gN 1))
def g_prs : GI := (gT 2 (gsCons (gN 2) (gsCons (gN 3) gsNil)))
end K52
set_option Elab.async false
set_option linter.all false
set_option maxRecDepth 100000
set_option maxHeartbeats 1000000
namespace K52
open PySem PySem.Spec PyProof.Rows L2 F2
theorem lines_eq {rows : List Row} (hs : ∀ r ∈ rows, r.2.length ≤ 2) (hz : rows.length ≤ 40) (H : Hh) : fn_law_lines [.d (rowsD rows)] H = some (.d (.lst ((linesOf rows).map pairD)), H) := by
  have src := srcQ_data (m := mVar 0) (ρ := [some (.d (rowsD rows)), some (.d (.lst [])), none, none, none]) (h := H) (h1 := H) (xs := rows.map rowD) rfl
  obtain ⟨ρ', H', e4, x2, x3, x4, e5, e6⟩ := for_items (items := (rows.map rowD).map A.d) (g := g_prs) (b := b_prs) (I := fun i ρ h => ∃ x2 x3 x4 : Option A, ρ = [some (.d (rowsD rows)), some (.d (.lst ((linesOf (rows.take i)).map pairD))), x2, x3, x4] ∧ h = H) (fun i h => items_map _ h i) (by simp) src
    (fun i ρ h hi ⟨x2, x3, x4, e5, e6⟩ => by
      subst e5 e6
      have hi' : i < rows.length := by simpa using hi
      have gi : ((rows.map rowD).map A.d)[i] = .d (rowD rows[i]) := by simp
      have hm : rows[i] ∈ rows := List.getElem_mem hi'
      have tl := lines_len (rows := rows.take i) (fun q hq => hs q (List.mem_of_mem_take hq))
      rw [List.length_take] at tl
      have h2 := hs _ hm
      let ρ1 : En := [some (.d (rowsD rows)), some (.d (.lst ((linesOf (rows.take i)).map pairD))), some (.d (.str rows[i].1)), some (.d (.tup (rows[i].2.map .str))), x4]
      have q1 := prs_ok (some (.d (rowsD rows))) (some (.d (.lst ((linesOf (rows.take i)).map pairD)))) x4 rows[i].1 h2 h
      have q2 := (bin_of (f := fAdd false) (show mVar 1 ρ1 h = some (.d (.lst ((linesOf (rows.take i)).map pairD)), h) from rfl) q1).trans (addL_data (by rw [List.length_map, List.length_map, List.length_map]; omega))
      have q3 := asg_N (i := 1) q2
      have el : (linesOf (rows.take i)).map pairD ++ (rows[i].2.map fun s => (s, rows[i].1)).map pairD = (linesOf (rows.take (i + 1))).map pairD := by
        rw [take_snoc hi', ← List.map_append]
        unfold linesOf
        rw [List.flatMap_append]
        simp
      rw [el] at q3
      refine ⟨[some (.d (rowsD rows)), some (.d (.lst ((linesOf (rows.take (i + 1))).map pairD))), some (.d (.str rows[i].1)), some (.d (.tup (rows[i].2.map .str))), x4], h, ?_, _, _, _, rfl, rfl⟩
      rw [gi]
      exact q3) ⟨none, none, none, rfl, rfl⟩
  subst e5 e6
  have ln : ((rows.map rowD).map A.d).length = rows.length := by simp
  rw [ln, List.take_length] at e4
  have z : fn_law_lines [.d (rowsD rows)] H' = finP H'.length (m_law_lines [some (.d (rowsD rows)), none, none, none, none] H') := mkFn_eq rfl
  have d1 : m_law_lines = mSeq (mAsg (mOn (mkL false) mNil) (gN 1)) (mSeq (mFor (srcQ (mVar 0)) g_prs b_prs) (mRet (mVar 1))) := rfl
  have b : m_law_lines [some (.d (rowsD rows)), none, none, none, none] H' = some (.rt (.d (.lst ((linesOf rows).map pairD))) H') := by
    rw [d1]
    exact (seq_nx (asg_N (nil_data _ H'))).trans ((seq_nx e4).trans rfl)
  rw [z, b]
  show some (cut H'.length (.d (.lst ((linesOf rows).map pairD))) H') = _
  rw [cut_same rfl]
/-! ### the copies that are no ends -/
def srcsOf (rows : List Row) : List Str := (linesOf rows).map (·.1)
def isIn (rows : List Row) (x : Str) : Bool := decide (x ∈ srcsOf rows)
def innerOf (rows : List Row) : List Str := (namesOf rows).filter (isIn rows)
def e_srcs : EI := (mLc false (srcQ (mCall 1 fn_law_lines (mCons (mVar 0) mNil))) (gN 2) mYes (mBin fIx (mVar 2) (mC (.int 0))) [2])
def t_inner : TI' := (mBl (mBin (fIn false) (mVar 3) (mVar 1)))
def e_inner : EI := (mLc false (srcQ (mVar 0)) (gT 2 (gsCons (gN 3) (gsCons (gN 4) gsNil))) t_inner (mVar 3) [3, 4])
theorem inF_data {x : Str} {b : Bool} {ss : List Str} {H : Hh} : fIn false (.d (.str x)) (.d (SQ b ss)) H = some (.d (.bl (decide (x ∈ ss))), H) := by
  have k : fInK false (.d (.str x)) (.d (SQ b ss)) H = none := by
    unfold fInK
    cases b <;> rfl
  have e : fInF false (.d (.str x)) (.d (SQ b ss)) H = some (.d (.bl (decide (x ∈ ss))), H) := by
    unfold fInF
    rw [show fvs [.d (.str x)] = some [V.str x] from rfl]
    dsimp only
    have fm : fvs ((ss.map D.str).map A.d) = some (ss.map V.str) := by
      have := fvs_LA ss
      unfold LA at this
      rw [List.map_map]
      exact this
    cases b with
    | true =>
      show (match (itemsL (.d (.tup (ss.map .str))) H) with
        | some ys => (fvs ys).map fun us => (A.d (.bl (false ^^ inV (V.str x) us)), H)
        | none => match itemsT (.d (.tup (ss.map .str))) with
          | some ys => (fvs ys).map fun us => (A.d (.bl (false ^^ inV (V.str x) us)), H)
          | none => none) = _
      show (fvs ((ss.map D.str).map A.d)).map _ = _
      rw [fm]
      simp [inV_strs]
    | false =>
      show (fvs ((ss.map D.str).map A.d)).map (fun us => (A.d (.bl (false ^^ inV (V.str x) us)), H)) = _
      rw [fm]
      simp [inV_strs]
  unfold fIn orF
  rw [k]
  dsimp only
  rw [e]
theorem srcs_ok {rows : List Row} (hs : ∀ r ∈ rows, r.2.length ≤ 2) (hz : rows.length ≤ 40) (x1 x3 x4 : Option A) (H : Hh) : e_srcs [some (.d (rowsD rows)), x1, none, x3, x4] H = some (.d (LS (srcsOf rows)), H) := by
  have c := (call_of (n := 1) (F := fn_law_lines) (show mCons (mVar 0) mNil [some (.d (rowsD rows)), x1, none, x3, x4] H = some ([.d (rowsD rows)], H) from rfl) rfl).trans (lines_eq hs hz H)
  have src := srcQ_data c
  have ll := lines_len (rows := rows) hs
  obtain ⟨acc, H', ⟨ea, eh⟩, e2⟩ := lc_items (items := ((linesOf rows).map pairD).map A.d) (g := gN 2) (t := mYes) (m := mBin fIx (mVar 2) (mC (.int 0))) (vs := [2]) (I := fun k acc h => acc = LA ((srcsOf rows).take k) ∧ h = H) (fun i h => items_map _ h i) (by simp) src
    (fun k acc h hk ⟨ea, eh⟩ => by
      subst eh
      have hk' : k < (linesOf rows).length := by simpa using hk
      have hk2 : k < (srcsOf rows).length := by unfold srcsOf; rw [List.length_map]; exact hk'
      have gk : (((linesOf rows).map pairD).map A.d)[k] = .d (pairD (linesOf rows)[k]) := by simp
      have sk : (srcsOf rows)[k] = (linesOf rows)[k].1 := by simp [srcsOf]
      refine ⟨[some (.d (rowsD rows)), x1, some (.d (pairD (linesOf rows)[k])), x3, x4], h, true, h, by rw [gk]; rfl, rfl, (fun z => by cases z), fun _ => ⟨.d (.str (linesOf rows)[k].1), h, ?_, ⟨?_, rfl⟩, ?_⟩⟩
      · exact (bin_of (f := fIx) (show mVar 2 [some (.d (rowsD rows)), x1, some (.d (pairD (linesOf rows)[k])), x3, x4] h = some (.d (SQ true [(linesOf rows)[k].1, (linesOf rows)[k].2]), h) from rfl) (show mC (.int 0) [some (.d (rowsD rows)), x1, some (.d (pairD (linesOf rows)[k])), x3, x4] h = some (.d (.int (0 : Nat)), h) from rfl)).trans (sq_at (i := 0) (by simp))
      · rw [ea, LA_snoc, take_snoc hk2, sk]
      · rw [ea, LA_len, List.length_take]; omega) ⟨rfl, rfl⟩
  subst eh
  have ln : (((linesOf rows).map pairD).map A.d).length = (srcsOf rows).length := by simp [srcsOf]
  rw [ln, List.take_length] at ea
  unfold e_srcs
  rw [e2 false, ea]
  have z := mkL_data (xs := (srcsOf rows).map D.str) (h := H') (by rw [List.length_map]; unfold srcsOf; rw [List.length_map]; omega)
  rw [List.map_map] at z
  exact z
theorem inner_eq {rows : List Row} (hs : ∀ r ∈ rows, r.2.length ≤ 2) (hz : rows.length ≤ 40) (H : Hh) : fn_law_inner [.d (rowsD rows)] H = some (.d (LS (innerOf rows)), H) := by
  have e1 := srcs_ok hs hz none none none H
  let ρ : En := [some (.d (rowsD rows)), some (.d (LS (srcsOf rows))), none, none, none]
  have src := srcQ_data (m := mVar 0) (ρ := ρ) (h := H) (h1 := H) (xs := rows.map rowD) rfl
  obtain ⟨acc, H', ⟨ea, eh⟩, e2⟩ := lc_items (items := (rows.map rowD).map A.d) (g := gT 2 (gsCons (gN 3) (gsCons (gN 4) gsNil))) (t := t_inner) (m := mVar 3) (vs := [3, 4]) (I := fun k acc h => acc = LA (((namesOf rows).take k).filter (isIn rows)) ∧ h = H) (fun i h => items_map _ h i) (by simp) src
    (fun k acc h hk ⟨ea, eh⟩ => by
      subst eh
      have hk' : k < rows.length := by simpa using hk
      have hk2 : k < (namesOf rows).length := by rw [List.length_map]; exact hk'
      have gk : ((rows.map rowD).map A.d)[k] = .d (rowD rows[k]) := by simp
      have nk : (namesOf rows)[k] = rows[k].1 := by simp
      let ρ1 : En := [some (.d (rowsD rows)), some (.d (LS (srcsOf rows))), none, some (.d (.str rows[k].1)), some (.d (.tup (rows[k].2.map .str)))]
      have t1 : t_inner ρ1 h = some (isIn rows rows[k].1, h) := bl_of ((bin_of (f := fIn false) (show mVar 3 ρ1 h = some (.d (.str rows[k].1), h) from rfl) (show mVar 1 ρ1 h = some (.d (SQ false (srcsOf rows)), h) from rfl)).trans inF_data)
      refine ⟨ρ1, h, isIn rows rows[k].1, h, by rw [gk]; rfl, t1, fun z => ⟨?_, rfl⟩, fun z => ⟨.d (.str rows[k].1), h, rfl, ⟨?_, rfl⟩, ?_⟩⟩
      · rw [ea, take_snoc hk2, List.filter_append, nk, List.filter_cons, z]
        simp
      · rw [ea, take_snoc hk2, List.filter_append, nk, List.filter_cons, z, LA_snoc]
        simp
      · rw [ea, LA_len]
        have := List.length_filter_le (isIn rows) ((namesOf rows).take k)
        rw [List.length_take, List.length_map] at this
        omega) ⟨rfl, rfl⟩
  subst eh
  have ln : ((rows.map rowD).map A.d).length = (namesOf rows).length := by simp
  rw [ln, List.take_length] at ea
  have hle : (innerOf rows).length ≤ 40 := by
    unfold innerOf
    have := List.length_filter_le (isIn rows) (namesOf rows)
    rw [List.length_map] at this
    omega
  have l1 : e_inner ρ H' = some (.d (LS (innerOf rows)), H') := by
    unfold e_inner
    rw [e2 false, ea]
    have z := mkL_data (xs := (innerOf rows).map D.str) (h := H') (by rw [List.length_map]; omega)
    rw [List.map_map] at z
    exact z
  have z : fn_law_inner [.d (rowsD rows)] H' = finP H'.length (m_law_inner [some (.d (rowsD rows)), none, none, none, none] H') := mkFn_eq rfl
  have d1 : m_law_inner = mSeq (mAsg e_srcs (gN 1)) (mRet e_inner) := rfl
  have b : m_law_inner [some (.d (rowsD rows)), none, none, none, none] H' = some (.rt (.d (LS (innerOf rows))) H') := by
    rw [d1]
    refine (seq_nx (asg_N (i := 1) e1)).trans ?_
    show mRet e_inner ρ H' = _
    unfold mRet
    rw [l1]
  rw [z, b]
  show some (cut H'.length _ H') = _
  rw [cut_same rfl]
end K52
set_option Elab.async false
set_option linter.all false
set_option maxRecDepth 100000
set_option maxHeartbeats 1000000
namespace K52
open PySem PySem.Spec PyProof.Rows L2 F2
/-! ### all tuples of sources -/
def tupD (xs : List Str) : D := .tup (xs.map .str)
def e_ext : EI := (mLc false (srcQ (mVar 3)) (gN 6) mYes (mBin fCatT (mVar 5) (mOn mkT (mCons (mVar 6) mNil))) [6])
def b_ext : SI := (mAsg (mBin (fAdd false) (mVar 4) e_ext) (gN 4))
def b_tup : SI := (mSeq (mAsg (mOn (mkL false) mNil) (gN 4)) (mSeq (mFor (srcQ (mVar 1)) (gN 5) b_ext) (mAsg (mVar 4) (gN 1))))
theorem catT_eq {xs : List Str} (o : Str) (hz : xs.length < 900) (H : Hh) : fCatT (.d (tupD xs)) (.d (.tup [.str o])) H = some (.d (tupD (xs ++ [o])), H) := by
  unfold fCatT
  have e1 : itemsT (.d (tupD xs)) = some ((xs.map D.str).map A.d) := rfl
  have e2 : itemsT (.d (.tup [.str o])) = some [.d (.str o)] := rfl
  rw [e1, e2]
  dsimp only
  have lv := LIMv
  rw [if_pos (by simp; omega)]
  cases xs with
  | nil => rfl
  | cons x xs =>
    rw [if_neg (by simp), if_neg (by simp)]
    have := mkT_LA (ys := (x :: xs) ++ [o]) (h := H) (by simp at hz ⊢; omega)
    have el : ((x :: xs).map D.str).map A.d ++ [.d (.str o)] = LA ((x :: xs) ++ [o]) := by simp [LA]
    rw [el]
    exact this
theorem ext_ok (x0 x1 x2 x4 x6 : Option A) {xs : List Str} (hx : xs.length < 900) {ss : List Str} (hz : ss.length ≤ 2) (H : Hh) : e_ext [x0, x1, x2, some (.d (.tup (ss.map .str))), x4, some (.d (tupD xs)), x6] H = some (.d (.lst ((ss.map fun s => xs ++ [s]).map tupD)), H) := by
  obtain ⟨s, q1, q2, q3⟩ := sq_src (b := true) (xs := ss) (m := mVar 3) (ρ := [x0, x1, x2, some (.d (.tup (ss.map .str))), x4, some (.d (tupD xs)), x6]) (h := H) (h1 := H) rfl
  obtain ⟨acc, H', ⟨ea, eh⟩, e2⟩ := lc_items (items := LA ss) (g := gN 6) (t := mYes) (m := mBin fCatT (mVar 5) (mOn mkT (mCons (mVar 6) mNil))) (vs := [6]) (I := fun k acc h => acc = ((ss.take k).map fun s => A.d (tupD (xs ++ [s]))) ∧ h = H) q3 q2 q1
    (fun k acc h hk ⟨ea, eh⟩ => by
      subst eh
      have hk' : k < ss.length := by rw [LA_len] at hk; exact hk
      have gk : (LA ss)[k] = .d (.str ss[k]) := by simp [LA]
      let ρ1 : En := [x0, x1, x2, some (.d (.tup (ss.map .str))), x4, some (.d (tupD xs)), some (.d (.str ss[k]))]
      have a1 : mOn mkT (mCons (mVar 6) mNil) ρ1 h = some (.d (.tup [.str ss[k]]), h) := rfl
      refine ⟨ρ1, h, true, h, by rw [gk]; rfl, rfl, (fun z => by cases z), fun _ => ⟨.d (tupD (xs ++ [ss[k]])), h, (bin_of (f := fCatT) (show mVar 5 ρ1 h = some (.d (tupD xs), h) from rfl) a1).trans (catT_eq _ hx h), ⟨?_, rfl⟩, ?_⟩⟩
      · rw [ea, take_snoc hk', List.map_append]
        rfl
      · rw [ea, List.length_map, List.length_take]
        omega) ⟨rfl, rfl⟩
  subst eh
  rw [LA_len, List.take_length] at ea
  unfold e_ext
  rw [e2 false, ea]
  have z := mkL_data (xs := (ss.map fun s => xs ++ [s]).map tupD) (h := H') (by rw [List.length_map, List.length_map]; omega)
  rw [List.map_map, List.map_map] at z
  exact z
/-- found longer by a source of this row -/
def longer (found : List (List Str)) (ss : List Str) : List (List Str) := found.flatMap fun xs => ss.map fun s => xs ++ [s]
theorem longer_len {found : List (List Str)} {ss : List Str} (hz : ss.length ≤ 2) : (longer found ss).length ≤ found.length * 2 := by
  induction found with
  | nil => simp [longer]
  | cons x found ih =>
    have : longer (x :: found) ss = (ss.map fun s => x ++ [s]) ++ longer found ss := by simp [longer]
    rw [this, List.length_append, List.length_map, List.length_cons]
    omega
theorem longer_mem {found : List (List Str)} {ss : List Str} {n : Nat} (h : ∀ xs ∈ found, xs.length = n) : ∀ xs ∈ longer found ss, xs.length = n + 1 := by
  intro xs hx
  unfold longer at hx
  rw [List.mem_flatMap] at hx
  obtain ⟨ys, hy, hx⟩ := hx
  obtain ⟨s, _, rfl⟩ := List.mem_map.mp hx
  rw [List.length_append, h ys hy]; rfl
theorem longer_src {found : List (List Str)} {ss : List Str} {C : Str → Prop} (h : ∀ xs ∈ found, ∀ z ∈ xs, C z) (hs : ∀ s ∈ ss, C s) : ∀ xs ∈ longer found ss, ∀ z ∈ xs, C z := by
  intro xs hx z hz
  unfold longer at hx
  rw [List.mem_flatMap] at hx
  obtain ⟨ys, hy, hx⟩ := hx
  obtain ⟨s, hs', rfl⟩ := List.mem_map.mp hx
  rcases List.mem_append.mp hz with hz | hz
  · exact h ys hy z hz
  · rw [List.mem_singleton.mp hz]; exact hs s hs'
theorem longer_ne {found : List (List Str)} {ss : List Str} (h : found ≠ []) (hs : ss ≠ []) : longer found ss ≠ [] := by
  cases found with
  | nil => exact absurd rfl h
  | cons x found =>
    cases ss with
    | nil => exact absurd rfl hs
    | cons s ss => simp [longer]
theorem turn_tup {found : List (List Str)} {n : Nat} (hf : found.length ≤ 256) (hn : ∀ xs ∈ found, xs.length = n) (h9 : n < 900) {r : Row} (hz : r.2.length ≤ 2) (x0 x4 x5 x6 : Option A) (H : Hh) :
    ∃ y4 y5 y6, mTurn (gT 2 (gsCons (gN 2) (gsCons (gN 3) gsNil))) b_tup (.d (rowD r)) [x0, some (.d (.lst (found.map tupD))), x2, x3, x4, x5, x6] H = some (.nx [x0, some (.d (.lst ((longer found r.2).map tupD))), some (.d (.str r.1)), some (.d (.tup (r.2.map .str))), y4, y5, y6] H) := by
  let ρ1 : En := [x0, some (.d (.lst (found.map tupD))), some (.d (.str r.1)), some (.d (.tup (r.2.map .str))), x4, x5, x6]
  have s1 : mAsg (mOn (mkL false) mNil) (gN 4) ρ1 H = some (.nx [x0, some (.d (.lst (found.map tupD))), some (.d (.str r.1)), some (.d (.tup (r.2.map .str))), some (.d (.lst [])), x5, x6] H) := asg_N (i := 4) (nil_data _ H)
  let ρ2 : En := [x0, some (.d (.lst (found.map tupD))), some (.d (.str r.1)), some (.d (.tup (r.2.map .str))), some (.d (.lst [])), x5, x6]
  have src := srcQ_data (m := mVar 1) (ρ := ρ2) (h := H) (h1 := H) (xs := found.map tupD) rfl
  obtain ⟨ρ', H', e4, y5, y6, e5, e6⟩ := for_items (items := (found.map tupD).map A.d) (g := gN 5) (b := b_ext) (I := fun i ρ h => ∃ y5 y6 : Option A, ρ = [x0, some (.d (.lst (found.map tupD))), some (.d (.str r.1)), some (.d (.tup (r.2.map .str))), some (.d (.lst ((longer (found.take i) r.2).map tupD))), y5, y6] ∧ h = H) (fun i h => items_map _ h i) (by simp) src
    (fun i ρ h hi ⟨y5, y6, e5, e6⟩ => by
      subst e5 e6
      have hi' : i < found.length := by simpa using hi
      have gi : ((found.map tupD).map A.d)[i] = .d (tupD found[i]) := by simp
      have tl := longer_len (found := found.take i) hz
      rw [List.length_take] at tl
      let ρ3 : En := [x0, some (.d (.lst (found.map tupD))), some (.d (.str r.1)), some (.d (.tup (r.2.map .str))), some (.d (.lst ((longer (found.take i) r.2).map tupD))), some (.d (tupD found[i])), y6]
      have q1 := ext_ok x0 (some (.d (.lst (found.map tupD)))) (some (.d (.str r.1))) (some (.d (.lst ((longer (found.take i) r.2).map tupD)))) y6 (xs := found[i]) (by rw [hn _ (List.getElem_mem hi')]; omega) hz h
      have q2 := (bin_of (f := fAdd false) (show mVar 4 ρ3 h = some (.d (.lst ((longer (found.take i) r.2).map tupD)), h) from rfl) q1).trans (addL_data (by rw [List.length_map, List.length_map, List.length_map]; omega))
      have q3 := asg_N (i := 4) q2
      have el : (longer (found.take i) r.2).map tupD ++ (r.2.map fun s => found[i] ++ [s]).map tupD = (longer (found.take (i + 1)) r.2).map tupD := by
        rw [take_snoc hi', ← List.map_append]
        unfold longer
        rw [List.flatMap_append]
        simp
      rw [el] at q3
      refine ⟨_, h, (by rw [gi]; exact q3), some (.d (tupD found[i])), y6, rfl, rfl⟩) ⟨x5, x6, rfl, rfl⟩
  subst e5 e6
  have ln : ((found.map tupD).map A.d).length = found.length := by simp
  rw [ln, List.take_length] at e4
  refine ⟨some (.d (.lst ((longer found r.2).map tupD))), y5, y6, ?_⟩
  show b_tup ρ1 H' = _
  unfold b_tup
  exact (seq_nx s1).trans ((seq_nx e4).trans rfl)
theorem tuples_eq {rows : List Row} (hs : ∀ r ∈ rows, r.2.length ≤ 2) (hne : ∀ r ∈ rows.drop 1, r.2 ≠ []) (hz : rows.length ≤ 9) (h1 : rows ≠ []) (H : Hh) :
    ∃ ts : List (List Str), fn_law_tuples [.d (rowsD rows)] H = some (.d (.lst (ts.map tupD)), H) ∧ ts ≠ [] ∧ ts.length ≤ 256 ∧ (∀ xs ∈ ts, xs.length + 1 = rows.length) ∧ ∀ xs ∈ ts, ∀ z ∈ xs, ∃ r ∈ rows, z ∈ r.2 := by
  have d1 : m_law_tuples = mSeq (mAsg (mOn (mkL false) (mCons (mOn mkT mNil) mNil)) (gN 1)) (mSeq (mFor (srcQ (mSlc false (mVar 0) (some (mC (.int 1))) none)) (gT 2 (gsCons (gN 2) (gsCons (gN 3) gsNil))) b_tup) (mRet (mVar 1))) := rfl
  have s1 : mAsg (mOn (mkL false) (mCons (mOn mkT mNil) mNil)) (gN 1) [some (.d (rowsD rows)), none, none, none, none, none, none] H = some (.nx [some (.d (rowsD rows)), some (.d (.lst ([[]].map tupD))), none, none, none, none, none] H) := asg_N (i := 1) (mkL_data (xs := [.tup []]) (by simp))
  let ρ1 : En := [some (.d (rowsD rows)), some (.d (.lst ([[]].map tupD))), none, none, none, none, none]
  have sl := slc1 (i := 0) (ρ := ρ1) (h := H) (xs := rows.map rowD) rfl (by rw [List.length_map]; omega)
  rw [← List.map_drop] at sl
  have src := srcQ_data sl
  have hlen : (rows.drop 1).length + 1 = rows.length := by
    rw [List.length_drop]
    have := len_pos h1
    omega
  obtain ⟨ρ', H', e4, found, x2, x3, x4, x5, x6, e5, e6, hf, hn, hfe, hsr⟩ := for_items (items := ((rows.drop 1).map rowD).map A.d) (g := gT 2 (gsCons (gN 2) (gsCons (gN 3) gsNil))) (b := b_tup) (I := fun i ρ h => ∃ (found : List (List Str)) (x2 x3 x4 x5 x6 : Option A), ρ = [some (.d (rowsD rows)), some (.d (.lst (found.map tupD))), x2, x3, x4, x5, x6] ∧ h = H ∧ found.length ≤ 2 ^ i ∧ (∀ xs ∈ found, xs.length = i) ∧ found ≠ [] ∧ ∀ xs ∈ found, ∀ z ∈ xs, ∃ r ∈ rows, z ∈ r.2) (fun i h => items_map _ h i) (by simp) src
    (fun i ρ h hi ⟨found, x2, x3, x4, x5, x6, e5, e6, hf, hn, hfe, hsr⟩ => by
      subst e5 e6
      have hi' : i < (rows.drop 1).length := by simpa using hi
      have hi8 : i < 8 := by omega
      have gi : (((rows.drop 1).map rowD).map A.d)[i] = .d (rowD (rows.drop 1)[i]) := by simp
      have hm := List.getElem_mem hi'
      have p8 : 2 ^ i ≤ 128 := by
        have := Nat.pow_le_pow_right (n := 2) (by omega) (show i ≤ 7 by omega)
        simpa using this
      have r2 := hs _ (List.mem_of_mem_drop hm)
      obtain ⟨y4, y5, y6, e⟩ := turn_tup (x2 := x2) (x3 := x3) (found := found) (by omega) hn (by omega) r2 (some (.d (rowsD rows))) x4 x5 x6 h
      refine ⟨_, h, by rw [gi]; exact e, longer found (rows.drop 1)[i].2, _, _, _, _, _, rfl, rfl, ?_, longer_mem hn, longer_ne hfe (hne _ hm), longer_src hsr fun s hs' => ⟨_, List.mem_of_mem_drop hm, hs'⟩⟩
      have := longer_len (found := found) r2
      rw [Nat.pow_succ]
      omega) ⟨[[]], none, none, none, none, none, rfl, rfl, by simp, by simp, by simp, by simp⟩
  subst e5 e6
  have ln : (((rows.drop 1).map rowD).map A.d).length = (rows.drop 1).length := by simp
  rw [ln] at hf hn
  have p8 : 2 ^ (rows.drop 1).length ≤ 256 := by
    have := Nat.pow_le_pow_right (n := 2) (by omega) (show (rows.drop 1).length ≤ 8 by omega)
    simpa using this
  refine ⟨found, ?_, hfe, by omega, fun xs hx => by rw [hn xs hx]; exact hlen, hsr⟩
  have z : fn_law_tuples [.d (rowsD rows)] H' = finP H'.length (m_law_tuples [some (.d (rowsD rows)), none, none, none, none, none, none] H') := mkFn_eq rfl
  have b : m_law_tuples [some (.d (rowsD rows)), none, none, none, none, none, none] H' = some (.rt (.d (.lst (found.map tupD))) H') := by
    rw [d1]
    exact (seq_nx s1).trans ((seq_nx e4).trans rfl)
  rw [z, b]
  show some (cut H'.length _ H') = _
  rw [cut_same rfl]
end K52
set_option Elab.async false
set_option linter.all false
set_option maxRecDepth 100000
set_option maxHeartbeats 1000000
namespace K52
open PySem PySem.Spec PyProof.Rows L2 F2
/-! ### any element -/
def Elem (d : D) : Prop := (∃ z, d = .str z) ∨ d = .non ∨ d = .int 0 ∨ (∃ zs : List Str, d = .tup (zs.map .str) ∧ ∀ z ∈ zs, PyData.strOk z = true) ∨ ∃ zs : List Str, d = .lst (zs.map .str) ∧ ∀ z ∈ zs, PyData.strOk z = true
def hit (d : D) (ss : List Str) : Bool := match d with
  | .str z => decide (z ∈ ss)
  | _ => false
theorem shaped_of {xs : List Str} (ho : ∀ x ∈ xs, PyData.strOk x = true) (b : Bool) : SeqAt.shaped (if b then .tuple (xs.map PyData.str) else .list (xs.map PyData.str)) = true := by
  have h := shaped_strs ho
  unfold SeqAt.shaped at h ⊢
  cases b
  · exact h
  · simpa [PyData.canLay0, PyData.depth] using h
theorem fvs_tup {d : D} {xs : List D} (h : fv d = none) : fvs (A.d d :: xs.map A.d) = none := by
  show (match fv d with
    | some v => (fvs (xs.map A.d)).map (v :: ·)
    | none => none) = none
  rw [h]
theorem inV_no {v : V} (h : ∀ z, eqV (V.str z) v = false) : ∀ ss : List Str, inV v (ss.map V.str) = false := by
  intro ss
  unfold inV
  rw [List.any_eq_false]
  intro x hx
  obtain ⟨s, _, rfl⟩ := List.mem_map.mp hx
  rw [h s]
  exact Bool.false_ne_true
def IN : A → A → Hh → Option (A × Hh) := orF (fIn false) (fInT false)
theorem in_elem {d : D} (e : Elem d) {ss : List Str} (ho : ∀ s ∈ ss, PyData.strOk s = true) (H : Hh) : IN (.d d) (.d (.tup (ss.map .str))) H = some (.d (.bl (hit d ss)), H) := by
  have tb : F2.tabOf (.d (.tup (ss.map .str))) H = none := rfl
  have fm : fvs ((ss.map D.str).map A.d) = some (ss.map V.str) := by
    have := fvs_LA ss
    unfold LA at this
    rw [List.map_map]
    exact this
  have kn : fInK false (.d d) (.d (.tup (ss.map .str))) H = none := by unfold fInK; rw [tb]
  rcases e with ⟨z, rfl⟩ | rfl | rfl | ⟨zs, rfl, hz⟩ | ⟨zs, rfl, hz⟩
  · have := inF_data (x := z) (b := true) (ss := ss) (H := H)
    unfold IN
    show (match fIn false (.d (.str z)) (.d (SQ true ss)) H with
      | some r => some r
      | none => _) = _
    rw [this]
    rfl
  · have e : fInF false (.d .non) (.d (.tup (ss.map .str))) H = some (.d (.bl (false ^^ inV V.non (ss.map V.str))), H) := by
      show (fvs ((ss.map D.str).map A.d)).map (fun us => (A.d (.bl (false ^^ inV V.non us)), H)) = _
      rw [fm]; rfl
    unfold IN fIn orF
    rw [kn]
    dsimp only
    rw [e, inV_no (fun z => rfl)]
    rfl
  · have e : fInF false (.d (.int 0)) (.d (.tup (ss.map .str))) H = some (.d (.bl (false ^^ inV (V.int 0) (ss.map V.str))), H) := by
      show (fvs ((ss.map D.str).map A.d)).map (fun us => (A.d (.bl (false ^^ inV (V.int 0) us)), H)) = _
      rw [fm]; rfl
    unfold IN fIn orF
    rw [kn]
    dsimp only
    rw [e, inV_no (fun z => rfl)]
    rfl
  · have py : pyOf (.d (.tup (ss.map .str))) H = some (.tuple (ss.map PyData.str)) := by simp [pyOf, toPy, strs_py]
    have px : pyOf (.d (.tup (zs.map .str))) H = some (.tuple (zs.map PyData.str)) := by simp [pyOf, toPy, strs_py]
    have sy := shaped_of ho true
    have sx := shaped_of hz true
    simp only [if_true] at sy sx
    have e1 : fInF false (.d (.tup (zs.map .str))) (.d (.tup (ss.map .str))) H = none := rfl
    have e2 : fInD false (.d (.tup (zs.map .str))) (.d (.tup (ss.map .str))) H = none := by unfold fInD; rw [px, py]
    have e3 : fInT false (.d (.tup (zs.map .str))) (.d (.tup (ss.map .str))) H = some (.d (.bl false), H) := by
      unfold fInT
      rw [px, py]
      dsimp only
      rw [sy, sx]
      have : ((ss.map PyData.str).any fun z => PyData.eqv z (.tuple (zs.map PyData.str))) = false := by
        rw [List.any_eq_false]
        intro x hx
        obtain ⟨s, _, rfl⟩ := List.mem_map.mp hx
        simp [PyData.eqv]
      rw [this]
      rfl
    unfold IN fIn orF
    rw [kn]
    dsimp only
    rw [e1]
    dsimp only
    rw [e2]
    dsimp only
    rw [e3]
    rfl
  · have py : pyOf (.d (.tup (ss.map .str))) H = some (.tuple (ss.map PyData.str)) := by simp [pyOf, toPy, strs_py]
    have px : pyOf (.d (.lst (zs.map .str))) H = some (.list (zs.map PyData.str)) := by simp [pyOf, toPy, strs_py]
    have sy := shaped_of ho true
    have sx := shaped_of hz false
    simp only [if_true, Bool.false_eq_true, if_false] at sy sx
    have e1 : fInF false (.d (.lst (zs.map .str))) (.d (.tup (ss.map .str))) H = none := rfl
    have e2 : fInD false (.d (.lst (zs.map .str))) (.d (.tup (ss.map .str))) H = none := by unfold fInD; rw [px, py]
    have e3 : fInT false (.d (.lst (zs.map .str))) (.d (.tup (ss.map .str))) H = some (.d (.bl false), H) := by
      unfold fInT
      rw [px, py]
      dsimp only
      rw [sy, sx]
      have : ((ss.map PyData.str).any fun z => PyData.eqv z (.list (zs.map PyData.str))) = false := by
        rw [List.any_eq_false]
        intro x hx
        obtain ⟨s, _, rfl⟩ := List.mem_map.mp hx
        simp [PyData.eqv]
      rw [this]
      rfl
    unfold IN fIn orF
    rw [kn]
    dsimp only
    rw [e1]
    dsimp only
    rw [e2]
    dsimp only
    rw [e3]
    rfl
/-- the program's own look -/
theorem one_elem {d : D} (e : Elem d) {ss : List Str} (H : Hh) : fn_is_one_of [.d d, .d (LS ss)] H = some (.d (.bl (hit d ss)), H) := by
  have z : fn_is_one_of [.d d, .d (LS ss)] H = finP H.length (m_is_one_of [some (.d d), some (.d (LS ss))] H) := mkFn_eq rfl
  have fin : ∀ k, m_is_one_of [some (.d d), some (.d (LS ss))] H = some (.rt (.d (.bl k)) H) → fn_is_one_of [.d d, .d (LS ss)] H = some (.d (.bl k), H) := fun k q => by
    rw [z, q]
    show some (cut H.length _ H) = _
    rw [cut_same rfl]
  apply fin
  have d1 : m_is_one_of = mRet (mAnd (mIsi "str" (mVar 0)) (mBin (fIn false) (mVar 0) (mVar 1))) := rfl
  rcases e with ⟨x, rfl⟩ | rfl | rfl | ⟨zs, rfl, hz⟩ | ⟨zs, rfl, hz⟩
  · have a1 : mIsi "str" (mVar 0) [some (.d (.str x)), some (.d (LS ss))] H = some (.d (.bl true), H) := rfl
    have a2 : mBin (fIn false) (mVar 0) (mVar 1) [some (.d (.str x)), some (.d (LS ss))] H = some (.d (.bl (decide (x ∈ ss))), H) := (bin_of (f := fIn false) rfl rfl).trans (inF_data (b := false))
    rw [d1]
    unfold mRet mAnd
    rw [a1]
    show (match mBin (fIn false) (mVar 0) (mVar 1) [some (.d (.str x)), some (.d (LS ss))] H with
      | some (a, h1) => some (Out.rt a h1)
      | none => none) = _
    rw [a2]
    rfl
  · rfl
  · rfl
  · rfl
  · rfl
end K52
set_option Elab.async false
set_option linter.all false
set_option maxRecDepth 100000
set_option maxHeartbeats 1000000
namespace K52
open PySem PySem.Spec PyProof.Rows L2 F2
/-! ### what a choice is -/
def hits (xs : List D) (rs : List Row) : List Bool := List.zipWith (fun x r => hit x r.2) xs rs
def isS (w : Str) (d : D) : Bool := match d with
  | .str z => decide (z = w)
  | _ => false
def isCh (rows : List Row) (t : D) : Bool := match t with
  | .tup xs => decide (xs.length + 1 = rows.length) && ((hits xs (rows.drop 1)).all id && (innerOf rows).all fun w => xs.any (isS w))
  | _ => false
/-- what is asked of a value -/
def Okd (t : D) : Prop := (∃ xs, t = .tup xs ∧ (∀ x ∈ xs, Elem x) ∧ xs.length < 500) ∨ ∃ xs, t = .lst xs
theorem bls_map : ∀ bs : List Bool, bls ((bs.map D.bl).map A.d) = some bs
  | [] => rfl
  | b :: bs => by
    show (bls ((bs.map D.bl).map A.d)).map (b :: ·) = _
    rw [bls_map bs]; rfl
theorem all_data {m : EI} {ρ : En} {h h1 : Hh} {bs : List Bool} (e : m ρ h = some (.d (.lst (bs.map .bl)), h1)) : mOn fAll (mCons m mNil) ρ h = some (.d (.bl (bs.all id)), h1) := by
  rw [on_of (cons_of e (show mNil ρ h1 = some ([], h1) from rfl))]
  unfold fAll
  show (bls ((bs.map D.bl).map A.d)).map (fun (bs : List Bool) => (A.d (.bl (bs.all id)), h1)) = _
  rw [bls_map]; rfl
theorem hits_strs : ∀ {xs : List D} {rs : List Row}, xs.length = rs.length → (hits xs rs).all id = true → ∃ zs : List Str, xs = zs.map .str
  | [], _, _, _ => ⟨[], rfl⟩
  | x :: xs, [], h, _ => by simp at h
  | x :: xs, r :: rs, h, e => by
    have e' : (hit x r.2 && (hits xs rs).all id) = true := e
    rw [Bool.and_eq_true] at e'
    obtain ⟨zs, hz⟩ := hits_strs (xs := xs) (rs := rs) (by simpa using h) e'.2
    cases x with
    | str z => exact ⟨z :: zs, by rw [hz]; rfl⟩
    | _ => simp [hit] at e'
theorem any_isS (w : Str) : ∀ zs : List Str, (zs.map D.str).any (isS w) = decide (w ∈ zs)
  | [] => by simp
  | z :: zs => by
    rw [List.map_cons, List.any_cons, any_isS w zs]
    by_cases c : z = w
    · simp [isS, c]
    · have : ¬ w = z := fun q => c q.symm
      simp [isS, c, this]
theorem mem_tup {zs : List Str} (w : Str) (H : Hh) : IN (.d (.str w)) (.d (.tup (zs.map .str))) H = some (.d (.bl (decide (w ∈ zs))), H) := by
  have := inF_data (x := w) (b := true) (ss := zs) (H := H)
  unfold IN
  show (match fIn false (.d (.str w)) (.d (SQ true zs)) H with
    | some r => some r
    | none => _) = _
  rw [this]
/-- an element by its place -/
theorem atI_of {ys : List A} {i : Int} {j : Nat} (e : i = (j : Int)) (h : j < ys.length) : L2.atI ys i = some ys[j] := by
  subst e
  unfold L2.atI
  have : ixN ys.length (j : Int) = some j := by
    unfold ixN
    simp
    omega
  rw [this]
  exact List.getElem?_eq_getElem h
def t_many : TI' := (mOrT (mNotT (mTru (mIsi "tuple" (mVar 1)))) (mBl (mBin (fEqD true) (e_len 1) (mBin fSub (e_len 0) (mC (.int 1))))))
def e_each : EI := (mLc false (srcR1 (mCons (e_len 1) mNil)) (gN 2) mYes (mBin IN (mBin fIx (mVar 1) (mVar 2)) (mBin fIx (mBin fIx (mVar 0) (mBin (fAdd false) (mVar 2) (mC (.int 1)))) (mC (.int 1)))) [2])
def e_there : EI := (mLc false (srcQ (mCall 1 fn_law_inner (mCons (mVar 0) mNil))) (gN 3) mYes (mBin IN (mVar 3) (mVar 1)) [3])
theorem int_ne (i j : Int) (H : Hh) : fEqD true (.d (.int i)) (.d (.int j)) H = some (.d (.bl (!decide (i = j))), H) := by
  have := int_eq i j H
  unfold fEqD at this ⊢
  simp only [pyOf, toPy, SeqAt.shaped, PyData.canLay0, PyData.depth, PyData.eqv, PyData.canLayAll0] at this ⊢
  simp at this ⊢
  rw [this]
theorem each_ok {rows : List Row} {xs : List D} (hx : ∀ x ∈ xs, Elem x) (hl : xs.length + 1 = rows.length) (hz : rows.length < 500) (ho : ∀ r ∈ rows, ∀ s ∈ r.2, PyData.strOk s = true) (x2 x3 : Option A) (H : Hh) :
    e_each [some (.d (rowsD rows)), some (.d (.tup xs)), x2, x3] H = some (.d (.lst ((hits xs (rows.drop 1)).map .bl)), H) := by
  let ρ : En := [some (.d (rowsD rows)), some (.d (.tup xs)), x2, x3]
  have el : e_len 1 ρ H = some (.d (.int xs.length), H) := rfl
  have src : srcR1 (mCons (e_len 1) mNil) ρ H = some (⟨rngN 0 xs.length, xs.length⟩, H) := range_n (by omega) (cons_of el (show mNil ρ H = some ([], H) from rfl))
  have hh : (hits xs (rows.drop 1)).length = xs.length := by
    unfold hits
    rw [List.length_zipWith, List.length_drop]
    omega
  obtain ⟨acc, H', ⟨ea, eh⟩, e2⟩ := lc_items (items := rngI xs.length) (g := gN 2) (t := mYes) (m := mBin IN (mBin fIx (mVar 1) (mVar 2)) (mBin fIx (mBin fIx (mVar 0) (mBin (fAdd false) (mVar 2) (mC (.int 1)))) (mC (.int 1)))) (vs := [2]) (I := fun k acc h => acc = (((hits xs (rows.drop 1)).take k).map .bl).map A.d ∧ h = H) (fun i h => rng_items _ i h) (by simp [rngI]) src
    (fun k acc h hk ⟨ea, eh⟩ => by
      subst eh
      have hk' : k < xs.length := by simpa [rngI] using hk
      have hk2 : k < (hits xs (rows.drop 1)).length := by omega
      have hk3 : k + 1 < rows.length := by omega
      have gk : (rngI xs.length)[k] = .d (.int (0 + (k : Int))) := by simp [rngI]
      let ρ1 : En := [some (.d (rowsD rows)), some (.d (.tup xs)), some (.d (.int (0 + (k : Int)))), x3]
      have a1 : mBin fIx (mVar 1) (mVar 2) ρ1 h = some (.d xs[k], h) := by
        have hx : L2.atI (xs.map A.d) (0 + (k : Int)) = some (.d xs[k]) := by
          rw [atI_of (j := k) (by omega) (by rw [List.length_map]; exact hk'), List.getElem_map]
        refine (bin_of (f := fIx) (show mVar 1 ρ1 h = some (.d (.tup xs), h) from rfl) (show mVar 2 ρ1 h = some (.d (.int (0 + (k : Int))), h) from rfl)).trans ?_
        simp only [fIx, orF, fIxS, itemsL, hx, Option.map_some]
      have a2 : mBin (fAdd false) (mVar 2) (mC (.int 1)) ρ1 h = some (.d (.int (0 + (k : Int) + 1)), h) := rfl
      have a3 : mBin fIx (mVar 0) (mBin (fAdd false) (mVar 2) (mC (.int 1))) ρ1 h = some (.d (rowD rows[k + 1]), h) := by
        have hx : L2.atI ((rows.map rowD).map A.d) (0 + (k : Int) + 1) = some (.d (rowD rows[k + 1])) := by
          rw [atI_of (j := k + 1) (by omega) (by rw [List.length_map, List.length_map]; exact hk3), List.getElem_map, List.getElem_map]
        refine (bin_of (f := fIx) (show mVar 0 ρ1 h = some (.d (rowsD rows), h) from rfl) a2).trans ?_
        simp only [fIx, orF, fIxS, rowsD, itemsL, hx, Option.map_some]
      have a4 : mBin fIx (mBin fIx (mVar 0) (mBin (fAdd false) (mVar 2) (mC (.int 1)))) (mC (.int 1)) ρ1 h = some (.d (.tup (rows[k + 1].2.map .str)), h) := by
        refine (bin_of (f := fIx) a3 (show mC (.int 1) ρ1 h = some (.d (.int 1), h) from rfl)).trans ?_
        simp [fIx, orF, fIxS, itemsL, rowD, L2.atI, ixN]
      have a5 := (bin_of (f := IN) a1 a4).trans (in_elem (hx _ (List.getElem_mem hk')) (ho _ (List.getElem_mem hk3)) h)
      have hk4 : (hits xs (rows.drop 1))[k] = hit xs[k] rows[k + 1].2 := by
        simp [hits, Nat.add_comm]
      refine ⟨ρ1, h, true, h, by rw [gk]; rfl, rfl, (fun z => by cases z), fun _ => ⟨_, h, a5, ⟨?_, rfl⟩, ?_⟩⟩
      · rw [ea, take_snoc hk2, List.map_append, List.map_append, hk4]; rfl
      · rw [ea, List.length_map, List.length_map, List.length_take]; omega) ⟨rfl, rfl⟩
  subst eh
  have ln : (rngI xs.length).length = (hits xs (rows.drop 1)).length := by rw [hh]; simp [rngI]
  rw [ln, List.take_length] at ea
  unfold e_each
  rw [e2 false, ea, mkL_data (by rw [List.length_map, hh]; omega)]
theorem there_ok {rows : List Row} (hs : ∀ r ∈ rows, r.2.length ≤ 2) (hz : rows.length ≤ 40) (zs : List Str) (x2 x3 : Option A) (H : Hh) :
    e_there [some (.d (rowsD rows)), some (.d (.tup (zs.map .str))), x2, x3] H = some (.d (.lst (((innerOf rows).map fun w => decide (w ∈ zs)).map .bl)), H) := by
  let ρ : En := [some (.d (rowsD rows)), some (.d (.tup (zs.map .str))), x2, x3]
  have c := (call_of (n := 1) (F := fn_law_inner) (show mCons (mVar 0) mNil ρ H = some ([.d (rowsD rows)], H) from rfl) rfl).trans (inner_eq hs hz H)
  obtain ⟨s, q1, q2, q3⟩ := sq_src (b := false) (xs := innerOf rows) c
  have hle : (innerOf rows).length ≤ 40 := by
    unfold innerOf
    have := List.length_filter_le (isIn rows) (namesOf rows)
    rw [List.length_map] at this
    omega
  obtain ⟨acc, H', ⟨ea, eh⟩, e2⟩ := lc_items (items := LA (innerOf rows)) (g := gN 3) (t := mYes) (m := mBin IN (mVar 3) (mVar 1)) (vs := [3]) (I := fun k acc h => acc = ((((innerOf rows).take k).map fun w => decide (w ∈ zs)).map D.bl).map A.d ∧ h = H) q3 q2 q1
    (fun k acc h hk ⟨ea, eh⟩ => by
      subst eh
      have hk' : k < (innerOf rows).length := by rw [LA_len] at hk; exact hk
      have gk : (LA (innerOf rows))[k] = .d (.str (innerOf rows)[k]) := by simp [LA]
      let ρ1 : En := [some (.d (rowsD rows)), some (.d (.tup (zs.map .str))), x2, some (.d (.str (innerOf rows)[k]))]
      have a1 := (bin_of (f := IN) (show mVar 3 ρ1 h = some (.d (.str (innerOf rows)[k]), h) from rfl) (show mVar 1 ρ1 h = some (.d (.tup (zs.map .str)), h) from rfl)).trans (mem_tup (zs := zs) (innerOf rows)[k] h)
      refine ⟨ρ1, h, true, h, by rw [gk]; rfl, rfl, (fun z => by cases z), fun _ => ⟨_, h, a1, ⟨?_, rfl⟩, ?_⟩⟩
      · rw [ea, take_snoc hk', List.map_append, List.map_append, List.map_append]; rfl
      · rw [ea, List.length_map, List.length_map, List.length_map, List.length_take]; omega) ⟨rfl, rfl⟩
  subst eh
  rw [LA_len, List.take_length] at ea
  unfold e_there
  rw [e2 false, ea, mkL_data (by rw [List.length_map, List.length_map]; omega)]
theorem not_tru {m : EI} {ρ : En} {h h1 : Hh} {k : Bool} (e : m ρ h = some (.d (.bl k), h1)) : mNotT (mTru m) ρ h = some (!k, h1) := by
  unfold mNotT mTru
  rw [e]
  rfl
theorem seq_rt {m n : SI} {ρ : En} {h h1 : Hh} {a : A} (e : m ρ h = some (.rt a h1)) : mSeq m n ρ h = some (.rt a h1) := by
  unfold mSeq
  rw [e]
theorem lawch_eq {rows : List Row} (hs : ∀ r ∈ rows, r.2.length ≤ 2) (hz : rows.length ≤ 40) (h0 : rows ≠ []) (ho : ∀ r ∈ rows, ∀ s ∈ r.2, PyData.strOk s = true) {t : D} (ht : Okd t) (H : Hh) :
    fn_law_is_choice [.d (rowsD rows), .d t] H = some (.d (.bl (isCh rows t)), H) := by
  have z : fn_law_is_choice [.d (rowsD rows), .d t] H = finP H.length (m_law_is_choice [some (.d (rowsD rows)), some (.d t), none, none] H) := mkFn_eq rfl
  have fin : ∀ k, m_law_is_choice [some (.d (rowsD rows)), some (.d t), none, none] H = some (.rt (.d (.bl k)) H) → fn_law_is_choice [.d (rowsD rows), .d t] H = some (.d (.bl k), H) := fun k q => by
    rw [z, q]
    show some (cut H.length _ H) = _
    rw [cut_same rfl]
  apply fin
  have d1 : m_law_is_choice = mSeq (mIfS t_many (mRet (mC (.bl false))) mSkip) (mSeq (mIfS (mNotT (mTru (mOn fAll (mCons e_each mNil)))) (mRet (mC (.bl false))) mSkip) (mRet (mOn fAll (mCons e_there mNil)))) := rfl
  rw [d1]
  rcases ht with ⟨xs, rfl, hx, hl⟩ | ⟨xs, rfl⟩
  · let ρ : En := [some (.d (rowsD rows)), some (.d (.tup xs)), none, none]
    have t1 : mNotT (mTru (mIsi "tuple" (mVar 1))) ρ H = some (false, H) := rfl
    have l1 : e_len 1 ρ H = some (.d (.int xs.length), H) := rfl
    have l0 : e_len 0 ρ H = some (.d (.int rows.length), H) := by
      show some (A.d (.int (((rows.map rowD).map A.d).length : Nat)), H) = _
      rw [List.length_map, List.length_map]
    have s0 : mBin fSub (e_len 0) (mC (.int 1)) ρ H = some (.d (.int ((rows.length : Int) - 1)), H) := (bin_of (f := fSub) l0 (show mC (.int 1) ρ H = some (.d (.int 1), H) from rfl)).trans rfl
    have t2 : mBl (mBin (fEqD true) (e_len 1) (mBin fSub (e_len 0) (mC (.int 1)))) ρ H = some (!decide ((xs.length : Int) = (rows.length : Int) - 1), H) := bl_of ((bin_of (f := fEqD true) l1 s0).trans (int_ne _ _ _))
    have tm : t_many ρ H = some (!decide ((xs.length : Int) = (rows.length : Int) - 1), H) := by
      unfold t_many mOrT
      rw [t1]
      exact t2
    have hp := len_pos h0
    by_cases c : xs.length + 1 = rows.length
    · rw [decide_eq_true (by omega : (xs.length : Int) = (rows.length : Int) - 1)] at tm
      have s1 : mIfS t_many (mRet (mC (.bl false))) mSkip ρ H = some (.nx ρ H) := if_no tm
      have ee := all_data (each_ok hx c (by omega) ho none none H)
      have t3 : mNotT (mTru (mOn fAll (mCons e_each mNil))) ρ H = some (!(hits xs (rows.drop 1)).all id, H) := not_tru ee
      by_cases c2 : (hits xs (rows.drop 1)).all id = true
      · rw [c2] at t3
        have s2 : mIfS (mNotT (mTru (mOn fAll (mCons e_each mNil)))) (mRet (mC (.bl false))) mSkip ρ H = some (.nx ρ H) := if_no t3
        obtain ⟨zs, rfl⟩ := hits_strs (by rw [List.length_drop]; omega) c2
        have e3 := all_data (there_ok hs hz zs none none H)
        have en : isCh rows (.tup (zs.map .str)) = ((innerOf rows).map fun w => decide (w ∈ zs)).all id := by
          unfold isCh
          dsimp only
          have ef : (fun w => (zs.map D.str).any (isS w)) = fun w => decide (w ∈ zs) := funext fun w => any_isS w zs
          rw [decide_eq_true c, c2, Bool.true_and, Bool.true_and, List.all_map, ef]
          rfl
        rw [en]
        refine (seq_nx s1).trans ((seq_nx s2).trans ?_)
        show mRet (mOn fAll (mCons e_there mNil)) ρ H = _
        unfold mRet
        rw [e3]
      · have c3 : (hits xs (rows.drop 1)).all id = false := by simpa using c2
        rw [c3] at t3
        have s2 : mIfS (mNotT (mTru (mOn fAll (mCons e_each mNil)))) (mRet (mC (.bl false))) mSkip ρ H = some (.rt (.d (.bl false)) H) := if_yes t3
        have en : isCh rows (.tup xs) = false := by
          unfold isCh
          dsimp only
          rw [c3, Bool.false_and, Bool.and_false]
        rw [en]
        exact (seq_nx s1).trans (seq_rt s2)
    · rw [decide_eq_false (by omega : ¬ (xs.length : Int) = (rows.length : Int) - 1)] at tm
      have s1 : mIfS t_many (mRet (mC (.bl false))) mSkip ρ H = some (.rt (.d (.bl false)) H) := if_yes tm
      have en : isCh rows (.tup xs) = false := by
        unfold isCh
        dsimp only
        rw [decide_eq_false c, Bool.false_and]
      rw [en]
      exact seq_rt s1
  · have tm : t_many [some (.d (rowsD rows)), some (.d (.lst xs)), none, none] H = some (true, H) := rfl
    have s1 : mIfS t_many (mRet (mC (.bl false))) mSkip [some (.d (rowsD rows)), some (.d (.lst xs)), none, none] H = some (.rt (.d (.bl false)) H) := if_yes tm
    exact seq_rt s1
end K52
set_option Elab.async false
set_option linter.all false
set_option maxRecDepth 100000
set_option maxHeartbeats 1000000
namespace K52
open PySem PySem.Spec PyProof.Rows L2 F2
theorem lock_of {i l : Nat} {m : EI} {ρ : En} {h : Hh} {kvs : List (Key × A)} {a : A} (e0 : ρ[i]? = some (some (.ref l))) (e1 : h[l]? = some (.dK kvs)) (e2 : m ρ (h.set l (.lK kvs)) = some (a, h.set l (.lK kvs))) : mLock i m ρ h = some (a, h) := by
  have hlt := (List.getElem?_eq_some_iff.mp e1).1
  unfold mLock
  rw [e0]
  dsimp only
  rw [e1]
  dsimp only
  rw [e2]
  dsimp only
  rw [List.getElem?_set_self hlt]
  dsimp only
  rw [List.set_set]
  have z : h.set l (.dK kvs) = h := by
    apply List.ext_getElem?
    intro j
    by_cases hj : j = l
    · subst hj
      rw [List.getElem?_set_self hlt, e1]
    · rw [List.getElem?_set_ne (Ne.symm hj)]
  rw [z]
/-! ### the program's look at choices -/
theorem slc1e {mo : EI} {ρ : En} {h : Hh} {xs : List D} (v : mo ρ h = some (.d (.lst xs), h)) (hz : xs.length < 1000) : mSlc false mo (some (mC (.int 1))) none ρ h = some (.d (.lst (xs.drop 1)), h) := by
  unfold mSlc
  rw [v]
  have e : partI (some (mC (.int 1))) ρ h = some (some 1, h) := rfl
  have e2 : partI none ρ h = some (none, h) := rfl
  dsimp only
  rw [e]
  dsimp only
  rw [e2]
  dsimp only
  show mkL false (cutA (xs.map A.d) (some 1) none) h = _
  rw [cut1, ← List.map_drop, mkL_data (by rw [List.length_drop]; omega)]
theorem many_tup (xs : List D) (k : Int) (H : Hh) : fn_are_so_many [.d (.tup xs), .d (.int k)] H = some (.d (.bl (decide ((xs.length : Int) = k))), H) := by
  have z : fn_are_so_many [.d (.tup xs), .d (.int k)] H = finP H.length (m_are_so_many [some (.d (.tup xs)), some (.d (.int k))] H) := mkFn_eq rfl
  have d1 : m_are_so_many = mRet (mAnd (mIsi "tuple" (mVar 0)) (mBin (fEqD false) (e_len 0) (mVar 1))) := rfl
  have a1 : mIsi "tuple" (mVar 0) [some (.d (.tup xs)), some (.d (.int k))] H = some (.d (.bl true), H) := rfl
  have a2 : e_len 0 [some (.d (.tup xs)), some (.d (.int k))] H = some (.d (.int xs.length), H) := rfl
  have a3 := (bin_of (f := fEqD false) a2 (show mVar 1 [some (.d (.tup xs)), some (.d (.int k))] H = some (.d (.int k), H) from rfl)).trans (int_eq _ _ H)
  have b : m_are_so_many [some (.d (.tup xs)), some (.d (.int k))] H = some (.rt (.d (.bl (decide ((xs.length : Int) = k)))) H) := by
    rw [d1]
    unfold mRet mAnd
    rw [a1]
    show (match mBin (fEqD false) (e_len 0) (mVar 1) [some (.d (.tup xs)), some (.d (.int k))] H with
      | some (a, h1) => some (Out.rt a h1)
      | none => none) = _
    rw [a3]
  rw [z, b]
  show some (cut H.length _ H) = _
  rw [cut_same rfl]
theorem many_lst (xs : List D) (k : Int) (H : Hh) : fn_are_so_many [.d (.lst xs), .d (.int k)] H = some (.d (.bl false), H) := by
  have z : fn_are_so_many [.d (.lst xs), .d (.int k)] H = finP H.length (m_are_so_many [some (.d (.lst xs)), some (.d (.int k))] H) := mkFn_eq rfl
  have b : m_are_so_many [some (.d (.lst xs)), some (.d (.int k))] H = some (.rt (.d (.bl false)) H) := rfl
  rw [z, b]
  show some (cut H.length _ H) = _
  rw [cut_same rfl]
theorem kept_eq {n : Nat} {H h : Hh} {rows : List Row} {r0 : Row} (w : RW n H rows r0 0 h) (hz : rows.length ≤ 40) (xs : List D) :
    fn_kept [.ref n, .d (.tup xs)] h = some (.d (.lst (List.zipWith pairD2 xs (((namesOf rows).drop 1).map .str))), h) := by
  let ρ : En := [some (.ref n), some (.d (.tup xs))]
  have tb : F2.tabOf (.ref n) h = some (.k (tabL (srcKs rows))) := by simp only [F2.tabOf, w.s]
  have ek : (tabL (srcKs rows)).map (fun p => A.d (keyD p.1)) = ((namesOf rows).map D.str).map A.d := by
    unfold tabL srcKs
    rw [List.map_map, List.map_map, List.map_map, List.map_map]
    apply List.map_congr_left
    intro r _
    rfl
  have e1 : mOn (fListD false) (mCons (mVar 0) mNil) ρ h = some (.d (.lst ((namesOf rows).map .str)), h) := by
    rw [on_of (cons_of (show mVar 0 ρ h = some (.ref n, h) from rfl) (show mNil ρ h = some ([], h) from rfl))]
    unfold fListD
    dsimp only
    rw [tb]
    dsimp only
    rw [ek, mkL_data (by rw [List.length_map, List.length_map]; omega)]
  have e2 := slc1e e1 (by rw [List.length_map, List.length_map]; omega)
  rw [← List.map_drop] at e2
  have e3 : fZipL [.d (.tup xs), .d (.lst (((namesOf rows).drop 1).map .str))] h = some (.d (.lst (List.zipWith pairD2 xs (((namesOf rows).drop 1).map .str))), h) := by
    unfold fZipL
    dsimp only
    rw [show seqA (.d (.tup xs)) h = some (xs.map A.d) from rfl]
    dsimp only
    rw [F2.allD_map]
    dsimp only
    rw [show seqA (.d (.lst (((namesOf rows).drop 1).map .str))) h = some ((((namesOf rows).drop 1).map D.str).map A.d) from rfl]
    dsimp only
    rw [F2.allD_map]
  have e4 : mOn fZipL (mCons (mVar 1) (mCons (mSlc false (mOn (fListD false) (mCons (mVar 0) mNil)) (some (mC (.int 1))) none) mNil)) ρ h = _ :=
    (on_of (cons_of (show mVar 1 ρ h = some (.d (.tup xs), h) from rfl) (cons_of e2 (show mNil ρ h = some ([], h) from rfl)))).trans e3
  have z : fn_kept [.ref n, .d (.tup xs)] h = finP h.length (m_kept ρ h) := mkFn_eq rfl
  have d1 : m_kept = mRet (mOn fZipL (mCons (mVar 1) (mCons (mSlc false (mOn (fListD false) (mCons (mVar 0) mNil)) (some (mC (.int 1))) none) mNil))) := rfl
  rw [z, d1]
  unfold mRet
  rw [e4]
  show some (cut h.length _ h) = _
  rw [cut_same rfl]
def g_pair : GI := (gT 2 (gsCons (gN 3) (gsCons (gN 4) gsNil)))
def e_isone : EI := (mCall 2 fn_is_one_of (mCons (mVar 3) (mCons (mBin fIx (mVar 0) (mVar 4)) mNil)))
def e_hits : EI := (mLc false (srcQ (mCall 2 fn_kept (mCons (mVar 0) (mCons (mVar 2) mNil)))) g_pair mYes e_isone [3, 4])
theorem hits_ok {n : Nat} {H h : Hh} {rows : List Row} {r0 : Row} (w : RW n H rows r0 0 h) (hn : (namesOf rows).Nodup) (hz : rows.length ≤ 40) {xs : List D} (hx : ∀ x ∈ xs, Elem x) (hl : xs.length + 1 = rows.length) (x1 x5 : Option A) :
    e_hits [some (.ref n), x1, some (.d (.tup xs)), none, none, x5] h = some (.d (.lst ((hits xs (rows.drop 1)).map .bl)), h) := by
  let ρ : En := [some (.ref n), x1, some (.d (.tup xs)), none, none, x5]
  have c := (call_of (n := 2) (F := fn_kept) (show mCons (mVar 0) (mCons (mVar 2) mNil) ρ h = some ([.ref n, .d (.tup xs)], h) from rfl) rfl).trans (kept_eq w hz xs)
  have src := srcQ_data c
  have tb : F2.tabOf (.ref n) h = some (.k (tabL (srcKs rows))) := by simp only [F2.tabOf, w.s]
  have lz : (List.zipWith pairD2 xs (((namesOf rows).drop 1).map .str)).length = xs.length := by
    rw [List.length_zipWith, List.length_map, List.length_drop, List.length_map]
    omega
  have hh : (hits xs (rows.drop 1)).length = xs.length := by
    unfold hits
    rw [List.length_zipWith, List.length_drop]
    omega
  obtain ⟨acc, H', ⟨ea, eh⟩, e2⟩ := lc_items (items := (List.zipWith pairD2 xs (((namesOf rows).drop 1).map .str)).map A.d) (g := g_pair) (t := mYes) (m := e_isone) (vs := [3, 4]) (I := fun k acc h' => acc = (((hits xs (rows.drop 1)).take k).map .bl).map A.d ∧ h' = h) (fun i h => items_map _ h i) (by simp) src
    (fun k acc h' hk ⟨ea, eh⟩ => by
      subst eh
      have hk' : k < xs.length := by rw [List.length_map, lz] at hk; exact hk
      have hk2 : k < (hits xs (rows.drop 1)).length := by omega
      have hk3 : k + 1 < rows.length := by omega
      have gk : ((List.zipWith pairD2 xs (((namesOf rows).drop 1).map .str)).map A.d)[k] = .d (pairD2 xs[k] (.str rows[k + 1].1)) := by
        simp [Nat.add_comm]
      let ρ1 : En := [some (.ref n), x1, some (.d (.tup xs)), some (.d xs[k]), some (.d (.str rows[k + 1].1)), x5]
      have lk : lookG (tabL (srcKs rows)) (.inr rows[k + 1].1 : Key) = some (.d (LS rows[k + 1].2)) := look_at (ks := srcKs rows) (by rw [src_names]; exact hn) (j := k + 1) (k := (rows[k + 1].1, .d (LS rows[k + 1].2))) (by simp [srcKs, hk3])
      have a1 : mBin fIx (mVar 0) (mVar 4) ρ1 h' = some (.d (LS rows[k + 1].2), h') := (bin_of (f := fIx) (show mVar 0 ρ1 h' = some (.ref n, h') from rfl) (show mVar 4 ρ1 h' = some (.d (.str rows[k + 1].1), h') from rfl)).trans (at_tab tb lk)
      have a2 : e_isone ρ1 h' = some (.d (.bl (hit xs[k] rows[k + 1].2)), h') := (call_of (n := 2) (F := fn_is_one_of) (cons_of (show mVar 3 ρ1 h' = some (.d xs[k], h') from rfl) (cons_of a1 (show mNil ρ1 h' = some ([], h') from rfl))) rfl).trans (one_elem (hx _ (List.getElem_mem hk')) h')
      have hk4 : (hits xs (rows.drop 1))[k] = hit xs[k] rows[k + 1].2 := by
        simp [hits, Nat.add_comm]
      refine ⟨ρ1, h', true, h', by rw [gk]; rfl, rfl, (fun z => by cases z), fun _ => ⟨_, h', a2, ⟨?_, rfl⟩, ?_⟩⟩
      · rw [ea, take_snoc hk2, List.map_append, List.map_append, hk4]; rfl
      · rw [ea, List.length_map, List.length_map, List.length_take]; omega) ⟨rfl, rfl⟩
  subst eh
  have ln : ((List.zipWith pairD2 xs (((namesOf rows).drop 1).map .str)).map A.d).length = (hits xs (rows.drop 1)).length := by rw [List.length_map, lz, hh]
  rw [ln, List.take_length] at ea
  unfold e_hits
  rw [e2 false, ea, mkL_data (by rw [List.length_map, hh]; omega)]
/-! the names that have copies -/
theorem isIn_copies (rows : List Row) (x : Str) : isIn rows x = !(copiesOf rows x).isEmpty := by
  have h : x ∈ srcsOf rows ↔ copiesOf rows x ≠ [] := by
    unfold srcsOf linesOf copiesOf
    constructor
    · intro h z
      obtain ⟨p, hp, rfl⟩ := List.mem_map.mp h
      rw [List.mem_flatMap] at hp
      obtain ⟨r, hr, hp⟩ := hp
      obtain ⟨s, hs, rfl⟩ := List.mem_map.mp hp
      rw [List.map_eq_nil_iff, List.filter_eq_nil_iff] at z
      exact z r hr (decide_eq_true hs)
    · intro h
      obtain ⟨y, hy⟩ := List.exists_mem_of_ne_nil _ h
      obtain ⟨r, hr, _⟩ := List.mem_map.mp hy
      rw [List.mem_filter] at hr
      have hx := of_decide_eq_true hr.2
      exact List.mem_map.mpr ⟨(x, r.1), List.mem_flatMap.mpr ⟨r, hr.1, List.mem_map.mpr ⟨x, hx, rfl⟩⟩, rfl⟩
  unfold isIn
  by_cases c : x ∈ srcsOf rows
  · rw [decide_eq_true c]
    have := h.mp c
    cases q : copiesOf rows x with
    | nil => exact absurd q this
    | cons a b => rfl
  · rw [decide_eq_false c]
    have : copiesOf rows x = [] := by
      cases q : copiesOf rows x with
      | nil => rfl
      | cons a b => exact absurd (h.mpr (by rw [q]; simp)) c
    rw [this]; rfl
def t_has : TI' := (mTru (mBin fIx (mVar 1) (mVar 5)))
def e_mem : EI := (mLock 1 (mLc false (srcK (mVar 1)) (gN 5) t_has (mBin IN (mVar 5) (mVar 2)) [5]))
theorem mem_ok {n : Nat} {H h : Hh} {rows : List Row} {r0 : Row} (w : RW n H rows r0 0 h) (hn : (namesOf rows).Nodup) (hz : rows.length ≤ 40) (zs : List Str) (x0 x3 x4 x5 : Option A) :
    e_mem [x0, some (.ref (n + 1)), some (.d (.tup (zs.map .str))), x3, x4, x5] h = some (.d (.lst (((innerOf rows).map fun v => decide (v ∈ zs)).map .bl)), h) := by
  have hlt := (List.getElem?_eq_some_iff.mp w.c).1
  let hL : Hh := h.set (n + 1) (.lK (tabL (cpyK n rows)))
  have hL1 : hL[n + 1]? = some (.lK (tabL (cpyK n rows))) := List.getElem?_set_self hlt
  obtain ⟨s, e1, e2, e3⟩ := keys_src (m := mVar 1) (ρ := [x0, some (.ref (n + 1)), some (.d (.tup (zs.map .str))), x3, x4, x5]) (h := hL) (h1 := hL) (l := n + 1) rfl hL1
  rw [cpy_names] at e2 e3
  have ht : F2.tabOf (.ref (n + 1)) hL = some (.k (tabL (cpyK n rows))) := by simp only [F2.tabOf, hL1]
  obtain ⟨acc, H', ⟨ea, eh⟩, e4⟩ := lc_items (items := LA (namesOf rows)) (g := gN 5) (t := t_has) (m := mBin IN (mVar 5) (mVar 2)) (vs := [5]) (I := fun i acc h => acc = (((((namesOf rows).take i).filter (isIn rows)).map fun v => decide (v ∈ zs)).map D.bl).map A.d ∧ h = hL) e3 (by rw [e2, LA_len]) e1
    (fun i acc h' hi ⟨ea, eh⟩ => by
      subst eh
      have hi' : i < rows.length := by rw [LA_len, List.length_map] at hi; exact hi
      have hi2 : i < (namesOf rows).length := by rw [List.length_map]; exact hi'
      have gi : (LA (namesOf rows))[i] = .d (.str rows[i].1) := by simp [LA]
      have ni : (namesOf rows)[i] = rows[i].1 := by simp
      have e5 := at_tab ht (look_at (ks := cpyK n rows) (by rw [cpy_names]; exact hn) (cpy_at (List.getElem?_eq_getElem hi')))
      have c0 := w.cell i rows[i] (List.getElem?_eq_getElem hi')
      rw [List.take_zero, if_neg (by simp), List.append_nil] at c0
      have c1 : hL[n + 2 + i]? = some (.lst (LA (copiesOf rows rows[i].1))) := by simp only [hL]; rw [List.getElem?_set_ne (by omega)]; exact c0
      let ρ1 : En := [x0, some (.ref (n + 1)), some (.d (.tup (zs.map .str))), x3, x4, some (.d (.str rows[i].1))]
      have tr : truthA (.ref (n + 2 + i)) hL = some (isIn rows rows[i].1) := by
        rw [isIn_copies]
        simp only [truthA, c1]
        cases copiesOf rows rows[i].1 <;> rfl
      have a1 : mBin fIx (mVar 1) (mVar 5) ρ1 hL = some (.ref (n + 2 + i), hL) := (bin_of (show mVar 1 ρ1 hL = some (.ref (n + 1), hL) from rfl) (show mVar 5 ρ1 hL = some (.d (.str rows[i].1), hL) from rfl)).trans e5
      have t1 : t_has ρ1 hL = some (isIn rows rows[i].1, hL) := by
        unfold t_has mTru
        rw [a1]
        dsimp only
        rw [tr]
        rfl
      have a2 := (bin_of (f := IN) (show mVar 5 ρ1 hL = some (.d (.str rows[i].1), hL) from rfl) (show mVar 2 ρ1 hL = some (.d (.tup (zs.map .str)), hL) from rfl)).trans (mem_tup (zs := zs) rows[i].1 hL)
      refine ⟨ρ1, hL, isIn rows rows[i].1, hL, by rw [gi]; rfl, t1, fun z => ⟨?_, rfl⟩, fun z => ⟨_, hL, a2, ⟨?_, rfl⟩, ?_⟩⟩
      · rw [ea, take_snoc hi2, List.filter_append, ni, List.filter_cons, z]
        simp
      · rw [ea, take_snoc hi2, List.filter_append, ni, List.filter_cons, z]
        simp
      · rw [ea, List.length_map, List.length_map, List.length_map]
        have := List.length_filter_le (isIn rows) ((namesOf rows).take i)
        rw [List.length_take, List.length_map] at this
        omega) ⟨rfl, rfl⟩
  subst eh
  rw [LA_len, List.take_length] at ea
  have hle : (innerOf rows).length ≤ 40 := by
    unfold innerOf
    have := List.length_filter_le (isIn rows) (namesOf rows)
    rw [List.length_map] at this
    omega
  have l1 : mLc false (srcK (mVar 1)) (gN 5) t_has (mBin IN (mVar 5) (mVar 2)) [5] [x0, some (.ref (n + 1)), some (.d (.tup (zs.map .str))), x3, x4, x5] hL = some (.d (.lst (((innerOf rows).map fun v => decide (v ∈ zs)).map .bl)), hL) := by
    rw [e4 false, ea]
    show mkL false ((((innerOf rows).map fun v => decide (v ∈ zs)).map D.bl).map A.d) hL = _
    rw [mkL_data (by rw [List.length_map, List.length_map]; omega)]
  exact lock_of (i := 1) (ρ := [x0, some (.ref (n + 1)), some (.d (.tup (zs.map .str))), x3, x4, x5]) rfl w.c l1
end K52
set_option Elab.async false
set_option linter.all false
set_option maxRecDepth 100000
set_option maxHeartbeats 1000000
namespace K52
open PySem PySem.Spec PyProof.Rows L2 F2
def RF : SI := mRet (mC (.bl false))
theorem choice_eq {n : Nat} {H h : Hh} {rows : List Row} {r0 : Row} (w : RW n H rows r0 0 h) (hn : (namesOf rows).Nodup) (hz : rows.length ≤ 40) (h0 : rows ≠ []) {t : D} (ht : Okd t) :
    fn_is_choice [.ref n, .ref (n + 1), .d t] h = some (.d (.bl (isCh rows t)), h) := by
  have z : fn_is_choice [.ref n, .ref (n + 1), .d t] h = finP h.length (m_is_choice [some (.ref n), some (.ref (n + 1)), some (.d t), none, none, none] h) := mkFn_eq rfl
  have fin : ∀ k, m_is_choice [some (.ref n), some (.ref (n + 1)), some (.d t), none, none, none] h = some (.rt (.d (.bl k)) h) → fn_is_choice [.ref n, .ref (n + 1), .d t] h = some (.d (.bl k), h) := fun k q => by
    rw [z, q]
    show some (cut h.length _ h) = _
    rw [cut_same rfl]
  apply fin
  have d1 : m_is_choice = mSeq (mIfS (mNotT (mTru (mCall 2 fn_are_so_many (mCons (mVar 2) (mCons (mBin fSub (e_len 0) (mC (.int 1))) mNil))))) RF mSkip) (mSeq (mIfS (mNotT (mTru (mOn fAll (mCons e_hits mNil)))) RF mSkip) (mRet (mOn fAll (mCons e_mem mNil)))) := rfl
  rw [d1]
  let ρ : En := [some (.ref n), some (.ref (n + 1)), some (.d t), none, none, none]
  have sl : (tabL (srcKs rows)).length = rows.length := by simp [tabL, srcKs]
  have l0 : e_len 0 ρ h = some (.d (.int rows.length), h) := by
    have := lenD_eq w.s
    rw [sl] at this
    exact (on_of (cons_of (show mVar 0 ρ h = some (.ref n, h) from rfl) (show mNil ρ h = some ([], h) from rfl))).trans this
  have s0 : mBin fSub (e_len 0) (mC (.int 1)) ρ h = some (.d (.int ((rows.length : Int) - 1)), h) := (bin_of (f := fSub) l0 (show mC (.int 1) ρ h = some (.d (.int 1), h) from rfl)).trans rfl
  have ag : mCons (mVar 2) (mCons (mBin fSub (e_len 0) (mC (.int 1))) mNil) ρ h = some ([.d t, .d (.int ((rows.length : Int) - 1))], h) := cons_of (show mVar 2 ρ h = some (.d t, h) from rfl) (cons_of s0 (show mNil ρ h = some ([], h) from rfl))
  have hp := len_pos h0
  rcases ht with ⟨xs, rfl, hx, hl⟩ | ⟨xs, rfl⟩
  · have tm := not_tru ((call_of (n := 2) (F := fn_are_so_many) ag rfl).trans (many_tup xs _ h))
    by_cases c : xs.length + 1 = rows.length
    · rw [decide_eq_true (by omega : (xs.length : Int) = (rows.length : Int) - 1)] at tm
      have s1 := if_no (a := RF) tm
      have t3 := not_tru (all_data (hits_ok w hn hz hx c (some (.ref (n + 1))) none))
      by_cases c2 : (hits xs (rows.drop 1)).all id = true
      · rw [c2] at t3
        have s2 := if_no (a := RF) t3
        obtain ⟨zs, rfl⟩ := hits_strs (by rw [List.length_drop]; omega) c2
        have e3 := all_data (mem_ok w hn hz zs (some (.ref n)) none none none)
        have en : isCh rows (.tup (zs.map .str)) = ((innerOf rows).map fun v => decide (v ∈ zs)).all id := by
          have ef : (fun v => (zs.map D.str).any (isS v)) = fun v => decide (v ∈ zs) := funext fun v => any_isS v zs
          unfold isCh
          dsimp only
          rw [decide_eq_true c, c2, Bool.true_and, Bool.true_and, List.all_map, ef]
          rfl
        rw [en]
        refine (seq_nx s1).trans ((seq_nx s2).trans ?_)
        unfold mRet
        rw [e3]
      · have c3 : (hits xs (rows.drop 1)).all id = false := by simpa using c2
        rw [c3] at t3
        have s2 : mIfS (mNotT (mTru (mOn fAll (mCons e_hits mNil)))) RF mSkip [some (.ref n), some (.ref (n + 1)), some (.d (.tup xs)), none, none, none] h = some (.rt (.d (.bl false)) h) := if_yes t3
        have en : isCh rows (.tup xs) = false := by
          unfold isCh
          dsimp only
          rw [c3, Bool.false_and, Bool.and_false]
        rw [en]
        exact (seq_nx s1).trans (seq_rt s2)
    · rw [decide_eq_false (by omega : ¬ (xs.length : Int) = (rows.length : Int) - 1)] at tm
      have s1 : mIfS (mNotT (mTru (mCall 2 fn_are_so_many (mCons (mVar 2) (mCons (mBin fSub (e_len 0) (mC (.int 1))) mNil))))) RF mSkip [some (.ref n), some (.ref (n + 1)), some (.d (.tup xs)), none, none, none] h = some (.rt (.d (.bl false)) h) := if_yes tm
      have en : isCh rows (.tup xs) = false := by
        unfold isCh
        dsimp only
        rw [decide_eq_false c, Bool.false_and]
      rw [en]
      exact seq_rt s1
  · have tm := not_tru ((call_of (n := 2) (F := fn_are_so_many) ag rfl).trans (many_lst xs _ h))
    have s1 : mIfS (mNotT (mTru (mCall 2 fn_are_so_many (mCons (mVar 2) (mCons (mBin fSub (e_len 0) (mC (.int 1))) mNil))))) RF mSkip [some (.ref n), some (.ref (n + 1)), some (.d (.lst xs)), none, none, none] h = some (.rt (.d (.bl false)) h) := if_yes tm
    exact seq_rt s1
/-! ### accepts -/
def TAB : List (Str × Int) := [("has", 2), ("lacks", 2), ("sure", 4), ("never", 4), ("open", 4), ("count", 3), ("best", 4)]
def e_word : EI := (mBin fIx (mVar 0) (mC (.int 0)))
def t_c1 : TI' := (mOrT (mNotT (mTru (mIsi "tuple" (mVar 0)))) (mOrT (mNotT (mTru (mVar 0))) (mNotT (mTru (mIsi "str" e_word)))))
def t_c2 : TI' := (mOrT (mBl (mUn (fInTab true TAB) e_word)) (mBl (mBin (fEqD true) (e_len 0) (mUn (fIxTab TAB) e_word))))
def t_hasw : TI' := (mBl (mBin (fEqD false) e_word (mC (.str "has"))))
theorem in_has (H : Hh) : fInTab true TAB (.d (.str "has")) H = some (.d (.bl false), H) := by kernel_rfl
theorem ix_has (H : Hh) : fIxTab TAB (.d (.str "has")) H = some (.d (.int 2), H) := by kernel_rfl
theorem eq_has (H : Hh) : fEqD false (.d (.str "has")) (.d (.str "has")) H = some (.d (.bl true), H) := by kernel_rfl
theorem or_no {a b : TI'} {ρ : En} {h h1 : Hh} (e : a ρ h = some (false, h1)) : mOrT a b ρ h = b ρ h1 := by
  unfold mOrT
  rw [e]
def claimD (rows : List Row) : D := .tup [.str "has", .str (said rows)]
theorem accepts_eq {rows : List Row} (hv : Fits [] rows) (h0 : rows ≠ []) (hz : rows.length ≤ 40) {t : D} (ht : Okd t) {H : Hh} (hd : DH H) : fn_accepts [.d (claimD rows), .d t] H = some (.d (.bl (isCh rows t)), H) := by
  have good := hv.good (by simp) (fun q hq => by cases hq)
  rw [List.nil_append] at good
  obtain ⟨h', er, w⟩ := read_eq hv h0 hz H (("" : Str), [])
  let ρ : En := [some (.d (claimD rows)), some (.d t), none, none, none]
  have a0 : e_word ρ H = some (.d (.str "has"), H) := rfl
  have c1 : t_c1 ρ H = some (false, H) := rfl
  have c2 : t_c2 ρ H = some (false, H) := by
    have u1 : mBl (mUn (fInTab true TAB) e_word) ρ H = some (false, H) := by
      unfold mBl mUn
      rw [a0]
      dsimp only
      rw [in_has]
    have u2 : mUn (fIxTab TAB) e_word ρ H = some (.d (.int 2), H) := by
      unfold mUn
      rw [a0]
      exact ix_has H
    have u3 : e_len 0 ρ H = some (.d (.int 2), H) := rfl
    have u4 := bl_of ((bin_of (f := fEqD true) u3 u2).trans (int_ne 2 2 H))
    exact (or_no u1).trans u4
  have s1 := if_no (a := RF) c1
  have s2 := if_no (a := RF) c2
  have e1 : mBin fIx (mVar 0) (mC (.int 1)) ρ H = some (.d (.str (said rows)), H) := rfl
  have e2 := (call_of (n := 1) (F := fn_read_web) (cons_of e1 (show mNil ρ H = some ([], H) from rfl)) rfl).trans er
  have s3 := asg_N (i := 2) e2
  let ρ1 : En := [some (.d (claimD rows)), some (.d t), some (.tp [.ref H.length, .ref (H.length + 1)]), none, none]
  have c4 : (mBl (mBin (fIs false) (mVar 2) (mC .non))) ρ1 h' = some (false, h') := rfl
  have s4 := if_no (a := RF) c4
  let ρ2 : En := [some (.d (claimD rows)), some (.d t), some (.tp [.ref H.length, .ref (H.length + 1)]), some (.ref H.length), some (.ref (H.length + 1))]
  have s5 : mAsg (mVar 2) (gT 2 (gsCons (gN 3) (gsCons (gN 4) gsNil))) ρ1 h' = some (.nx ρ2 h') := rfl
  have c6 : t_hasw ρ2 h' = some (true, h') := bl_of ((bin_of (f := fEqD false) (show e_word ρ2 h' = some (.d (.str "has"), h') from rfl) (show mC (.str "has") ρ2 h' = some (.d (.str "has"), h') from rfl)).trans (eq_has h'))
  have ch := (call_of (n := 3) (F := fn_is_choice) (show mCons (mVar 3) (mCons (mVar 4) (mCons (mVar 1) mNil)) ρ2 h' = some ([.ref H.length, .ref (H.length + 1), .d t], h') from rfl) rfl).trans (choice_eq w good.1 hz h0 ht)
  have r6 : mRet (mCall 3 fn_is_choice (mCons (mVar 3) (mCons (mVar 4) (mCons (mVar 1) mNil)))) ρ2 h' = some (.rt (.d (.bl (isCh rows t))) h') := by
    unfold mRet
    rw [ch]
  have s6 := (if_yes (b := mSkip) c6).trans r6
  obtain ⟨R, d1⟩ : ∃ R, m_accepts = mSeq (mIfS t_c1 RF mSkip) (mSeq (mIfS t_c2 RF mSkip) (mSeq (mAsg (mCall 1 fn_read_web (mCons (mBin fIx (mVar 0) (mC (.int 1))) mNil)) (gN 2)) (mSeq (mIfS (mBl (mBin (fIs false) (mVar 2) (mC .non))) RF mSkip) (mSeq (mAsg (mVar 2) (gT 2 (gsCons (gN 3) (gsCons (gN 4) gsNil)))) (mSeq (mIfS t_hasw (mRet (mCall 3 fn_is_choice (mCons (mVar 3) (mCons (mVar 4) (mCons (mVar 1) mNil))))) mSkip) R))))) := ⟨_, rfl⟩
  have b : m_accepts ρ H = some (.rt (.d (.bl (isCh rows t))) h') := by
    rw [d1]
    exact (seq_nx s1).trans ((seq_nx s2).trans ((seq_nx s3).trans ((seq_nx s4).trans ((seq_nx s5).trans (seq_rt s6)))))
  have tk : h'.take H.length = H := by
    apply List.ext_getElem?
    intro j
    by_cases hj : j < H.length
    · rw [List.getElem?_take_of_lt hj, w.old j hj]
    · rw [List.getElem?_eq_none (by simp; omega), List.getElem?_eq_none (by omega)]
  have z : fn_accepts [.d (claimD rows), .d t] H = finP H.length (m_accepts ρ H) := mkFn_eq rfl
  rw [z, b]
  show some (cut H.length _ h') = _
  unfold cut
  rw [tk, hd.low]
  rfl
end K52
set_option Elab.async false
set_option linter.all false
set_option maxRecDepth 100000
set_option maxHeartbeats 1000000
namespace K52
open PySem PySem.Spec PyProof.Rows L2 F2
/-! ### a tuple bent -/
theorem mkT_data {xs : List D} {h : Hh} (hz : xs.length < 1000) : mkT (xs.map A.d) h = some (.d (.tup xs), h) := by
  have lv := LIMv
  unfold mkT
  rw [if_pos (by rw [List.length_map]; omega), F2.allD_map]
theorem slcT {mo : EI} {lo hi : Option EI} {ρ : En} {h : Hh} {xs : List D} {l u : Option Int} (v : mo ρ h = some (.d (.tup xs), h)) (el : partI lo ρ h = some (l, h)) (eu : partI hi ρ h = some (u, h)) (hz : xs.length < 1000) : mSlc false mo lo hi ρ h = some (.d (.tup (cutA xs l u)), h) := by
  unfold mSlc
  rw [v]
  dsimp only
  rw [el]
  dsimp only
  rw [eu]
  dsimp only
  have hc := cutA_le xs l u
  by_cases c : HT.sIx xs.length 0 l = 0 ∧ HT.sIx xs.length xs.length u = xs.length
  · rw [if_pos c]
    have : cutA xs l u = xs := by
      unfold cutA
      rw [c.1, c.2]
      simp
    rw [this]
  · rw [if_neg c, mkT_data (by omega)]
theorem cutA_mem {α : Type} {xs : List α} {l u : Option Int} {x : α} (h : x ∈ cutA xs l u) : x ∈ xs := by
  unfold cutA at h
  exact List.mem_of_mem_drop (List.mem_of_mem_take h)
theorem catT_data {xs ys : List D} {h : Hh} (hz : xs.length + ys.length < 1000) : fCatT (.d (.tup xs)) (.d (.tup ys)) h = some (.d (.tup (xs ++ ys)), h) := by
  unfold fCatT
  have lv := LIMv
  rw [show itemsT (.d (.tup xs)) = some (xs.map A.d) from rfl, show itemsT (.d (.tup ys)) = some (ys.map A.d) from rfl]
  dsimp only
  rw [if_pos (by rw [List.length_map, List.length_map]; omega)]
  by_cases c1 : xs = []
  · rw [if_pos (by rw [c1]; rfl), c1]; rfl
  · rw [if_neg (by simpa using c1)]
    by_cases c2 : ys = []
    · rw [if_pos (by rw [c2]; rfl), c2, List.append_nil]
    · rw [if_neg (by simpa using c2), ← List.map_append, mkT_data (by rw [List.length_append]; omega)]
def e_place : EI := (mCall 2 fn_law_pull (mCons (mVar 0) (mCons (mBin (fAdd false) (e_len 2) (mC (.int 1))) mNil)))
def e_row0 : EI := (mBin fIx (mBin fIx (mVar 1) (mC (.int 0))) (mC (.int 0)))
def e_rowZ : EI := (mBin fIx (mBin fIx (mVar 1) (mUn fNeg (mC (.int 1)))) (mC (.int 0)))
def e_odds : EI := (mOn (mkL false) (mCons e_row0 (mCons e_rowZ (mCons (mC (.str "q")) (mCons (mC (.str "")) (mCons (mC .non) (mCons (mC (.int 0)) (mCons (mOn mkT (mCons (mC (.str "a")) mNil)) (mCons (mOn (mkL false) (mCons (mC (.str "a")) mNil)) (mCons (mSlc false (mVar 2) none (some (mC (.int 1)))) mNil))))))))))
def e_odd : EI := (mCall 2 fn_law_of (mCons (mVar 0) (mCons e_odds mNil)))
theorem ok_a : PyData.strOk ("a" : Str) = true := by decide +kernel
theorem odds_ok {rows : List Row} {r0 : List Row} {q0 q : Row} (e0 : rows[0]? = some q0) (eq : rows = r0 ++ [q]) {zs : List Str} (oz : ∀ z ∈ zs, PyData.strOk z = true) (hz : zs.length < 500) (x0 x3 x4 x5 : Option A) (H : Hh) :
    ∃ os : List D, e_odds [x0, some (.d (rowsD rows)), some (.d (tupD zs)), x3, x4, x5] H = some (.d (.lst os), H) ∧ os ≠ [] ∧ os.length < 1000 ∧ ∀ o ∈ os, Elem o := by
  let ρ : En := [x0, some (.d (rowsD rows)), some (.d (tupD zs)), x3, x4, x5]
  have v1 : mVar 1 ρ H = some (.d (rowsD rows), H) := rfl
  have at1 : ∀ (r : Row), fIx (.d (rowD r)) (.d (.int 0)) H = some (.d (.str r.1), H) := fun r => by
    simp [fIx, orF, fIxS, itemsL, rowD, L2.atI, ixN]
  have i0 : fIx (.d (rowsD rows)) (.d (.int 0)) H = some (.d (rowD q0), H) := by
    have hlt : 0 < rows.length := (List.getElem?_eq_some_iff.mp e0).1
    have hx : L2.atI ((rows.map rowD).map A.d) 0 = some (.d (rowD q0)) := by
      rw [atI_of (i := 0) (j := 0) rfl (by rw [List.length_map, List.length_map]; exact hlt), List.getElem_map, List.getElem_map]
      have := (List.getElem?_eq_some_iff.mp e0).2
      rw [this]
    simp only [fIx, orF, fIxS, rowsD, itemsL, hx, Option.map_some]
  have iz : fIx (.d (rowsD rows)) (.d (.int (-1))) H = some (.d (rowD q), H) := by
    have hl : ((rows.map rowD).map A.d).length = r0.length + 1 := by rw [eq]; simp
    have hx : L2.atI ((rows.map rowD).map A.d) (-1) = some (.d (rowD q)) := by
      unfold L2.atI
      have : ixN ((rows.map rowD).map A.d).length (-1) = some r0.length := by
        rw [hl]
        unfold ixN
        simp
        omega
      rw [this]
      show ((rows.map rowD).map A.d)[r0.length]? = _
      rw [eq]; simp
    simp only [fIx, orF, fIxS, rowsD, itemsL, hx, Option.map_some]
  have a0 : e_row0 ρ H = some (.d (.str q0.1), H) := (bin_of ((bin_of v1 (show mC (.int 0) ρ H = some (.d (.int 0), H) from rfl)).trans i0) (show mC (.int 0) ρ H = some (.d (.int 0), H) from rfl)).trans (at1 q0)
  have az : e_rowZ ρ H = some (.d (.str q.1), H) := (bin_of ((bin_of v1 (show mUn fNeg (mC (.int 1)) ρ H = some (.d (.int (-1)), H) from rfl)).trans iz) (show mC (.int 0) ρ H = some (.d (.int 0), H) from rfl)).trans (at1 q)
  have asl : mSlc false (mVar 2) none (some (mC (.int 1))) ρ H = some (.d (.tup (cutA (zs.map .str) none (some 1))), H) := slcT (show mVar 2 ρ H = some (.d (.tup (zs.map .str)), H) from rfl) rfl rfl (by rw [List.length_map]; omega)
  have at' : mOn mkT (mCons (mC (.str "a")) mNil) ρ H = some (.d (.tup [.str "a"]), H) := rfl
  have al : mOn (mkL false) (mCons (mC (.str "a")) mNil) ρ H = some (.d (.lst [.str "a"]), H) := mkL_data (xs := [.str "a"]) (by simp)
  have cm : cutA (zs.map D.str) none (some 1) = (cutA zs none (some 1)).map .str := by
    unfold cutA
    rw [List.length_map, List.map_take, List.map_drop]
  rw [cm] at asl
  have cs := cons_of a0 (cons_of az (cons_of (show mC (.str "q") ρ H = some (.d (.str "q"), H) from rfl) (cons_of (show mC (.str "") ρ H = some (.d (.str ""), H) from rfl) (cons_of (show mC .non ρ H = some (.d .non, H) from rfl) (cons_of (show mC (.int 0) ρ H = some (.d (.int 0), H) from rfl) (cons_of at' (cons_of al (cons_of asl (show mNil ρ H = some ([], H) from rfl)))))))))
  refine ⟨[.str q0.1, .str q.1, .str "q", .str "", .non, .int 0, .tup [.str "a"], .lst [.str "a"], .tup ((cutA zs none (some 1)).map .str)], (on_of cs).trans (mkL_data (xs := [.str q0.1, .str q.1, .str "q", .str "", .non, .int 0, .tup [.str "a"], .lst [.str "a"], .tup ((cutA zs none (some 1)).map .str)]) (by simp)), by simp, by simp, fun o ho => ?_⟩
  simp only [List.mem_cons, List.not_mem_nil, or_false] at ho
  rcases ho with rfl | rfl | rfl | rfl | rfl | rfl | rfl | rfl | rfl
  · exact .inl ⟨_, rfl⟩
  · exact .inl ⟨_, rfl⟩
  · exact .inl ⟨_, rfl⟩
  · exact .inl ⟨_, rfl⟩
  · exact .inr (.inl rfl)
  · exact .inr (.inr (.inl rfl))
  · exact .inr (.inr (.inr (.inl ⟨["a"], rfl, fun z hz => by rw [List.mem_singleton.mp hz]; exact ok_a⟩)))
  · exact .inr (.inr (.inr (.inr ⟨["a"], rfl, fun z hz => by rw [List.mem_singleton.mp hz]; exact ok_a⟩)))
  · exact .inr (.inr (.inr (.inl ⟨_, rfl, fun z hz => oz z (cutA_mem hz)⟩)))
def t_way (k : Int) : TI' := (mBl (mBin (fEqD false) (mVar 4) (mC (.int k))))
def t_w4 : TI' := (mBl (mBin fLt (mVar 4) (mC (.int 4))))
def e_rev : EI := (mBin (fStp false) (mVar 2) (mUn fNeg (mC (.int 1))))
def e_cut : EI := (mBin fCatT (mBin fCatT (mSlc false (mVar 2) none (some (mVar 3))) (mOn mkT (mCons (mVar 5) mNil))) (mSlc false (mVar 2) (some (mBin fSub (mBin (fAdd false) (mVar 3) (mVar 4)) (mC (.int 2)))) none))
def e_end : EI := (mIf (t_way 4) (mSlc false (mVar 2) (some (mC (.int 1))) none) (mBin fCatT (mVar 2) (mSlc false (mVar 2) (some (mUn fNeg (mC (.int 1)))) none)))
theorem bent_eq {rows : List Row} {r0 : List Row} {q0 q : Row} (e0 : rows[0]? = some q0) (eq : rows = r0 ++ [q]) {zs : List Str} (oz : ∀ z ∈ zs, PyData.strOk z = true) (hz : zs.length < 100) {p : U3} {H : Hh} {l : Nat} (hl : H[l]? = some (URN p)) :
    ∃ t p', fn_law_bent [.ref l, .d (rowsD rows), .d (tupD zs)] H = some (.d t, H.set l (URN p')) ∧ Okd t := by
  have hs : ∀ (p : U3), (H.set l (URN p))[l]? = some (URN p) := fun p => List.getElem?_set_self (List.getElem?_eq_some_iff.mp hl).1
  let ρ0 : En := [some (.ref l), some (.d (rowsD rows)), some (.d (tupD zs)), none, none, none]
  have el : e_len 2 ρ0 H = some (.d (.int zs.length), H) := (on_of (cons_of (show mVar 2 ρ0 H = some (.d (SQ true zs), H) from rfl) (show mNil ρ0 H = some ([], H) from rfl))).trans (sq_len (b := true))
  have ea : mBin (fAdd false) (e_len 2) (mC (.int 1)) ρ0 H = some (.d (.int ((zs.length : Int) + 1)), H) := (bin_of (f := fAdd false) el (show mC (.int 1) ρ0 H = some (.d (.int 1), H) from rfl)).trans rfl
  let p1 := (pul p ((zs.length : Int) + 1)).2
  have c1 : e_place ρ0 H = some (.d (.int (pul p ((zs.length : Int) + 1)).1), H.set l (URN p1)) := (call_of (n := 2) (F := fn_law_pull) (cons_of (show mVar 0 ρ0 H = some (.ref l, H) from rfl) (cons_of ea (show mNil ρ0 H = some ([], H) from rfl))) rfl).trans (pull_eq (by omega) (by omega) hl)
  generalize (pul p ((zs.length : Int) + 1)).1 = at_ at c1
  have c2 : e_pul 7 ρ0 (H.set l (URN p1)) = some (.d (.int (pul p1 7).1), (H.set l (URN p1)).set l (URN (pul p1 7).2)) := (call_of (n := 2) (F := fn_law_pull) (show mCons (mVar 0) (mCons (mC (.int 7)) mNil) ρ0 (H.set l (URN p1)) = some ([.ref l, .d (.int 7)], H.set l (URN p1)) from rfl) rfl).trans (pull_eq (by omega) (by omega) (hs p1))
  rw [List.set_set] at c2
  generalize (pul p1 7).1 = w at c2
  generalize (pul p1 7).2 = p2 at c2
  let h2 := H.set l (URN p2)
  have s1 : mPar 3 4 (mCons e_place (mCons (e_pul 7) mNil)) ρ0 H = some (.nx [some (.ref l), some (.d (rowsD rows)), some (.d (tupD zs)), some (.d (.int at_)), some (.d (.int w)), none] h2) := by
    unfold mPar
    rw [cons_of c1 (cons_of c2 (show mNil ρ0 h2 = some ([], h2) from rfl))]
    rfl
  let ρ1 : En := [some (.ref l), some (.d (rowsD rows)), some (.d (tupD zs)), some (.d (.int at_)), some (.d (.int w)), none]
  obtain ⟨os, eo, one, ol, oE⟩ := odds_ok e0 eq oz (by omega) (some (.ref l)) (some (.d (.int at_))) (some (.d (.int w))) none h2
  obtain ⟨o, ho, e3⟩ := of_eq one ol (hs p2)
  rw [List.set_set] at e3
  have c3 : e_odd ρ1 h2 = _ := (call_of (n := 2) (F := fn_law_of) (cons_of (show mVar 0 ρ1 h2 = some (.ref l, h2) from rfl) (cons_of eo (show mNil ρ1 h2 = some ([], h2) from rfl))) rfl).trans e3
  generalize (pul p2 os.length).2 = p3 at c3
  have s2 := asg_N (i := 5) c3
  let h3 := H.set l (URN p3)
  let ρ : En := [some (.ref l), some (.d (rowsD rows)), some (.d (tupD zs)), some (.d (.int at_)), some (.d (.int w)), some (.d o)]
  have hE : ∀ x ∈ zs.map D.str, Elem x := fun x hx => by
    obtain ⟨z, _, rfl⟩ := List.mem_map.mp hx
    exact .inl ⟨z, rfl⟩
  have v2 : mVar 2 ρ h3 = some (.d (.tup (zs.map .str)), h3) := rfl
  have lz : (zs.map D.str).length < 1000 := by rw [List.length_map]; omega
  have lz1 : (zs.map D.str).length < 100 := by rw [List.length_map]; exact hz
  have tw : ∀ k, t_way k ρ h3 = some (decide (w = k), h3) := fun k => bl_of ((bin_of (f := fEqD false) (show mVar 4 ρ h3 = some (.d (.int w), h3) from rfl) (show mC (.int k) ρ h3 = some (.d (.int k), h3) from rfl)).trans (int_eq _ _ _))
  have t4 : t_w4 ρ h3 = some (decide (w < 4), h3) := bl_of ((bin_of (f := fLt) (show mVar 4 ρ h3 = some (.d (.int w), h3) from rfl) (show mC (.int 4) ρ h3 = some (.d (.int 4), h3) from rfl)).trans rfl)
  have d1 : m_law_bent = mSeq (mPar 3 4 (mCons e_place (mCons (e_pul 7) mNil))) (mSeq (mAsg e_odd (gN 5)) (mSeq (mIfS (t_way 0) (mRet (mOn (fList false) (mCons (mVar 2) mNil))) mSkip) (mSeq (mIfS (t_way 1) (mRet e_rev) mSkip) (mSeq (mIfS t_w4 (mRet e_cut) mSkip) (mRet e_end))))) := rfl
  have body : ∃ t, m_law_bent ρ0 H = some (.rt (.d t) h3) ∧ Okd t := by
    rw [d1]
    by_cases w0 : w = 0
    · have t := tw 0
      rw [decide_eq_true w0] at t
      have e : mOn (fList false) (mCons (mVar 2) mNil) ρ h3 = some (.d (.lst (zs.map .str)), h3) := by
        rw [on_of (cons_of v2 (show mNil ρ h3 = some ([], h3) from rfl))]
        show mkL false ((zs.map D.str).map A.d) h3 = _
        rw [mkL_data lz]
      have r : mRet (mOn (fList false) (mCons (mVar 2) mNil)) ρ h3 = some (.rt (.d (.lst (zs.map .str))) h3) := by
        unfold mRet
        rw [e]
      exact ⟨_, (seq_nx s1).trans ((seq_nx s2).trans (seq_rt ((if_yes t).trans r))), .inr ⟨_, rfl⟩⟩
    · have t0 := tw 0
      rw [decide_eq_false w0] at t0
      have n0 := if_no (a := mRet (mOn (fList false) (mCons (mVar 2) mNil))) t0
      by_cases w1 : w = 1
      · have t := tw 1
        rw [decide_eq_true w1] at t
        have e : e_rev ρ h3 = some (.d (.tup (zs.map D.str).reverse), h3) := by
          refine (bin_of (f := fStp false) v2 (show mUn fNeg (mC (.int 1)) ρ h3 = some (.d (.int (-1)), h3) from rfl)).trans ?_
          unfold fStp
          show (match itemsT (.d (.tup (zs.map D.str))) with
            | some xs => if (-1 : Int) = -1 then mkT xs.reverse h3 else none
            | none => none) = _
          rw [show itemsT (.d (.tup (zs.map D.str))) = some ((zs.map D.str).map A.d) from rfl]
          dsimp only
          rw [if_pos rfl, ← List.map_reverse, mkT_data (by rw [List.length_reverse]; exact lz)]
        have r : mRet e_rev ρ h3 = some (.rt (.d (.tup (zs.map D.str).reverse)) h3) := by
          unfold mRet
          rw [e]
        exact ⟨_, (seq_nx s1).trans ((seq_nx s2).trans ((seq_nx n0).trans (seq_rt ((if_yes t).trans r)))), .inl ⟨_, rfl, fun x hx => hE x (List.mem_reverse.mp hx), by rw [List.length_reverse]; omega⟩⟩
      · have t1 := tw 1
        rw [decide_eq_false w1] at t1
        have n1 := if_no (a := mRet e_rev) t1
        by_cases w4 : w < 4
        · rw [decide_eq_true w4] at t4
          have a1 : mSlc false (mVar 2) none (some (mVar 3)) ρ h3 = some (.d (.tup (cutA (zs.map .str) none (some at_))), h3) := slcT v2 rfl rfl lz
          have a2 : mOn mkT (mCons (mVar 5) mNil) ρ h3 = some (.d (.tup [o]), h3) := mkT_data (xs := [o]) (by simp)
          have l1 := cutA_le (zs.map D.str) none (some at_)
          have a3 := (bin_of (f := fCatT) a1 a2).trans (catT_data (by simp; omega))
          have pe : partI (some (mBin fSub (mBin (fAdd false) (mVar 3) (mVar 4)) (mC (.int 2)))) ρ h3 = some (some (at_ + w - 2), h3) := rfl
          have a4 : mSlc false (mVar 2) (some (mBin fSub (mBin (fAdd false) (mVar 3) (mVar 4)) (mC (.int 2)))) none ρ h3 = some (.d (.tup (cutA (zs.map .str) (some (at_ + w - 2)) none)), h3) := slcT v2 pe rfl lz
          have l2 := cutA_le (zs.map D.str) (some (at_ + w - 2)) none
          have e : e_cut ρ h3 = _ := (bin_of (f := fCatT) a3 a4).trans (catT_data (by rw [List.length_append]; simp; omega))
          have r : mRet e_cut ρ h3 = some (.rt (.d (.tup (cutA (zs.map .str) none (some at_) ++ [o] ++ cutA (zs.map .str) (some (at_ + w - 2)) none))) h3) := by
            unfold mRet
            rw [e]
          refine ⟨_, (seq_nx s1).trans ((seq_nx s2).trans ((seq_nx n0).trans ((seq_nx n1).trans (seq_rt ((if_yes t4).trans r))))), .inl ⟨_, rfl, fun x hx => ?_, by rw [List.length_append, List.length_append]; simp; omega⟩⟩
          rcases List.mem_append.mp hx with hx | hx
          · rcases List.mem_append.mp hx with hx | hx
            · exact hE x (cutA_mem hx)
            · rw [List.mem_singleton.mp hx]; exact oE o ho
          · exact hE x (cutA_mem hx)
        · rw [decide_eq_false w4] at t4
          have n4 := if_no (a := mRet e_cut) t4
          by_cases w5 : w = 4
          · have t := tw 4
            rw [decide_eq_true w5] at t
            have a1 : mSlc false (mVar 2) (some (mC (.int 1))) none ρ h3 = some (.d (.tup (cutA (zs.map .str) (some 1) none)), h3) := slcT v2 rfl rfl lz
            have l1 := cutA_le (zs.map D.str) (some 1) none
            have r : mRet e_end ρ h3 = some (.rt (.d (.tup (cutA (zs.map .str) (some 1) none))) h3) := by
              unfold mRet e_end mIf
              rw [t]
              dsimp only
              rw [a1]
            exact ⟨_, (seq_nx s1).trans ((seq_nx s2).trans ((seq_nx n0).trans ((seq_nx n1).trans ((seq_nx n4).trans r)))), .inl ⟨_, rfl, fun x hx => hE x (cutA_mem hx), by omega⟩⟩
          · have t := tw 4
            rw [decide_eq_false w5] at t
            have a1 : mSlc false (mVar 2) (some (mUn fNeg (mC (.int 1)))) none ρ h3 = some (.d (.tup (cutA (zs.map .str) (some (-1)) none)), h3) := slcT v2 rfl rfl lz
            have l1 := cutA_le (zs.map D.str) (some (-1)) none
            have a2 := (bin_of (f := fCatT) v2 a1).trans (catT_data (by omega))
            have r : mRet e_end ρ h3 = some (.rt (.d (.tup (zs.map .str ++ cutA (zs.map .str) (some (-1)) none))) h3) := by
              unfold mRet e_end mIf
              rw [t]
              dsimp only
              rw [a2]
            refine ⟨_, (seq_nx s1).trans ((seq_nx s2).trans ((seq_nx n0).trans ((seq_nx n1).trans ((seq_nx n4).trans r)))), .inl ⟨_, rfl, fun x hx => ?_, by rw [List.length_append]; omega⟩⟩
            rcases List.mem_append.mp hx with hx | hx
            · exact hE x hx
            · exact hE x (cutA_mem hx)
  obtain ⟨t, b, hk⟩ := body
  refine ⟨t, p3, ?_, hk⟩
  have z : fn_law_bent [.ref l, .d (rowsD rows), .d (tupD zs)] H = finP H.length (m_law_bent ρ0 H) := mkFn_eq rfl
  rw [z, b]
  show some (cut H.length _ h3) = _
  rw [cut_same (List.length_set)]
end K52
set_option Elab.async false
set_option linter.all false
set_option maxRecDepth 100000
set_option maxHeartbeats 1000000
namespace K52
open PySem PySem.Spec PyProof.Rows L2 F2
/-! ### the law -/
theorem reprs_same (k : Bool) (H : Hh) : fRepr [.d (.lst [.bl k, .bl k])] H = some (.d (.str (if k then "[True, True]" else "[False, False]")), H) := by
  cases k <;> kernel_rfl
theorem str_same (k : Bool) (H : Hh) : fEqD true (.d (.str (if k then "[True, True]" else "[False, False]"))) (.d (.str (if k then "[True, True]" else "[False, False]"))) H = some (.d (.bl false), H) := by
  cases k <;> kernel_rfl
theorem strB_same (k : Bool) (H : Hh) : fEqD true (.d (.str (if k then "True" else "False"))) (.d (.str (if k then "True" else "False"))) H = some (.d (.bl false), H) := by
  cases k <;> kernel_rfl
def e_acc : EI := (mCall 2 fn_accepts (mCons (mVar 3) (mCons (mVar 4) mNil)))
def e_accK : EI := (mCallK 2 [1, 0] fn_accepts (mCons (mVar 4) (mCons (mVar 3) mNil)))
def e_isch : EI := (mCall 2 fn_law_is_choice (mCons (mVar 2) (mCons (mVar 4) mNil)))
def t_diff : TI' := mBl (mBin (fEqD true) (mOn fRepr (mCons (mOn (mkL false) (mCons e_acc (mCons e_accK mNil))) mNil)) (mOn fRepr (mCons (mOn (mkL false) (mCons (mVar 5) (mCons (mVar 5) mNil))) mNil)))
def t_diff2 : TI' := mBl (mBin (fEqD true) (mOn fReprB (mCons e_acc mNil)) (mOn fReprB (mCons e_isch mNil)))
def b_all : SI := mSeq (mAsg e_isch (gN 5)) (mIfS t_diff RF mSkip)
def e_tups : EI := (mCall 1 fn_law_tuples (mCons (mVar 2) mNil))
def e_bent : EI := mCall 3 fn_law_bent (mCons (mVar 0) (mCons (mVar 2) (mCons (mCall 2 fn_law_of (mCons (mVar 0) (mCons e_tups mNil))) mNil)))
def b_bent : SI := mSeq (mAsg e_bent (gN 4)) (mIfS t_diff2 RF mSkip)
def e_rows : EI := (mCall 3 fn_law_rows (mCons (mVar 0) (mCons (mBin (fAdd false) (mC (.int 2)) (e_pul 8)) (mCons (mC (.int 5)) mNil))))
def e_claim : EI := mOn mkT (mCons (mC (.str "has")) (mCons (mCall 1 fn_law_text (mCons (mVar 2) mNil)) mNil))
def b_five : SI := mSeq (mAsg e_rows (gN 2)) (mSeq (mAsg e_claim (gN 3)) (mSeq (mFor (srcQ e_tups) (gN 4) b_all) (mFor (srcR1 (mCons (mC (.int 12)) mNil)) (gN 6) b_bent)))
/-- what the drawn rows are -/
structure Rws (rows : List Row) : Prop where
  fits : Fits [] rows
  ne : rows ≠ []
  few : rows.length ≤ 9
  pool : Pooled rows
section
variable {rows : List Row} (R : Rws rows)
include R
theorem Rws.two : ∀ r ∈ rows, r.2.length ≤ 2 := fun r hr => (R.fits.mem hr).choose_spec.small.l
theorem Rws.small : ∀ r ∈ rows, Small r := fun r hr => (R.fits.mem hr).choose_spec.small
theorem Rws.ok : ∀ r ∈ rows, ∀ s ∈ r.2, PyData.strOk s = true := fun r hr => (R.fits.mem hr).choose_spec.ok
theorem Rws.src : ∀ r ∈ rows.drop 1, r.2 ≠ [] := fun r hr => by
  obtain ⟨i, hi⟩ := List.mem_iff_getElem?.mp hr
  rw [List.getElem?_drop] at hi
  have f := R.fits.at hi
  have s := f.src
  have hne : [] ++ rows.take (1 + i) ≠ [] := by
    have hlt := (List.getElem?_eq_some_iff.mp hi).1
    intro z
    have e := congrArg List.length z
    rw [List.nil_append, List.length_take, List.length_nil] at e
    omega
  rw [if_neg hne] at s
  intro z
  rw [z] at s
  cases s
end
theorem acc_ok {rows : List Row} (R : Rws rows) {t : D} (ht : Okd t) (x0 x1 x2 x5 x6 : Option A) {h : Hh} (hd : DH h) : e_acc [x0, x1, x2, some (.d (claimD rows)), some (.d t), x5, x6] h = some (.d (.bl (isCh rows t)), h) :=
  (call_of (n := 2) (F := fn_accepts) (show mCons (mVar 3) (mCons (mVar 4) mNil) [x0, x1, x2, some (.d (claimD rows)), some (.d t), x5, x6] h = some ([.d (claimD rows), .d t], h) from rfl) rfl).trans (accepts_eq R.fits R.ne (by have := R.few; omega) ht hd)
theorem accK_ok {rows : List Row} (R : Rws rows) {t : D} (ht : Okd t) (x0 x1 x2 x5 x6 : Option A) {h : Hh} (hd : DH h) : e_accK [x0, x1, x2, some (.d (claimD rows)), some (.d t), x5, x6] h = some (.d (.bl (isCh rows t)), h) := by
  have e : mCons (mVar 4) (mCons (mVar 3) mNil) [x0, x1, x2, some (.d (claimD rows)), some (.d t), x5, x6] h = some ([.d t, .d (claimD rows)], h) := rfl
  have a := accepts_eq R.fits R.ne (by have := R.few; omega) ht hd
  unfold e_accK mCallK
  rw [on_of e]
  exact a
theorem isch_ok {rows : List Row} (R : Rws rows) {t : D} (ht : Okd t) (x0 x1 x3 x5 x6 : Option A) (h : Hh) : e_isch [x0, x1, some (.d (rowsD rows)), x3, some (.d t), x5, x6] h = some (.d (.bl (isCh rows t)), h) :=
  (call_of (n := 2) (F := fn_law_is_choice) (show mCons (mVar 2) (mCons (mVar 4) mNil) [x0, x1, some (.d (rowsD rows)), x3, some (.d t), x5, x6] h = some ([.d (rowsD rows), .d t], h) from rfl) rfl).trans (lawch_eq R.two (by have := R.few; omega) R.ne R.ok ht h)
theorem all_turn {rows : List Row} (R : Rws rows) {t : D} (ht : Okd t) (x0 x1 x5 x6 : Option A) {h : Hh} (hd : DH h) :
    b_all [x0, x1, some (.d (rowsD rows)), some (.d (claimD rows)), some (.d t), x5, x6] h = some (.nx [x0, x1, some (.d (rowsD rows)), some (.d (claimD rows)), some (.d t), some (.d (.bl (isCh rows t))), x6] h) := by
  have s1 := asg_N (i := 5) (isch_ok R ht x0 x1 (some (.d (claimD rows))) x5 x6 h)
  let ρ : En := [x0, x1, some (.d (rowsD rows)), some (.d (claimD rows)), some (.d t), some (.d (.bl (isCh rows t))), x6]
  have a1 := acc_ok R ht x0 x1 (some (.d (rowsD rows))) (some (.d (.bl (isCh rows t)))) x6 hd
  have a2 := accK_ok R ht x0 x1 (some (.d (rowsD rows))) (some (.d (.bl (isCh rows t)))) x6 hd
  have nl : mNil ρ h = some ([], h) := rfl
  generalize hk : isCh rows t = k at a1 a2 s1
  let ρk : En := [x0, x1, some (.d (rowsD rows)), some (.d (claimD rows)), some (.d t), some (.d (.bl k)), x6]
  have l1 : mOn (mkL false) (mCons e_acc (mCons e_accK mNil)) ρk h = some (.d (.lst [.bl k, .bl k]), h) := (on_of (cons_of a1 (cons_of a2 (show mNil ρk h = some ([], h) from rfl)))).trans (mkL_data (xs := [.bl k, .bl k]) (by simp))
  have l2 : mOn (mkL false) (mCons (mVar 5) (mCons (mVar 5) mNil)) ρk h = some (.d (.lst [.bl k, .bl k]), h) := (on_of (cons_of (show mVar 5 ρk h = some (.d (.bl k), h) from rfl) (cons_of (show mVar 5 ρk h = some (.d (.bl k), h) from rfl) (show mNil ρk h = some ([], h) from rfl)))).trans (mkL_data (xs := [.bl k, .bl k]) (by simp))
  have r1 := (on_of (F := fRepr) (cons_of l1 (show mNil ρk h = some ([], h) from rfl))).trans (reprs_same k h)
  have r2 := (on_of (F := fRepr) (cons_of l2 (show mNil ρk h = some ([], h) from rfl))).trans (reprs_same k h)
  have td : t_diff ρk h = some (false, h) := bl_of ((bin_of (f := fEqD true) r1 r2).trans (str_same k h))
  exact (seq_nx s1).trans (if_no (a := RF) td)
theorem okd_tup {zs : List Str} (hz : zs.length < 500) : Okd (tupD zs) := .inl ⟨_, rfl, fun x hx => by
  obtain ⟨z, _, rfl⟩ := List.mem_map.mp hx
  exact .inl ⟨z, rfl⟩, by rw [List.length_map]; exact hz⟩
theorem bent_turn {rows : List Row} (R : Rws rows) (x1 x4 x5 x6 : Option A) {h : Hh} {l : Nat} {p : U3} (hl : h[l]? = some (URN p)) (hd : DH h) :
    ∃ t p', b_bent [some (.ref l), x1, some (.d (rowsD rows)), some (.d (claimD rows)), x4, x5, x6] h = some (.nx [some (.ref l), x1, some (.d (rowsD rows)), some (.d (claimD rows)), some (.d t), x5, x6] (h.set l (URN p'))) := by
  let ρ : En := [some (.ref l), x1, some (.d (rowsD rows)), some (.d (claimD rows)), x4, x5, x6]
  obtain ⟨ts, et, tne, tl, tm, tsr⟩ := tuples_eq R.two R.src R.few R.ne h
  have c1 : e_tups ρ h = some (.d (.lst (ts.map tupD)), h) := (call_of (n := 1) (F := fn_law_tuples) (show mCons (mVar 2) mNil ρ h = some ([.d (rowsD rows)], h) from rfl) rfl).trans et
  obtain ⟨x, hx, eo⟩ := of_eq (xs := ts.map tupD) (by simpa using tne) (by rw [List.length_map]; omega) hl
  obtain ⟨zs, hzs, rfl⟩ := List.mem_map.mp hx
  have c2 := (call_of (n := 2) (F := fn_law_of) (cons_of (show mVar 0 ρ h = some (.ref l, h) from rfl) (cons_of c1 (show mNil ρ h = some ([], h) from rfl))) rfl).trans eo
  generalize (pul p (ts.map tupD).length).2 = p1 at c2
  have hll := (List.getElem?_eq_some_iff.mp hl).1
  have h1l : (h.set l (URN p1))[l]? = some (URN p1) := List.getElem?_set_self hll
  obtain ⟨r0, q, eq⟩ := last_row R.ne
  have e0 : rows[0]? = some (rows[0]'(len_pos R.ne)) := List.getElem?_eq_getElem (len_pos R.ne)
  have oz : ∀ z ∈ zs, PyData.strOk z = true := fun z hz => by
    obtain ⟨r, hr, hz⟩ := tsr zs hzs z hz
    exact R.ok r hr z hz
  have lz := tm zs hzs
  have few := R.few
  obtain ⟨t, p2, e, ht⟩ := bent_eq e0 eq oz (by omega) h1l
  rw [List.set_set] at e
  have c3 : e_bent ρ h = some (.d t, h.set l (URN p2)) := (call_of (n := 3) (F := fn_law_bent) (cons_of (show mVar 0 ρ h = some (.ref l, h) from rfl) (cons_of (show mVar 2 ρ h = some (.d (rowsD rows), h) from rfl) (cons_of c2 (show mNil ρ (h.set l (URN p1)) = some ([], h.set l (URN p1)) from rfl)))) rfl).trans e
  have s1 := asg_N (i := 4) c3
  let h2 := h.set l (URN p2)
  have d2 : DH h2 := hd.set dO_urn
  let ρ1 : En := [some (.ref l), x1, some (.d (rowsD rows)), some (.d (claimD rows)), some (.d t), x5, x6]
  have a1 := acc_ok R ht (some (.ref l)) x1 (some (.d (rowsD rows))) x5 x6 d2
  have a2 := isch_ok R ht (some (.ref l)) x1 (some (.d (claimD rows))) x5 x6 h2
  generalize isCh rows t = k at a1 a2
  have r1 := (on_of (F := fReprB) (cons_of a1 (show mNil ρ1 h2 = some ([], h2) from rfl))).trans (show fReprB [.d (.bl k)] h2 = some (.d (.str (if k then "True" else "False")), h2) from rfl)
  have r2 := (on_of (F := fReprB) (cons_of a2 (show mNil ρ1 h2 = some ([], h2) from rfl))).trans (show fReprB [.d (.bl k)] h2 = some (.d (.str (if k then "True" else "False")), h2) from rfl)
  have td : t_diff2 ρ1 h2 = some (false, h2) := bl_of ((bin_of (f := fEqD true) r1 r2).trans (strB_same k h2))
  exact ⟨t, p2, (seq_nx s1).trans (if_no (a := RF) td)⟩
/-- one of the five turns -/
theorem five_turn (x2 x3 x4 x5 x6 : Option A) (i : Int) {h : Hh} {l : Nat} {p : U3} (hl : h[l]? = some (URN p)) (hd : DH h) :
    ∃ y2 y3 y4 y5 y6 p', b_five [some (.ref l), some (.d (.int i)), x2, x3, x4, x5, x6] h = some (.nx [some (.ref l), some (.d (.int i)), y2, y3, y4, y5, y6] (h.set l (URN p'))) := by
  have hll := (List.getElem?_eq_some_iff.mp hl).1
  have hs : ∀ (p : U3), (h.set l (URN p))[l]? = some (URN p) := fun p => List.getElem?_set_self hll
  let ρ : En := [some (.ref l), some (.d (.int i)), x2, x3, x4, x5, x6]
  have lo := pul_lo (p := p) (m := 8) (by omega)
  have hi := pul_hi (p := p) (m := 8) (by omega)
  have c1 : e_pul 8 ρ h = some (.d (.int (pul p 8).1), h.set l (URN (pul p 8).2)) := (call_of (n := 2) (F := fn_law_pull) (show mCons (mVar 0) (mCons (mC (.int 8)) mNil) ρ h = some ([.ref l, .d (.int 8)], h) from rfl) rfl).trans (pull_eq (by omega) (by omega) hl)
  obtain ⟨m, hm⟩ := Int.eq_ofNat_of_zero_le (show 0 ≤ 2 + (pul p 8).1 by omega)
  have c2 : mBin (fAdd false) (mC (.int 2)) (e_pul 8) ρ h = some (.d (.int m), h.set l (URN (pul p 8).2)) := by
    have := (bin_of (f := fAdd false) (show mC (.int 2) ρ h = some (.d (.int 2), h) from rfl) c1).trans (show fAdd false (.d (.int 2)) (.d (.int (pul p 8).1)) (h.set l (URN (pul p 8).2)) = some (.d (.int (2 + (pul p 8).1)), h.set l (URN (pul p 8).2)) from rfl)
    rw [hm] at this
    exact this
  obtain ⟨rows, p2, er, hv, hne, hle, hp⟩ := rows_eq (p := (pul p 8).2) (n := m) (by omega) (by omega) (hs _) (hd.set dO_urn) 5
  rw [List.set_set] at er
  have R : Rws rows := ⟨hv, hne, by omega, hp⟩
  let h2 := h.set l (URN p2)
  have d2 : DH h2 := hd.set dO_urn
  have c3 : e_rows ρ h = some (.d (rowsD rows), h2) := (call_of (n := 3) (F := fn_law_rows) (cons_of (show mVar 0 ρ h = some (.ref l, h) from rfl) (cons_of c2 (cons_of (show mC (.int 5) ρ (h.set l (URN (pul p 8).2)) = some (.d (.int 5), h.set l (URN (pul p 8).2)) from rfl) (show mNil ρ (h.set l (URN (pul p 8).2)) = some ([], h.set l (URN (pul p 8).2)) from rfl)))) rfl).trans er
  have s1 := asg_N (i := 2) c3
  let ρ1 : En := [some (.ref l), some (.d (.int i)), some (.d (rowsD rows)), x3, x4, x5, x6]
  have few := R.few
  have c4 : mCall 1 fn_law_text (mCons (mVar 2) mNil) ρ1 h2 = some (.d (.str (said rows)), h2) := (call_of (n := 1) (F := fn_law_text) (show mCons (mVar 2) mNil ρ1 h2 = some ([.d (rowsD rows)], h2) from rfl) rfl).trans (said_eq R.small (by omega) h2)
  have c5 : e_claim ρ1 h2 = some (.d (claimD rows), h2) := (on_of (cons_of (show mC (.str "has") ρ1 h2 = some (.d (.str "has"), h2) from rfl) (cons_of c4 (show mNil ρ1 h2 = some ([], h2) from rfl)))).trans (mkT_data (xs := [.str "has", .str (said rows)]) (by simp))
  have s2 := asg_N (i := 3) c5
  let ρ2 : En := [some (.ref l), some (.d (.int i)), some (.d (rowsD rows)), some (.d (claimD rows)), x4, x5, x6]
  obtain ⟨ts, et, tne, tl, tm, tsr⟩ := tuples_eq R.two R.src R.few R.ne h2
  have c6 : e_tups ρ2 h2 = some (.d (.lst (ts.map tupD)), h2) := (call_of (n := 1) (F := fn_law_tuples) (show mCons (mVar 2) mNil ρ2 h2 = some ([.d (rowsD rows)], h2) from rfl) rfl).trans et
  have src := srcQ_data c6
  obtain ⟨ρ', H', e4, y4, y5, e5, e6⟩ := for_items (items := (ts.map tupD).map A.d) (g := gN 4) (b := b_all) (I := fun k ρ h => ∃ y4 y5 : Option A, ρ = [some (.ref l), some (.d (.int i)), some (.d (rowsD rows)), some (.d (claimD rows)), y4, y5, x6] ∧ h = h2) (fun i h => items_map _ h i) (by simp) src
    (fun k ρ h hk ⟨y4, y5, e5, e6⟩ => by
      subst e5 e6
      have hk' : k < ts.length := by simpa using hk
      have gk : ((ts.map tupD).map A.d)[k] = .d (tupD ts[k]) := by simp
      have lk := tm _ (List.getElem_mem hk')
      have e := all_turn R (okd_tup (zs := ts[k]) (by omega)) (some (.ref l)) (some (.d (.int i))) y5 x6 d2
      exact ⟨_, h2, (by rw [gk]; exact e), _, _, rfl, rfl⟩) ⟨x4, x5, rfl, rfl⟩
  subst e5 e6
  have src2 : srcR1 (mCons (mC (.int 12)) mNil) [some (.ref l), some (.d (.int i)), some (.d (rowsD rows)), some (.d (claimD rows)), y4, y5, x6] h2 = some (⟨rngN 0 12, 12⟩, h2) := range_n (n := 12) (by omega) rfl
  obtain ⟨ρ', H', e7, z4, z6, p3, e8, e9⟩ := for_items (items := rngI 12) (g := gN 6) (b := b_bent) (I := fun k ρ h' => ∃ (z4 z6 : Option A) (p3 : U3), ρ = [some (.ref l), some (.d (.int i)), some (.d (rowsD rows)), some (.d (claimD rows)), z4, y5, z6] ∧ h' = h.set l (URN p3)) (fun i h => rng_items 12 i h) (by simp [rngI]) src2
    (fun k ρ h' hk ⟨z4, z6, p3, e8, e9⟩ => by
      subst e8 e9
      have gk : ∃ a, (rngI 12)[k] = .d (.int a) := ⟨_, by simp [rngI]; rfl⟩
      obtain ⟨a, gk⟩ := gk
      obtain ⟨t, p4, e⟩ := bent_turn R (some (.d (.int i))) z4 y5 (some (.d (.int a))) (hs p3) (hd.set dO_urn)
      rw [List.set_set] at e
      exact ⟨_, _, (by rw [gk]; exact e), _, _, p4, rfl, rfl⟩) ⟨y4, x6, p2, rfl, rfl⟩
  subst e8 e9
  exact ⟨_, _, _, _, _, p3, (seq_nx s1).trans ((seq_nx s2).trans ((seq_nx e4).trans e7))⟩
def RIGHT : Prop := ∀ (p : U3) (H : Hh) (l : Nat), DH H → H[l]? = some (URN p) → ∃ p', fn_law_right [.ref l] H = some (.d (.bl true), H.set l (URN p'))
theorem right_ok : RIGHT := fun p H l hd hl => by
  have hll := (List.getElem?_eq_some_iff.mp hl).1
  have hs : ∀ (p : U3), (H.set l (URN p))[l]? = some (URN p) := fun p => List.getElem?_set_self hll
  let ρ : En := [some (.ref l), none, none, none, none, none, none]
  have src : srcR1 (mCons (mC (.int 5)) mNil) ρ H = some (⟨rngN 0 5, 5⟩, H) := range_n (n := 5) (by omega) rfl
  obtain ⟨ρ', H', e7, y1, y2, y3, y4, y5, y6, p3, e8, e9⟩ := for_items (items := rngI 5) (g := gN 1) (b := b_five) (I := fun k ρ h' => ∃ (y1 y2 y3 y4 y5 y6 : Option A) (p3 : U3), ρ = [some (.ref l), y1, y2, y3, y4, y5, y6] ∧ h' = H.set l (URN p3)) (fun i h => rng_items 5 i h) (by simp [rngI]) src
    (fun k ρ h' hk ⟨y1, y2, y3, y4, y5, y6, p3, e8, e9⟩ => by
      subst e8 e9
      have gk : ∃ a, (rngI 5)[k] = .d (.int a) := ⟨_, by simp [rngI]; rfl⟩
      obtain ⟨a, gk⟩ := gk
      obtain ⟨z2, z3, z4, z5, z6, p4, e⟩ := five_turn y2 y3 y4 y5 y6 a (hs p3) (hd.set dO_urn)
      rw [List.set_set] at e
      exact ⟨_, _, (by rw [gk]; exact e), _, _, _, _, _, _, p4, rfl, rfl⟩) ⟨none, none, none, none, none, none, p, rfl, by rw [set_same hl]⟩
  subst e8 e9
  have d1 : m_law_right = mSeq (mFor (srcR1 (mCons (mC (.int 5)) mNil)) (gN 1) b_five) (mRet (mC (.bl true))) := rfl
  have b : m_law_right ρ H = some (.rt (.d (.bl true)) (H.set l (URN p3))) := by
    rw [d1]
    exact (seq_nx e7).trans rfl
  have z : fn_law_right [.ref l] H = finP H.length (m_law_right ρ H) := mkFn_eq rfl
  refine ⟨p3, ?_⟩
  rw [z, b]
  show some (cut H.length _ _) = _
  rw [cut_same List.length_set]
end K52
set_option Elab.async false
set_option linter.all false
set_option maxRecDepth 100000
set_option maxHeartbeats 1000000
namespace K52
open PySem PySem.Spec PyProof.Rows L2 F2
def e_turn : EI := (mCall 1 fn_law_right (mCons (mCall 2 fn_law_urn (mCons (mVar 0) (mCons (mVar 1) mNil))) mNil))
theorem turn_ok (R : RIGHT) {ns : List Int} (hz : ns.length < 500) {i : Nat} {H : Hh} (hd : DH H) : ∃ H', e_turn [some (.d (.scr ns)), some (.d (.int (0 + (i : Int))))] H = some (.d (.bl true), H') ∧ DH H' := by
  obtain ⟨p, e1⟩ := urn_ok hz i H
  have d1 : DH (H ++ [URN p]) := hd.app rfl
  obtain ⟨p', e2⟩ := R p (H ++ [URN p]) H.length d1 (by simp)
  refine ⟨(H ++ [URN p]).set H.length (URN p'), ?_, d1.set dO_urn⟩
  have z : (0 : Int) + (i : Int) = (i : Int) := by omega
  rw [z]
  have a1 : mCons (mVar 0) (mCons (mVar 1) mNil) [some (.d (.scr ns)), some (.d (.int (i : Int)))] H = some ([.d (.scr ns), .d (.int (i : Int))], H) := rfl
  have a2 := (call_of (n := 2) (F := fn_law_urn) a1 rfl).trans e1
  have a3 := cons_of a2 (show mNil [some (.d (.scr ns)), some (.d (.int (i : Int)))] (H ++ [URN p]) = some ([], H ++ [URN p]) from rfl)
  exact (call_of (n := 1) (F := fn_law_right) a3 rfl).trans e2
def e_rng : AI := (mCons (mOn fMax2 (mCons (mC (.int 2)) (mCons (mOn fMin2 (mCons (mOn (orC fLen fLenD) (mCons (mVar 0) mNil)) (mCons (mC (.int 5)) mNil))) mNil))) mNil)
theorem rng_ok (ns : List Int) (x : Option A) (H : Hh) : ∃ k : Nat, k < 100 ∧ e_rng [some (.d (.scr ns)), x] H = some ([.d (.int k)], H) := by
  have e : e_rng [some (.d (.scr ns)), x] H = some ([.d (.int (if (if (5 : Int) < (ns.length : Int) then (5 : Int) else (ns.length : Int)) > 2 then (if (5 : Int) < (ns.length : Int) then (5 : Int) else (ns.length : Int)) else 2))], H) := rfl
  rw [e]
  by_cases c : (5 : Int) < (ns.length : Int)
  · rw [if_pos c]
    exact ⟨5, by omega, rfl⟩
  · rw [if_neg c]
    by_cases c2 : (ns.length : Int) > 2
    · rw [if_pos c2]
      exact ⟨ns.length, by omega, rfl⟩
    · rw [if_neg c2]
      exact ⟨2, by omega, rfl⟩
theorem law_ok (R : RIGHT) (ns : List Int) (hn : ns.length ≤ 63) : ∃ h', fn_law [.d (.scr ns)] [] = some (.d (.bl true), h') := by
  obtain ⟨k, hk, e1⟩ := rng_ok ns none []
  have src : srcR1 e_rng [some (.d (.scr ns)), none] [] = some (⟨rngN 0 k, k⟩, []) := range_n (by omega) e1
  obtain ⟨acc, H', ⟨ea, hd⟩, e2⟩ := lc_items (items := rngI k) (g := gN 1) (t := mYes) (m := e_turn) (vs := [1]) (I := fun i acc H => acc = List.replicate i (A.d (.bl true)) ∧ DH H) (fun i h => rng_items k i h) (by simp [rngI]) src
    (fun i acc H hi ⟨ea, hd⟩ => by
      have hi' : i < k := by simpa [rngI] using hi
      obtain ⟨H', e3, hd'⟩ := turn_ok R (ns := ns) (by omega) (i := i) hd
      have gi : (rngI k)[i] = .d (.int (0 + (i : Nat))) := by simp [rngI]
      refine ⟨[some (.d (.scr ns)), some (.d (.int (0 + (i : Int))))], H, true, H, ?_, rfl, (fun z => by cases z), fun _ => ⟨_, H', e3, ⟨?_, hd'⟩, ?_⟩⟩
      · rw [gi]; rfl
      · rw [ea, List.replicate_succ']
      · rw [ea, List.length_replicate]; omega) ⟨rfl, rfl⟩
  have lk : (rngI k).length = k := by simp [rngI]
  rw [lk] at ea
  have l1 : mLc false (srcR1 e_rng) (gN 1) mYes e_turn [1] [some (.d (.scr ns)), none] [] = some (.d (.lst (List.replicate k (D.bl true))), H') := by
    rw [e2 false, ea]
    have z := mkL_data (xs := List.replicate k (D.bl true)) (h := H') (by rw [List.length_replicate]; omega)
    rw [List.map_replicate] at z
    exact z
  have f : fAll [.d (.lst (List.replicate k (D.bl true)))] H' = some (.d (.bl true), H') := by
    have e5 : itemsL (.d (.lst (List.replicate k (D.bl true)))) H' = some (List.replicate k (A.d (.bl true))) := by
      show some ((List.replicate k (D.bl true)).map A.d) = _
      rw [List.map_replicate]
    unfold fAll
    dsimp only
    rw [e5]
    dsimp only
    rw [all_true]
    simp
  have b : m_law [some (.d (.scr ns)), none] [] = some (.rt (.d (.bl true)) H') := by
    have d1 : m_law = mRet (mOn fAll (mCons (mLc false (srcR1 e_rng) (gN 1) mYes e_turn [1]) mNil)) := rfl
    rw [d1]
    unfold mRet
    rw [on_of (cons_of l1 (show mNil [some (.d (.scr ns)), none] H' = some ([], H') from rfl)), f]
  have z : fn_law [.d (.scr ns)] [] = finP 0 (m_law [some (.d (.scr ns)), none] []) := mkFn_eq rfl
  rw [z, b]
  refine ⟨(cut 0 (.d (.bl true)) H').2, ?_⟩
  show some (cut 0 (.d (.bl true)) H') = _
  have c1 : (cut 0 (.d (.bl true)) H').1 = .d (.bl true) := by
    unfold cut
    split <;> rfl
  exact congrArg some (Prod.ext c1 rfl)
theorem law_true (ns : List Int) (hn : ns.length ≤ 63) : ∃ h', fn_law [.d (.scr ns)] [] = some (.d (.bl true), h') := law_ok right_ok ns hn
end K52
set_option Elab.async false
set_option linter.all false
set_option maxRecDepth 100000
set_option maxHeartbeats 0
namespace K52
open PySem PySem.Spec PyProof.Rows L2 F2
open PySem.W (Frag)
theorem txt_of {K : Frag} {h : Heap} {mg : Str → Option Value} {w : World} (X : K.In h) (G : h.Ns mainGlobals mg) (c : SaysPT fa fn ts w K) : ∃ fd, Txt K mg fd w := by
  obtain ⟨d0, F0⟩ := c.p.def_ 0 rfl
  obtain ⟨d1, F1⟩ := c.p.def_ 1 rfl
  obtain ⟨d2, F2⟩ := c.p.def_ 2 rfl
  obtain ⟨d3, F3⟩ := c.p.def_ 3 rfl
  obtain ⟨d4, F4⟩ := c.p.def_ 4 rfl
  obtain ⟨d5, F5⟩ := c.p.def_ 5 rfl
  obtain ⟨d6, F6⟩ := c.p.def_ 6 rfl
  obtain ⟨d7, F7⟩ := c.p.def_ 7 rfl
  obtain ⟨d8, F8⟩ := c.p.def_ 8 rfl
  obtain ⟨d9, F9⟩ := c.p.def_ 9 rfl
  obtain ⟨d10, F10⟩ := c.p.def_ 10 rfl
  obtain ⟨d11, F11⟩ := c.p.def_ 11 rfl
  obtain ⟨d12, F12⟩ := c.p.def_ 12 rfl
  obtain ⟨d13, F13⟩ := c.p.def_ 13 rfl
  obtain ⟨d14, F14⟩ := c.p.def_ 14 rfl
  obtain ⟨d15, F15⟩ := c.p.def_ 15 rfl
  obtain ⟨d16, F16⟩ := c.p.def_ 16 rfl
  obtain ⟨d17, F17⟩ := c.p.def_ 17 rfl
  obtain ⟨d18, F18⟩ := c.p.def_ 18 rfl
  obtain ⟨d19, F19⟩ := c.p.def_ 19 rfl
  obtain ⟨d20, F20⟩ := c.p.def_ 20 rfl
  obtain ⟨d21, F21⟩ := c.p.def_ 21 rfl
  obtain ⟨d22, F22⟩ := c.p.def_ 22 rfl
  obtain ⟨d23, F23⟩ := c.p.def_ 23 rfl
  obtain ⟨d24, F24⟩ := c.p.def_ 24 rfl
  obtain ⟨d25, F25⟩ := c.p.def_ 25 rfl
  obtain ⟨d26, F26⟩ := c.p.def_ 26 rfl
  obtain ⟨d27, F27⟩ := c.p.def_ 27 rfl
  obtain ⟨d28, F28⟩ := c.p.def_ 28 rfl
  obtain ⟨d29, F29⟩ := c.p.def_ 29 rfl
  obtain ⟨d30, F30⟩ := c.p.def_ 30 rfl
  obtain ⟨d31, F31⟩ := c.p.def_ 31 rfl
  obtain ⟨d32, F32⟩ := c.p.def_ 32 rfl
  obtain ⟨d33, F33⟩ := c.p.def_ 33 rfl
  obtain ⟨d34, F34⟩ := c.p.def_ 34 rfl
  obtain ⟨d35, F35⟩ := c.p.def_ 35 rfl
  refine ⟨fun n => (match n with | 0 => d0 | 1 => d1 | 2 => d2 | 3 => d3 | 4 => d4 | 5 => d5 | 6 => d6 | 7 => d7 | 8 => d8 | 9 => d9 | 10 => d10 | 11 => d11 | 12 => d12 | 13 => d13 | 14 => d14 | 15 => d15 | 16 => d16 | 17 => d17 | 18 => d18 | 19 => d19 | 20 => d20 | 21 => d21 | 22 => d22 | 23 => d23 | 24 => d24 | 25 => d25 | 26 => d26 | 27 => d27 | 28 => d28 | 29 => d29 | 30 => d30 | 31 => d31 | 32 => d32 | 33 => d33 | 34 => d34 | 35 => d35 | _ => d0), ?_⟩
  exact {
    kin := ⟨h, X, G⟩
    glo_is_integer := He.glo_ok X G (c.p.fact 0 rfl)
    glo_is_weight := He.glo_ok X G (c.p.fact 1 rfl)
    glo_is_name := He.glo_ok X G (c.p.fact 2 rfl)
    glo_is_one_of := He.glo_ok X G (c.p.fact 3 rfl)
    glo_read_web := He.glo_ok X G (c.p.fact 4 rfl)
    glo_is_new_name := He.glo_ok X G (c.p.fact 5 rfl)
    glo_are_sources := He.glo_ok X G (c.p.fact 6 rfl)
    glo_first_full := He.glo_ok X G (c.p.fact 7 rfl)
    glo_may_be_chosen := He.glo_ok X G (c.p.fact 8 rfl)
    glo_accepts := He.glo_ok X G (c.p.fact 9 rfl)
    glo_shows_verdict := He.glo_ok X G (c.p.fact 10 rfl)
    glo_shows_open := He.glo_ok X G (c.p.fact 11 rfl)
    glo_is_choice := He.glo_ok X G (c.p.fact 12 rfl)
    glo_kept := He.glo_ok X G (c.p.fact 13 rfl)
    glo_is_short := He.glo_ok X G (c.p.fact 14 rfl)
    glo_is_lot := He.glo_ok X G (c.p.fact 15 rfl)
    glo_how_many := He.glo_ok X G (c.p.fact 16 rfl)
    glo_part_with := He.glo_ok X G (c.p.fact 17 rfl)
    glo_ways_of := He.glo_ok X G (c.p.fact 18 rfl)
    glo_shows_best := He.glo_ok X G (c.p.fact 19 rfl)
    glo_are_prices := He.glo_ok X G (c.p.fact 20 rfl)
    glo_are_integers := He.glo_ok X G (c.p.fact 21 rfl)
    glo_are_so_many := He.glo_ok X G (c.p.fact 22 rfl)
    glo_law_urn := He.glo_ok X G (c.p.fact 23 rfl)
    glo_law_pull := He.glo_ok X G (c.p.fact 24 rfl)
    glo_law_of := He.glo_ok X G (c.p.fact 25 rfl)
    glo_law_words := He.glo_ok X G (c.p.fact 26 rfl)
    glo_law_rows := He.glo_ok X G (c.p.fact 27 rfl)
    glo_law_text := He.glo_ok X G (c.p.fact 28 rfl)
    glo_law_lines := He.glo_ok X G (c.p.fact 29 rfl)
    glo_law_inner := He.glo_ok X G (c.p.fact 30 rfl)
    glo_law_tuples := He.glo_ok X G (c.p.fact 31 rfl)
    glo_law_is_choice := He.glo_ok X G (c.p.fact 32 rfl)
    glo_law_bent := He.glo_ok X G (c.p.fact 33 rfl)
    glo_law_right := He.glo_ok X G (c.p.fact 34 rfl)
    glo_law := He.glo_ok X G (c.p.fact 35 rfl)
    free_abs := He.free_ok X G (c.p.fact 36 rfl)
    free_all := He.free_ok X G (c.p.fact 37 rfl)
    free_bool := He.free_ok X G (c.p.fact 38 rfl)
    free_dict := He.free_ok X G (c.p.fact 39 rfl)
    free_divmod := He.free_ok X G (c.p.fact 40 rfl)
    free_int := He.free_ok X G (c.p.fact 41 rfl)
    free_isinstance := He.free_ok X G (c.p.fact 42 rfl)
    free_len := He.free_ok X G (c.p.fact 43 rfl)
    free_list := He.free_ok X G (c.p.fact 44 rfl)
    free_max := He.free_ok X G (c.p.fact 45 rfl)
    free_min := He.free_ok X G (c.p.fact 46 rfl)
    free_range := He.free_ok X G (c.p.fact 47 rfl)
    free_repr := He.free_ok X G (c.p.fact 48 rfl)
    free_set := He.free_ok X G (c.p.fact 49 rfl)
    free_str := He.free_ok X G (c.p.fact 50 rfl)
    free_sum := He.free_ok X G (c.p.fact 51 rfl)
    free_tuple := He.free_ok X G (c.p.fact 52 rfl)
    free_zip := He.free_ok X G (c.p.fact 53 rfl)
    int_MOST_COPIES := c.p.fact 54 rfl
    int_MOST_WEIGHT := c.p.fact 55 rfl
    int_LONGEST_NAME := c.p.fact 56 rfl
    glo_WORDS := He.glo_ok X G (c.p.fact 57 rfl)
    tab_WORDS := tb_of (c.tab 0 rfl) (c.p.fact 58 rfl)
    gs := c.p.fact 59 rfl
    f_is_integer := F0
    f_is_weight := F1
    f_is_name := F2
    f_is_one_of := F3
    f_read_web := F4
    f_is_new_name := F5
    f_are_sources := F6
    f_first_full := F7
    f_may_be_chosen := F8
    f_accepts := F9
    f_shows_verdict := F10
    f_shows_open := F11
    f_is_choice := F12
    f_kept := F13
    f_is_short := F14
    f_is_lot := F15
    f_how_many := F16
    f_part_with := F17
    f_ways_of := F18
    f_shows_best := F19
    f_are_prices := F20
    f_are_integers := F21
    f_are_so_many := F22
    f_law_urn := F23
    f_law_pull := F24
    f_law_of := F25
    f_law_words := F26
    f_law_rows := F27
    f_law_text := F28
    f_law_lines := F29
    f_law_inner := F30
    f_law_tuples := F31
    f_law_is_choice := F32
    f_law_bent := F33
    f_law_right := F34
    f_law := F35
  }
end K52
open PySem PySem.W PySem.Calls PyProof.Rows
theorem K52.holds_of (M : ∀ ns : List Int, ns.length ≤ 63 → ∃ h', K52.fn_law [.d (.scr ns)] [] = some (.d (.bl true), h')) : PySem.Challenge.rw_basetrees_k52_whole_choices_judged.Holds := by
  w_on; o_law
  refine HandSHeadRun.head_any (r := OpenLaw.row PySem.Challenge.rw_basetrees_k52_whole_choices_judged) (q := view (OpenLaw.row PySem.Challenge.rw_basetrees_k52_whole_choices_judged).prog [44]) (H := K52.hk) (ob := K52.ob) (M := 4000) (loose := K52.loose) (d := HandSHeadRun.topDef (OpenLaw.row PySem.Challenge.rw_basetrees_k52_whole_choices_judged).prog 44) (kwd := []) K52.ob_eq
    (by kernel_rfl) (fun s => by kernel_rfl) K52.run (by kernel_rfl) (by kernel_rfl) (by kernel_rfl) (by rfl) (by first | assumption | decide +kernel) (by decide +kernel) ⟨rfl, rfl, rfl, rfl, rfl, by decide +kernel⟩ ?hw ?hc
  case hw => w_witness2
  case hc =>
    refine F2.walk_G (l := PySem.Challenge.rw_basetrees_k52_whole_choices_judged) (n := 63) (k := 7) (x := "_law_script") rfl (by decide) (by kernel_rfl) ⟨rfl, by decide, by decide⟩ ?F
    intro w mg fa h Y G hmg0
    obtain ⟨K, KX, nol, c⟩ := Y
    have hmg : mg ("law" : PySem.Str) = some (.ref fa) := by
      have e : (HandSHeadRun.topDef (OpenLaw.row PySem.Challenge.rw_basetrees_k52_whole_choices_judged).prog 44).name = ("law" : PySem.Str) := by kernel_rfl
      rw [← e]
      exact hmg0
    obtain ⟨fd, T⟩ := K52.txt_of KX G c
    have e := hmg.symm.trans T.glo_law
    cases e
    refine ⟨K, fd 35, K52.fn_law, KX, nol, fun s u => ?_, M, fun base _ _ => K52.ok_law T⟩
    exact T.f_law.bindsA (ps := ["_law_script"]) (fun _ _ _ _ _ _ us hl => match us, hl with | [_], _ => rfl) s [u] rfl
theorem PySem.Challenge.cw_basetrees_k52_whole_choices_judged_holds : PySem.Challenge.rw_basetrees_k52_whole_choices_judged.Holds :=
  K52.holds_of K52.law_true
