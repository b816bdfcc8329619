import PyProof.Rows.All
import Wide.All
import OpenK.AllK
import Wide.FinOn
import HandS.ForMost
import HandS.Deep
import HandS.Flow
import HandS.Style
import HandS.TupAny
import HandS.StrMore
import HandS.FStr
import HandS.Zip
import HandS.DictComp
import HandS.RaiseMore
import HandS.Conv
import HandS.MakeKwOnly
import HandS.Property
import HandS.IsInst
import HandS.WordsDict
import HandS.WideBits
import HandS.NoneIn
import HandS.Star
import KE.KUnpackStar
import KE.KDictList
import HandS.ExcValue
import PyProof.InstNe
import PyProof.Rows.PlainNe
import HandS.Strs
import PyProof.StrOps2
import HandS.Defaults
import HandS.Head0
import HandS.Head1
import HandS.Head2
import HandS.HeadEnd
import HandS.HeadHook1
import HandS.HeadHook2
import HandS.HeadHook4
import HandS.Iter
import PyProof.ReprRoads
import HandS.Small
import KE.KCallOwn
import KE.GoesMore
import PyProof.ReprLen
import PyProof.FitsReplace
import HandS.Text
import PyProof.StrLawsRepr
import PySem.Challenge.RW_basetrees_k02_webs_made
set_option Elab.async false
set_option linter.all false
set_option maxRecDepth 100000
set_option maxHeartbeats 4000000
namespace F2
open PySem PySem.Spec PyProof.Rows L2
/-! data: what never changes any more -/
inductive D where
  | non | bl (b : Bool) | int (i : Int) | str (x : Str)
  | tup (xs : List D) | lst (xs : List D) | dK (kvs : List (Key × D)) | dT (kvs : List (List Key × D)) | ins (c : Str) (fs : List (Str × D)) | scr (ns : List Int) | tupN (xs : List D)
/-- a value: data, or a cell -/
inductive A where
  | d (x : D) | ref (l : Nat) | tp (xs : List A)
/-- what stands in a cell -/
inductive O where
  | lst (xs : List A) | dK (kvs : List (Key × A)) | dT (kvs : List (List Key × A)) | lK (kvs : List (Key × A)) | lT (kvs : List (List Key × A)) | ins (c : Str) (fs : List (Str × A)) | dead
abbrev Hh := List O
abbrev Mg := Str → Option Value
abbrev Fz := Addr → Option HO
def keyD : Key → D
  | .inl i => .int i
  | .inr x => .str x
mutual
inductive RelD (mg : Mg) (fz : Fz) : D → V → Prop
  | non : RelD mg fz .non .non
  | bl (b : Bool) : RelD mg fz (.bl b) (.bl b)
  | int (i : Int) : RelD mg fz (.int i) (.int i)
  | str (x : Str) : RelD mg fz (.str x) (.str x)
  | tup {a : Addr} {vs : List V} {ds : List D} (h : fz a = some (.tup vs)) (r : RelDs mg fz ds vs) : RelD mg fz (.tup ds) (.ref a)
  | lst {a : Addr} {vs : List V} {ds : List D} (h : fz a = some (.lst vs)) (r : RelDs mg fz ds vs) : RelD mg fz (.lst ds) (.ref a)
  | dK {a : Addr} {ks : List (Key × V)} {kvs : List (Key × D)} (h : fz a = some (.dK ks)) (r : RelDk mg fz kvs ks) : RelD mg fz (.dK kvs) (.ref a)
  | dT {a : Addr} {ks : List (List Key × V)} {kvs : List (List Key × D)} (h : fz a = some (.dT ks)) (r : RelDt mg fz kvs ks) : RelD mg fz (.dT kvs) (.ref a)
  | scr {a : Addr} {ob : Obj} {ns : List Int} (h : fz a = some (.frz ob (.lst (ns.map V.int)))) : RelD mg fz (.scr ns) (.ref a)
  | tupN {a : Addr} {ob : Obj} {vs : List V} {ds : List D} (h : fz a = some (.frz ob (.tup vs))) (hc : ob.cls = .type "tuple") (hd : ob.dict = none) (r : RelDs mg fz ds vs) : RelD mg fz (.tupN ds) (.ref a)
  | ins {a C dx : Addr} {c : Str} {fs : List (Str × D)} {gs : List (Str × V)} (hc : mg c = some (.ref C)) (h : fz a = some (.ins C dx gs)) (r : RelDf mg fz fs gs) : RelD mg fz (.ins c fs) (.ref a)
inductive RelDs (mg : Mg) (fz : Fz) : List D → List V → Prop
  | nil : RelDs mg fz [] []
  | cons {d : D} {v : V} {ds : List D} {vs : List V} (h : RelD mg fz d v) (t : RelDs mg fz ds vs) : RelDs mg fz (d :: ds) (v :: vs)
inductive RelDk (mg : Mg) (fz : Fz) : List (Key × D) → List (Key × V) → Prop
  | nil : RelDk mg fz [] []
  | cons {k : Key} {d : D} {v : V} {ds : List (Key × D)} {vs : List (Key × V)} (h : RelD mg fz d v) (t : RelDk mg fz ds vs) : RelDk mg fz ((k, d) :: ds) ((k, v) :: vs)
inductive RelDt (mg : Mg) (fz : Fz) : List (List Key × D) → List (List Key × V) → Prop
  | nil : RelDt mg fz [] []
  | cons {k : List Key} {d : D} {v : V} {ds : List (List Key × D)} {vs : List (List Key × V)} (h : RelD mg fz d v) (t : RelDt mg fz ds vs) : RelDt mg fz ((k, d) :: ds) ((k, v) :: vs)
inductive RelDf (mg : Mg) (fz : Fz) : List (Str × D) → List (Str × V) → Prop
  | nil : RelDf mg fz [] []
  | cons {f : Str} {d : D} {v : V} {ds : List (Str × D)} {vs : List (Str × V)} (h : RelD mg fz d v) (t : RelDf mg fz ds vs) : RelDf mg fz ((f, d) :: ds) ((f, v) :: vs)
end
def FzLe (f g : Fz) : Prop := ∀ a o, f a = some o → g a = some o
theorem FzLe.rfl {f : Fz} : FzLe f f := fun _ _ h => h
theorem FzLe.trans {f g k : Fz} (a : FzLe f g) (b : FzLe g k) : FzLe f k := fun x o h => b x o (a x o h)
mutual
theorem RelD.mono {mg : Mg} {f g : Fz} (l : FzLe f g) : ∀ {d : D} {v : V}, RelD mg f d v → RelD mg g d v
  | _, _, .non => .non
  | _, _, .bl b => .bl b
  | _, _, .int i => .int i
  | _, _, .str x => .str x
  | _, _, .tup h r => .tup (l _ _ h) (RelDs.mono l r)
  | _, _, .lst h r => .lst (l _ _ h) (RelDs.mono l r)
  | _, _, .dK h r => .dK (l _ _ h) (RelDk.mono l r)
  | _, _, .dT h r => .dT (l _ _ h) (RelDt.mono l r)
  | _, _, .scr h => .scr (l _ _ h)
  | _, _, .tupN h c d r => .tupN (l _ _ h) c d (RelDs.mono l r)
  | _, _, .ins c h r => .ins c (l _ _ h) (RelDf.mono l r)
theorem RelDs.mono {mg : Mg} {f g : Fz} (l : FzLe f g) : ∀ {d : List D} {v : List V}, RelDs mg f d v → RelDs mg g d v
  | _, _, .nil => .nil
  | _, _, .cons h t => .cons (RelD.mono l h) (RelDs.mono l t)
theorem RelDk.mono {mg : Mg} {f g : Fz} (l : FzLe f g) : ∀ {d : List (Key × D)} {v : List (Key × V)}, RelDk mg f d v → RelDk mg g d v
  | _, _, .nil => .nil
  | _, _, .cons h t => .cons (RelD.mono l h) (RelDk.mono l t)
theorem RelDt.mono {mg : Mg} {f g : Fz} (l : FzLe f g) : ∀ {d : List (List Key × D)} {v : List (List Key × V)}, RelDt mg f d v → RelDt mg g d v
  | _, _, .nil => .nil
  | _, _, .cons h t => .cons (RelD.mono l h) (RelDt.mono l t)
theorem RelDf.mono {mg : Mg} {f g : Fz} (l : FzLe f g) : ∀ {d : List (Str × D)} {v : List (Str × V)}, RelDf mg f d v → RelDf mg g d v
  | _, _, .nil => .nil
  | _, _, .cons h t => .cons (RelD.mono l h) (RelDf.mono l t)
end
/-- where data and cells stand -/
structure Wd where
  fz : Fz
  phi_ : List Addr
  /-- ours alone, being made -/
  ow : Addr → Option HO
  /-- locked -/
  lk : Addr → Option HO
structure Wd.le0 (a b : Wd) : Prop where
  fz : FzLe a.fz b.fz
  lk : b.lk = a.lk
  phi_ : ∀ (i : Nat) (x : Addr), a.phi_[i]? = some x → b.phi_[i]? = some x
structure Wd.le00 (a b : Wd) : Prop where
  fz : FzLe a.fz b.fz
  phi_ : ∀ (i : Nat) (x : Addr), a.phi_[i]? = some x → b.phi_[i]? = some x
theorem Wd.le0.to00 {a b : Wd} (l : a.le0 b) : a.le00 b := ⟨l.fz, l.phi_⟩
structure Wd.le (a b : Wd) : Prop extends Wd.le0 a b where
  ow : b.ow = a.ow
theorem Wd.le0.trans {a b c : Wd} (p : a.le0 b) (q : b.le0 c) : a.le0 c := ⟨p.fz.trans q.fz, q.lk.trans p.lk, fun i x h => q.phi_ i x (p.phi_ i x h)⟩
theorem Wd.le.rfl {w : Wd} : w.le w := ⟨⟨FzLe.rfl, Eq.refl _, fun _ _ h => h⟩, Eq.refl _⟩
theorem Wd.le.trans {a b c : Wd} (p : a.le b) (q : b.le c) : a.le c := ⟨p.tole0.trans q.tole0, q.ow.trans p.ow⟩
mutual
inductive RelA (mg : Mg) (w : Wd) : A → V → Prop
  | d {x : D} {v : V} (h : RelD mg w.fz x v) : RelA mg w (.d x) v
  | ref {l : Nat} {a : Addr} (h : w.phi_[l]? = some a) : RelA mg w (.ref l) (.ref a)
  | tp {a : Addr} {xs : List A} {vs : List V} (h : w.fz a = some (.tup vs)) (r : RelAs mg w xs vs) : RelA mg w (.tp xs) (.ref a)
inductive RelAs (mg : Mg) (w : Wd) : List A → List V → Prop
  | nil : RelAs mg w [] []
  | cons {a : A} {v : V} {as : List A} {vs : List V} (h : RelA mg w a v) (t : RelAs mg w as vs) : RelAs mg w (a :: as) (v :: vs)
end
mutual
theorem RelA.mono00 {mg : Mg} {w w' : Wd} (l : w.le00 w') : ∀ {a : A} {v : V}, RelA mg w a v → RelA mg w' a v
  | _, _, .d h => .d (h.mono l.fz)
  | _, _, .ref h => .ref (l.phi_ _ _ h)
  | _, _, .tp h r => .tp (l.fz _ _ h) (RelAs.mono00 l r)
theorem RelAs.mono00 {mg : Mg} {w w' : Wd} (l : w.le00 w') : ∀ {a : List A} {v : List V}, RelAs mg w a v → RelAs mg w' a v
  | _, _, .nil => .nil
  | _, _, .cons h t => .cons (RelA.mono00 l h) (RelAs.mono00 l t)
end
theorem RelA.mono0 {mg : Mg} {w w' : Wd} (l : w.le0 w') {a : A} {v : V} (r : RelA mg w a v) : RelA mg w' a v := r.mono00 l.to00
theorem RelAs.mono0 {mg : Mg} {w w' : Wd} (l : w.le0 w') {a : List A} {v : List V} (r : RelAs mg w a v) : RelAs mg w' a v := r.mono00 l.to00
theorem RelA.mono {mg : Mg} {w w' : Wd} (l : w.le w') {a : A} {v : V} (r : RelA mg w a v) : RelA mg w' a v := r.mono0 l.tole0
theorem RelAs.mono {mg : Mg} {w w' : Wd} (l : w.le w') {a : List A} {v : List V} (r : RelAs mg w a v) : RelAs mg w' a v := r.mono0 l.tole0
inductive RelAk (mg : Mg) (w : Wd) {κ : Type} : List (κ × A) → List (κ × V) → Prop
  | nil : RelAk mg w [] []
  | cons {k : κ} {d : A} {v : V} {ds : List (κ × A)} {vs : List (κ × V)} (h : RelA mg w d v) (t : RelAk mg w ds vs) : RelAk mg w ((k, d) :: ds) ((k, v) :: vs)
theorem RelAk.mono00 {mg : Mg} {w w' : Wd} (l : w.le00 w') {κ : Type} : ∀ {a : List (κ × A)} {v : List (κ × V)}, RelAk mg w a v → RelAk mg w' a v
  | _, _, .nil => .nil
  | _, _, .cons h t => .cons (h.mono00 l) (RelAk.mono00 l t)
theorem RelAk.mono0 {mg : Mg} {w w' : Wd} (l : w.le0 w') {κ : Type} {a : List (κ × A)} {v : List (κ × V)} (r : RelAk mg w a v) : RelAk mg w' a v := r.mono00 l.to00
theorem RelAk.mono {mg : Mg} {w w' : Wd} (l : w.le w') {κ : Type} : ∀ {a : List (κ × A)} {v : List (κ × V)}, RelAk mg w a v → RelAk mg w' a v
  | _, _, .nil => .nil
  | _, _, .cons h t => .cons (h.mono l) (RelAk.mono l t)
theorem RelDk.as {mg : Mg} {w : Wd} : ∀ {d : List (Key × D)} {v : List (Key × V)}, RelDk mg w.fz d v → RelAk mg w (d.map fun p => (p.1, A.d p.2)) v
  | _, _, .nil => .nil
  | _, _, .cons h t => .cons (.d h) (RelDk.as t)
theorem RelDt.as {mg : Mg} {w : Wd} : ∀ {d : List (List Key × D)} {v : List (List Key × V)}, RelDt mg w.fz d v → RelAk mg w (d.map fun p => (p.1, A.d p.2)) v
  | _, _, .nil => .nil
  | _, _, .cons h t => .cons (.d h) (RelDt.as t)
abbrev RelAf (mg : Mg) (w : Wd) : List (Str × A) → List (Str × V) → Prop := RelAk mg w
theorem RelDf.as {mg : Mg} {w : Wd} : ∀ {d : List (Str × D)} {v : List (Str × V)}, RelDf mg w.fz d v → RelAf mg w (d.map fun p => (p.1, A.d p.2)) v
  | _, _, .nil => .nil
  | _, _, .cons h t => .cons (.d h) (RelDf.as t)
theorem RelDs.length {mg : Mg} {f : Fz} : ∀ {d : List D} {v : List V}, RelDs mg f d v → d.length = v.length
  | _, _, .nil => rfl
  | _, _, .cons _ t => by simp [RelDs.length t]
theorem RelAs.length {mg : Mg} {w : Wd} : ∀ {d : List A} {v : List V}, RelAs mg w d v → d.length = v.length
  | _, _, .nil => rfl
  | _, _, .cons _ t => by simp [RelAs.length t]
theorem RelDs.as {mg : Mg} {w : Wd} : ∀ {d : List D} {v : List V}, RelDs mg w.fz d v → RelAs mg w (d.map .d) v
  | _, _, .nil => .nil
  | _, _, .cons h t => .cons (.d h) (RelDs.as t)
/-- a cell holds what stands at its address -/
inductive CellOk (mg : Mg) (w : Wd) (H : Hp) (a : Addr) : O → Prop
  | lst {xs : List A} {vs : List V} (h : H a = some (.lst vs)) (r : RelAs mg w xs vs) : CellOk mg w H a (.lst xs)
  | dK {kvs : List (Key × A)} {ks : List (Key × V)} (h : H a = some (.dK ks)) (r : RelAk mg w kvs ks) : CellOk mg w H a (.dK kvs)
  | lK {kvs : List (Key × A)} {ks : List (Key × V)} {ob : Obj} (h : w.lk a = some (.frz ob (.dK ks))) (r : RelAk mg w kvs ks) : CellOk mg w H a (.lK kvs)
  | dT {kvs : List (List Key × A)} {ks : List (List Key × V)} (h : H a = some (.dT ks)) (r : RelAk mg w kvs ks) : CellOk mg w H a (.dT kvs)
  | lT {kvs : List (List Key × A)} {ks : List (List Key × V)} {ob : Obj} (h : w.lk a = some (.frz ob (.dT ks))) (r : RelAk mg w kvs ks) : CellOk mg w H a (.lT kvs)
  | ins {c : Str} {C dx : Addr} {fs : List (Str × A)} {gs : List (Str × V)} (hc : mg c = some (.ref C)) (h : H a = some (.ins C dx gs)) (r : RelAf mg w fs gs) : CellOk mg w H a (.ins c fs)
  | dead : CellOk mg w H a .dead
theorem rd_eq {H H' : Hp} {a : Addr} {u : HO} (e : H' a = H a) (r : Rd H a u) : Rd H' a u := by
  rcases r with r | ⟨ob, r⟩
  · exact .inl (e.trans r)
  · exact .inr ⟨ob, e.trans r⟩
theorem CellOk.mono0 {mg : Mg} {w w' : Wd} (l : w.le0 w') {H H' : Hp} {a : Addr} (e : H' a = H a) {o : O} (c : CellOk mg w H a o) : CellOk mg w' H' a o := by
  cases c with
  | lst h r => exact .lst (e.trans h) (r.mono0 l)
  | dK h r => exact .dK (e.trans h) (r.mono0 l)
  | dT h r => exact .dT (e.trans h) (r.mono0 l)
  | lK h r => exact .lK (by rw [l.lk]; exact h) (r.mono0 l)
  | lT h r => exact .lT (by rw [l.lk]; exact h) (r.mono0 l)
  | ins hc h r => exact .ins hc (e.trans h) (r.mono0 l)
  | dead => exact .dead
theorem CellOk.mono {mg : Mg} {w w' : Wd} (l : w.le w') {H H' : Hp} {a : Addr} (e : H' a = H a) {o : O} (c : CellOk mg w H a o) : CellOk mg w' H' a o := by
  cases c with
  | lst h r => exact .lst (e.trans h) (r.mono l)
  | dK h r => exact .dK (e.trans h) (r.mono l)
  | dT h r => exact .dT (e.trans h) (r.mono l)
  | lK h r => exact .lK (by rw [l.lk]; exact h) (r.mono l)
  | lT h r => exact .lT (by rw [l.lk]; exact h) (r.mono l)
  | ins hc h r => exact .ins hc (e.trans h) (r.mono l)
  | dead => exact .dead
def Live : O → Prop
  | .dead => False
  | .lK _ => False
  | .lT _ => False
  | _ => True
def Lock : O → Prop
  | .lK _ => True
  | .lT _ => True
  | _ => False
structure Sim (mg : Mg) (w : Wd) (H : Hp) (h : Hh) : Prop where
  fz : ∀ a o, w.fz a = some o → Rd H a o
  len : w.phi_.length = h.length
  nd : ∀ (i j : Nat) (a : Addr), w.phi_[i]? = some a → w.phi_[j]? = some a → i = j
  th : ∀ (i : Nat) (a : Addr), w.phi_[i]? = some a → H a ≠ none
  nf : ∀ (i : Nat) (a : Addr) (o : O), w.phi_[i]? = some a → h[i]? = some o → w.fz a = none ∨ o = .dead
  cell : ∀ (i : Nat) (a : Addr) (o : O), w.phi_[i]? = some a → h[i]? = some o → CellOk mg w H a o
  ow : ∀ a o, w.ow a = some o → H a = some o ∧ w.fz a = none ∧ ∀ i : Nat, w.phi_[i]? ≠ some a
  lk : ∀ a o, w.lk a = some o → H a = some o ∧ ∀ i : Nat, w.phi_[i]? = some a → ∃ u, h[i]? = some u ∧ Lock u
def Wd.cell (w : Wd) (p : Addr) : Wd := { w with phi_ := w.phi_ ++ [p] }
def Wd.pure (w : Wd) (p : Addr) (o : HO) : Wd := { w with fz := fun b => if b = p then some o else w.fz b }
section
variable {mg : Mg} {w : Wd} {H : Hp} {h : Hh} {p : Addr} {o : HO}
theorem Sim.fz_none (S : Sim mg w H h) (e : H p = none) : w.fz p = none := by
  cases q : w.fz p with
  | none => rfl
  | some o =>
    rcases S.fz p o q with z | ⟨_, z⟩
    · rw [e] at z; cases z
    · rw [e] at z; cases z
theorem Sim.phi__ne (S : Sim mg w H h) (e : H p = none) {i : Nat} {a : Addr} (q : w.phi_[i]? = some a) : a ≠ p := fun z => S.th i a q (by rw [z]; exact e)
theorem Sim.fz_ne (S : Sim mg w H h) (e : H p = none) {a : Addr} {u : HO} (q : w.fz a = some u) : a ≠ p := fun z => by
  subst z; rw [S.fz_none e] at q; cases q
theorem Sim.le_cell (S : Sim mg w H h) : w.le (w.cell p) := ⟨⟨FzLe.rfl, Eq.refl _, fun i x q => by
  show (w.phi_ ++ [p])[i]? = some x
  rw [List.getElem?_append_left (List.getElem?_eq_some_iff.mp q).1]; exact q⟩, Eq.refl _⟩
theorem Sim.le_pure (S : Sim mg w H h) (e : H p = none) : w.le (w.pure p o) := ⟨⟨fun a u q => by
  show (if a = p then some o else w.fz a) = some u
  rw [if_neg (S.fz_ne e q)]; exact q, Eq.refl _, fun _ _ q => q⟩, Eq.refl _⟩
theorem rd_upd {a : Addr} {u : HO} (r : Rd H a u) (e : a ≠ p) : Rd (upd H p o) a u := by
  rcases r with r | ⟨ob, r⟩
  · exact .inl (by rw [upd_ne e]; exact r)
  · exact .inr ⟨ob, by rw [upd_ne e]; exact r⟩
/-- a new object, kept as data -/
theorem Sim.pure (S : Sim mg w H h) (e : H p = none) : Sim mg (w.pure p o) (upd H p o) h where
  fz := fun a u q => by
    by_cases z : a = p
    · subst z
      have q' : (if a = a then some o else w.fz a) = some u := q
      rw [if_pos rfl] at q'; cases q'
      exact .inl upd_same
    · have q' : (if a = p then some o else w.fz a) = some u := q
      rw [if_neg z] at q'
      exact rd_upd (S.fz a u q') z
  len := S.len
  nd := S.nd
  th := fun i a q => by rw [upd_ne (S.phi__ne e q)]; exact S.th i a q
  nf := fun i a u q r => by
    rcases S.nf i a u q r with z | z
    · refine .inl ?_
      show (if a = p then some o else w.fz a) = none
      rw [if_neg (S.phi__ne e q)]; exact z
    · exact .inr z
  cell := fun i a u q r => (S.cell i a u q r).mono (S.le_pure e) (upd_ne (S.phi__ne e q))
  ow := fun a u q => by
    obtain ⟨h1, h2, h3⟩ := S.ow a u q
    have ne : a ≠ p := fun z => by rw [z, e] at h1; cases h1
    exact ⟨by rw [upd_ne ne]; exact h1, by show (if a = p then some o else w.fz a) = none; rw [if_neg ne]; exact h2, h3⟩
  lk := fun a u q => by
    obtain ⟨h1, h3⟩ := S.lk a u q
    have ne : a ≠ p := fun z => by rw [z, e] at h1; cases h1
    exact ⟨by rw [upd_ne ne]; exact h1, h3⟩
/-- a new object, kept in a cell -/
theorem Sim.new (S : Sim mg w H h) (e : H p = none) {x : O} (c : CellOk mg (w.cell p) (upd H p o) p x) : Sim mg (w.cell p) (upd H p o) (h ++ [x]) := by
  have at_ : ∀ {i : Nat} {a : Addr}, (w.cell p).phi_[i]? = some a → (w.phi_[i]? = some a ∧ i < h.length) ∨ (i = h.length ∧ a = p) := fun {i a} q => by
    have q' : (w.phi_ ++ [p])[i]? = some a := q
    by_cases hi : i < w.phi_.length
    · rw [List.getElem?_append_left hi] at q'
      exact .inl ⟨q', by rw [← S.len]; exact hi⟩
    · rw [List.getElem?_append_right (by omega)] at q'
      have hz : i - w.phi_.length = 0 := by
        by_cases z : i - w.phi_.length = 0
        · exact z
        · rw [List.getElem?_eq_none (by simp; omega)] at q'; cases q'
      rw [hz] at q'
      simp at q'
      exact .inr ⟨by rw [← S.len]; omega, q'.symm⟩
  refine ⟨fun a u q => rd_upd (S.fz a u q) (S.fz_ne e q), ?_, fun i j a q r => ?_, fun i a q => ?_, fun i a u q r => ?_, fun i a u q r => ?_, fun a u q => ?_, fun a u q => ?_⟩
  · show (w.phi_ ++ [p]).length = _
    rw [List.length_append, List.length_append, S.len]; rfl
  · rcases at_ q with ⟨q, hi⟩ | ⟨hi, rfl⟩ <;> rcases at_ r with ⟨r, hj⟩ | ⟨hj, z⟩
    · exact S.nd i j a q r
    · exact absurd z (S.phi__ne e q)
    · exact absurd rfl (S.phi__ne e r)
    · omega
  · rcases at_ q with ⟨q, hi⟩ | ⟨hi, rfl⟩
    · rw [upd_ne (S.phi__ne e q)]; exact S.th i a q
    · rw [upd_same]; exact fun z => nomatch z
  · rcases at_ q with ⟨q, hi⟩ | ⟨hi, rfl⟩
    · rw [List.getElem?_append_left hi] at r
      exact S.nf i a u q r
    · exact .inl (S.fz_none e)
  · rcases at_ q with ⟨q, hi⟩ | ⟨hi, rfl⟩
    · rw [List.getElem?_append_left hi] at r
      exact (S.cell i a u q r).mono S.le_cell (upd_ne (S.phi__ne e q))
    · subst hi
      rw [List.getElem?_append_right (Nat.le_refl _), Nat.sub_self] at r
      simp at r
      subst r
      exact c
  · obtain ⟨h1, h2, h3⟩ := S.ow a u q
    have ne : a ≠ p := fun z => by rw [z, e] at h1; cases h1
    refine ⟨by rw [upd_ne ne]; exact h1, h2, fun i z => ?_⟩
    rcases at_ z with ⟨z, _⟩ | ⟨_, z⟩
    · exact h3 i z
    · exact ne z
  · obtain ⟨h1, h3⟩ := S.lk a u q
    have ne : a ≠ p := fun z => by rw [z, e] at h1; cases h1
    refine ⟨by rw [upd_ne ne]; exact h1, fun i z => ?_⟩
    rcases at_ z with ⟨z, hi⟩ | ⟨_, z⟩
    · rw [List.getElem?_append_left hi]; exact h3 i z
    · exact absurd z ne
/-- a cell is written -/
theorem Sim.write (S : Sim mg w H h) {i : Nat} (hp : w.phi_[i]? = some p) (live : ∀ u, h[i]? = some u → Live u) {x : O} (c : CellOk mg w (upd H p o) p x) : Sim mg w (upd H p o) (h.set i x) := by
  have hi : i < h.length := by rw [← S.len]; exact (List.getElem?_eq_some_iff.mp hp).1
  have fn : w.fz p = none := by
    have q : h[i]? = some h[i] := List.getElem?_eq_getElem hi
    rcases S.nf i p _ hp q with z | z
    · exact z
    · exact absurd (live _ q) (by rw [z]; exact fun x => x)
  refine ⟨fun a u q => rd_upd (S.fz a u q) (fun z => by subst z; rw [fn] at q; cases q), by rw [List.length_set]; exact S.len, S.nd, fun j a q => ?_, fun j a u q r => ?_, fun j a u q r => ?_, fun a u q => ?_, fun a u q => ?_⟩
  · by_cases z : a = p
    · subst z; rw [upd_same]; exact fun z => nomatch z
    · rw [upd_ne z]; exact S.th j a q
  · by_cases z : j = i
    · subst z
      rw [hp] at q; cases q
      exact .inl fn
    · rw [List.getElem?_set_ne (Ne.symm z)] at r
      exact S.nf j a u q r
  · by_cases z : j = i
    · subst z
      rw [hp] at q; cases q
      rw [List.getElem?_set_self hi] at r; cases r
      exact c
    · rw [List.getElem?_set_ne (Ne.symm z)] at r
      exact (S.cell j a u q r).mono Wd.le.rfl (upd_ne fun e => z (S.nd j i a q (by rw [e]; exact hp)))
  · obtain ⟨h1, h2, h3⟩ := S.ow a u q
    exact ⟨by rw [upd_ne (fun z => h3 i (by rw [z]; exact hp))]; exact h1, h2, h3⟩
  · obtain ⟨h1, h3⟩ := S.lk a u q
    have ni : ∀ j : Nat, w.phi_[j]? = some a → j ≠ i := fun j z y => by
      subst y
      obtain ⟨o, ho, hl⟩ := h3 j z
      have := live o ho
      cases o <;> first | exact hl | exact this
    refine ⟨by rw [upd_ne (fun z => ni i (by rw [z]; exact hp) rfl)]; exact h1, fun j z => ?_⟩
    rw [List.getElem?_set_ne (Ne.symm (ni j z))]; exact h3 j z
end
/-! the frame's slots -/
abbrev En := List (Option A)
structure EnvOk (mg : Mg) (w : Wd) (ρ : En) (σ : L2.St) : Prop where
  len : ρ.length = σ.length
  get : ∀ (i : Nat) (a : A), ρ[i]? = some (some a) → ∃ v, σ[i]? = some (some v) ∧ RelA mg w a v
theorem EnvOk.mono0 {mg : Mg} {w w' : Wd} {ρ : En} {σ : L2.St} (E : EnvOk mg w ρ σ) (l : w.le0 w') : EnvOk mg w' ρ σ := ⟨E.len, fun i a e => let ⟨v, h, r⟩ := E.get i a e; ⟨v, h, r.mono0 l⟩⟩
theorem EnvOk.mono {mg : Mg} {w w' : Wd} {ρ : En} {σ : L2.St} (E : EnvOk mg w ρ σ) (l : w.le w') : EnvOk mg w' ρ σ := ⟨E.len, fun i a e => let ⟨v, h, r⟩ := E.get i a e; ⟨v, h, r.mono l⟩⟩
theorem EnvOk.set {mg : Mg} {w : Wd} {ρ : En} {σ : L2.St} (E : EnvOk mg w ρ σ) {i : Nat} {a : A} {v : V} (r : RelA mg w a v) : EnvOk mg w (ρ.set i (some a)) (σ.set i (some v)) := by
  refine ⟨by rw [List.length_set, List.length_set]; exact E.len, fun j b e => ?_⟩
  by_cases hj : i = j
  · subst hj
    have hi : i < ρ.length := by
      have := (List.getElem?_eq_some_iff.mp e).1
      rwa [List.length_set] at this
    rw [List.getElem?_set_self hi] at e
    cases e
    exact ⟨v, List.getElem?_set_self (by rw [← E.len]; exact hi), r⟩
  · rw [List.getElem?_set_ne hj] at e
    obtain ⟨u, h, q⟩ := E.get j b e
    exact ⟨u, by rw [List.getElem?_set_ne hj]; exact h, q⟩
/-! what a piece of text does -/
abbrev EI := En → Hh → Option (A × Hh)
abbrev AI := En → Hh → Option (List A × Hh)
abbrev TI' := En → Hh → Option (Bool × Hh)
end F2
set_option Elab.async false
set_option linter.all false
set_option maxRecDepth 100000
set_option maxHeartbeats 4000000
namespace F2
open PySem PySem.Spec PyProof.Rows L2
/-- the most that a list, a text holds here -/
abbrev LIM : Nat := 1000000
theorem lim_size {n : Nat} (h : n ≤ LIM) : n ≤ sizeLine := by rw [sizeLine_eq]; unfold LIM at h; omega
theorem lim_size1 {n : Nat} (h : n ≤ LIM) : n < sizeLine := by rw [sizeLine_eq]; unfold LIM at h; omega
/-! ### what is read of a value -/
def allD : List A → Option (List D)
  | [] => some []
  | .d x :: r => (allD r).map (x :: ·)
  | .ref _ :: _ => none
  | .tp _ :: _ => none
theorem allD_rel {mg : Mg} {w : Wd} : ∀ {as : List A} {ds : List D} {vs : List V}, allD as = some ds → RelAs mg w as vs → RelDs mg w.fz ds vs
  | [], _, _, h, r => by cases h; cases r; exact .nil
  | .d x :: as, ds, _, h, r => by
    cases r with
    | cons hr t =>
      cases hr with
      | d hd =>
        simp only [allD, Option.map_eq_some_iff] at h
        obtain ⟨es, h, rfl⟩ := h
        exact .cons hd (allD_rel h t)
  | .ref _ :: _, _, _, h, _ => by cases h
  | .tp _ :: _, _, _, h, _ => by cases h
@[simp] theorem allD_map : ∀ (ds : List D), allD (ds.map A.d) = some ds
  | [] => rfl
  | d :: ds => by simp [allD, allD_map ds]
/-- the items of a list -/
def itemsL : A → Hh → Option (List A)
  | .d (.lst xs), _ => some (xs.map .d)
  | .ref l, h => match h[l]? with
    | some (.lst xs) => some xs
    | _ => none
  | _, _ => none
def itemsT : A → Option (List A)
  | .d (.tup xs) => some (xs.map .d)
  | .d (.tupN xs) => some (xs.map .d)
  | .tp xs => some xs
  | _ => none
section
variable {mg : Mg} {w : Wd} {H : Hp} {h : Hh}
/-- data that is no dict is read as it stands -/
def NotD : HO → Prop
  | .dK _ => False
  | .dT _ => False
  | _ => True
end
/-- the state, with what is locked left aside -/
structure Sm (mg : Mg) (w : Wd) (H : Hp) (h : Hh) : Prop extends Sim mg w H h where
  st : ∀ a o, w.fz a = some o → NotD o → H a = some o
section
variable {mg : Mg} {w : Wd} {H : Hp} {h : Hh}
theorem Sm.pure {p : Addr} {o : HO} (S : Sm mg w H h) (e : H p = none) : Sm mg (w.pure p o) (upd H p o) h :=
  ⟨S.toSim.pure e, fun a u q n => by
    by_cases z : a = p
    · subst z
      have q' : (if a = a then some o else w.fz a) = some u := q
      rw [if_pos rfl] at q'; cases q'
      exact upd_same
    · have q' : (if a = p then some o else w.fz a) = some u := q
      rw [if_neg z] at q'
      rw [upd_ne z]; exact S.st a u q' n⟩
theorem Sm.new {p : Addr} {o : HO} (S : Sm mg w H h) (e : H p = none) {x : O} (c : CellOk mg (w.cell p) (upd H p o) p x) : Sm mg (w.cell p) (upd H p o) (h ++ [x]) :=
  ⟨S.toSim.new e c, fun a u q n => by rw [upd_ne (S.toSim.fz_ne e q)]; exact S.st a u q n⟩
theorem Sm.live (S : Sm mg w H h) {i : Nat} {p : Addr} (hp : w.phi_[i]? = some p) (live : ∀ u, h[i]? = some u → Live u) : w.fz p = none := by
  have hi : i < h.length := by rw [← S.len]; exact (List.getElem?_eq_some_iff.mp hp).1
  have q : h[i]? = some h[i] := List.getElem?_eq_getElem hi
  rcases S.nf i p _ hp q with z | z
  · exact z
  · exact absurd (live _ q) (by rw [z]; exact fun x => x)
theorem Sm.write {p : Addr} {o : HO} (S : Sm mg w H h) {i : Nat} (hp : w.phi_[i]? = some p) (live : ∀ u, h[i]? = some u → Live u) {x : O} (c : CellOk mg w (upd H p o) p x) : Sm mg w (upd H p o) (h.set i x) :=
  ⟨S.toSim.write hp live c, fun a u q n => by
    rw [upd_ne (fun z => by subst z; rw [S.live hp live] at q; cases q)]; exact S.st a u q n⟩
theorem itemsL_rel (S : Sm mg w H h) {x : A} {v : V} {xs : List A} (r : RelA mg w x v) (e : itemsL x h = some xs) : ∃ a vs, v = .ref a ∧ H a = some (.lst vs) ∧ RelAs mg w xs vs := by
  cases r with
  | d hd =>
    cases hd with
    | lst q r => cases e; exact ⟨_, _, rfl, S.st _ _ q True.intro, r.as⟩
    | _ => cases e
  | @ref l a hl =>
    simp only [itemsL] at e
    split at e
    · rename_i ys q
      cases e
      cases S.cell l a _ hl q with
      | lst h1 h2 => exact ⟨_, _, rfl, h1, h2⟩
    · cases e
  | tp _ _ => cases e
theorem itemsT_rel (S : Sm mg w H h) {x : A} {v : V} {xs : List A} (r : RelA mg w x v) (e : itemsT x = some xs) : ∃ a vs, v = .ref a ∧ Rd H a (.tup vs) ∧ RelAs mg w xs vs := by
  cases r with
  | d hd =>
    cases hd with
    | tup q r => cases e; exact ⟨_, _, rfl, .inl (S.st _ _ q True.intro), r.as⟩
    | tupN q _ _ r => cases e; exact ⟨_, _, rfl, .inr ⟨_, S.st _ _ q True.intro⟩, r.as⟩
    | _ => cases e
  | ref _ => cases e
  | tp q r => cases e; exact ⟨_, _, rfl, .inl (S.st _ _ q True.intro), r⟩
theorem sqT_rd {K : PySem.W.Frag} {a : Addr} {vs : List V} (h : Rd H a (.tup vs)) : SqT K H a vs := .inl h
/-! ### the wish behind, with the state -/
def Bh (mg : Mg) (w : Wd) (h' : Hh) (a : A) (Q : VK) : Prop := ∀ w' H' v, w.le w' → Sm mg w' H' h' → RelA mg w' a v → Q v H'
theorem Bh.le {w' : Wd} {h' : Hh} {a : A} {Q : VK} (b : Bh mg w h' a Q) (l : w.le w') : Bh mg w' h' a Q := fun w2 H2 v l2 => b w2 H2 v (l.trans l2)
/-! ### new objects -/
def mkL (cell : Bool) (xs : List A) (h : Hh) : Option (A × Hh) :=
  if xs.length ≤ LIM then
    if cell then some (.ref h.length, h ++ [.lst xs]) else (allD xs).map fun ds => (.d (.lst ds), h)
  else none
theorem mkL_ok (S : Sm mg w H h) {cell : Bool} {xs : List A} {vs : List V} (r : RelAs mg w xs vs) {a : A} {h' : Hh} (e : mkL cell xs h = some (a, h')) {Q : VK} (b : Bh mg w h' a Q) :
    vs.length ≤ sizeLine ∧ ∀ p, H p = none → Q (.ref p) (upd H p (.lst vs)) := by
  unfold mkL at e
  split at e
  · rename_i hz
    refine ⟨lim_size (by rw [← r.length]; exact hz), fun p hp => ?_⟩
    split at e
    · cases e
      refine b (w.cell p) _ _ S.le_cell (S.new hp (.lst upd_same (r.mono S.le_cell))) (.ref ?_)
      show (w.phi_ ++ [p])[h.length]? = some p
      rw [← S.len]; simp
    · obtain ⟨ds, hd, q⟩ := Option.map_eq_some_iff.mp e
      cases q
      refine b (w.pure p _) _ _ (S.le_pure hp) (S.pure hp) (.d (.lst (vs := vs) ?_ ((allD_rel hd r).mono (S.le_pure hp).fz)))
      show (if p = p then _ else _) = _
      rw [if_pos rfl]
  · cases e
def mkT (xs : List A) (h : Hh) : Option (A × Hh) :=
  if xs.length ≤ LIM then match allD xs with
    | some ds => some (.d (.tup ds), h)
    | none => some (.tp xs, h)
  else none
theorem mkT_ok (S : Sm mg w H h) {xs : List A} {vs : List V} (r : RelAs mg w xs vs) {a : A} {h' : Hh} (e : mkT xs h = some (a, h')) {Q : VK} (b : Bh mg w h' a Q) :
    vs.length ≤ sizeLine ∧ ∀ p, H p = none → Q (.ref p) (upd H p (.tup vs)) := by
  unfold mkT at e
  split at e
  · rename_i hz
    refine ⟨lim_size (by rw [← r.length]; exact hz), fun p hp => ?_⟩
    split at e
    · rename_i ds hd
      cases e
      refine b (w.pure p _) _ _ (S.le_pure hp) (S.pure hp) (.d (.tup (vs := vs) ?_ ((allD_rel hd r).mono (S.le_pure hp).fz)))
      show (if p = p then _ else _) = _
      rw [if_pos rfl]
    · cases e
      refine b (w.pure p _) _ _ (S.le_pure hp) (S.pure hp) (.tp (vs := vs) ?_ (r.mono (S.le_pure hp)))
      show (if p = p then _ else _) = _
      rw [if_pos rfl]
  · cases e
end
/-! ### readings -/
def rE (mg : Mg) (m : EI) : TE := fun σ H Q => ∃ w ρ h a h', Sm mg w H h ∧ EnvOk mg w ρ σ ∧ m ρ h = some (a, h') ∧ Bh mg w h' a Q
def rA (mg : Mg) (m : AI) : TA := fun σ H Q => ∃ w ρ h as h', Sm mg w H h ∧ EnvOk mg w ρ σ ∧ m ρ h = some (as, h') ∧ ∀ w' H' vs, w.le w' → Sm mg w' H' h' → RelAs mg w' as vs → Q vs H'
def rT (mg : Mg) (m : TI') : TT := fun σ H Q => ∃ w ρ h b h', Sm mg w H h ∧ EnvOk mg w ρ σ ∧ m ρ h = some (b, h') ∧ ∀ w' H', w.le w' → Sm mg w' H' h' → Q b H'
theorem PE.imp {X : Cx} {e : Expr} {t t' : TE} (p : PE X e t) (h : ∀ σ H Q, t' σ H Q → t σ H Q) : PE X e t' := ⟨fun pins s σ H Q I q => p.run pins s σ H Q I (h σ H Q q)⟩
theorem PT.imp {X : Cx} {e : Expr} {t t' : TT} (p : PT X e t) (h : ∀ σ H Q, t' σ H Q → t σ H Q) : PT X e t' := ⟨fun pins s σ H Q I q => p.run pins s σ H Q I (h σ H Q q)⟩
theorem PA.imp {X : Cx} {e : List Expr} {t t' : TA} (p : PA X e t) (h : ∀ σ H Q, t' σ H Q → t σ H Q) : PA X e t' := ⟨fun pos pins s σ H Q I q => p.run pos pins s σ H Q I (h σ H Q q)⟩
/-! ### combinators -/
def mVar (i : Nat) : EI := fun ρ h => match ρ[i]? with
  | some (some a) => some (a, h)
  | _ => none
def mC (x : D) : EI := fun _ h => some (.d x, h)
def mBin (f : A → A → Hh → Option (A × Hh)) (a b : EI) : EI := fun ρ h => match a ρ h with
  | some (x, h1) => match b ρ h1 with
    | some (y, h2) => f x y h2
    | none => none
  | none => none
def mUn (f : A → Hh → Option (A × Hh)) (a : EI) : EI := fun ρ h => match a ρ h with
  | some (x, h1) => f x h1
  | none => none
def mNil : AI := fun _ h => some ([], h)
def mCons (a : EI) (r : AI) : AI := fun ρ h => match a ρ h with
  | some (x, h1) => match r ρ h1 with
    | some (xs, h2) => some (x :: xs, h2)
    | none => none
  | none => none
def mOn (f : List A → Hh → Option (A × Hh)) (r : AI) : EI := fun ρ h => match r ρ h with
  | some (xs, h1) => f xs h1
  | none => none
def mIf (c : TI') (a b : EI) : EI := fun ρ h => match c ρ h with
  | some (true, h1) => a ρ h1
  | some (false, h1) => b ρ h1
  | none => none
section
variable {X : Cx}
/-- two parts, then an operation on values -/
theorem bin_split {f : A → A → Hh → Option (A × Hh)} {ma mb : EI} {σ : L2.St} {H : Hp} {Q : VK} (q : rE X.mg (mBin f ma mb) σ H Q) :
    rE X.mg ma σ H fun vx H1 => rE X.mg mb σ H1 fun vy H2 => ∃ w h x y a h', Sm X.mg w H2 h ∧ RelA X.mg w x vx ∧ RelA X.mg w y vy ∧ f x y h = some (a, h') ∧ Bh X.mg w h' a Q := by
  obtain ⟨w, ρ, h, a, h', S, E, e, b⟩ := q
  unfold mBin at e
  split at e
  · rename_i x h1 e1
    split at e
    · rename_i y h2 e2
      refine ⟨w, ρ, h, x, h1, S, E, e1, fun w1 H1 vx l1 S1 r1 => ⟨w1, ρ, h1, y, h2, S1, E.mono l1, e2, fun w2 H2 vy l2 S2 r2 => ⟨w2, h2, x, y, a, h', S2, r1.mono l2, r2, e, b.le (l1.trans l2)⟩⟩⟩
    · cases e
  · cases e
theorem un_split {f : A → Hh → Option (A × Hh)} {ma : EI} {σ : L2.St} {H : Hp} {Q : VK} (q : rE X.mg (mUn f ma) σ H Q) :
    rE X.mg ma σ H fun vx H1 => ∃ w h x a h', Sm X.mg w H1 h ∧ RelA X.mg w x vx ∧ f x h = some (a, h') ∧ Bh X.mg w h' a Q := by
  obtain ⟨w, ρ, h, a, h', S, E, e, b⟩ := q
  unfold mUn at e
  split at e
  · rename_i x h1 e1
    exact ⟨w, ρ, h, x, h1, S, E, e1, fun w1 H1 vx l1 S1 r1 => ⟨w1, h1, x, a, h', S1, r1, e, b.le l1⟩⟩
  · cases e
theorem on_split {f : List A → Hh → Option (A × Hh)} {ma : AI} {σ : L2.St} {H : Hp} {Q : VK} (q : rE X.mg (mOn f ma) σ H Q) :
    rA X.mg ma σ H fun vs H1 => ∃ w h xs a h', Sm X.mg w H1 h ∧ RelAs X.mg w xs vs ∧ f xs h = some (a, h') ∧ Bh X.mg w h' a Q := by
  obtain ⟨w, ρ, h, a, h', S, E, e, b⟩ := q
  unfold mOn at e
  split at e
  · rename_i x h1 e1
    exact ⟨w, ρ, h, x, h1, S, E, e1, fun w1 H1 vx l1 S1 r1 => ⟨w1, h1, x, a, h', S1, r1, e, b.le l1⟩⟩
  · cases e
theorem e_var (i : Nat) {x : Str} {pos : Pos} (hN : X.N[i]? = some x := by rfl) (hv : Vis X.env.scope x := by first | exact Or.inl rfl | exact Or.inr (Or.inl rfl) | exact Or.inr (Or.inr rfl)) (hd : (x == ("__debug__" : Str)) = false := by decide)
    (hcd : (x == ("__classdict__" : Str)) = false := by decide) : PE X (.Name x pos) (rE X.mg (mVar i)) :=
  PE.imp (pe_var hN hv hd hcd) fun σ H Q ⟨w, ρ, h, a, h', S, E, e, b⟩ => by
    unfold mVar at e
    split at e
    · rename_i a' q
      cases e
      obtain ⟨v, hv, r⟩ := E.get i _ q
      exact ⟨v, hv, b w H v .rfl S r⟩
    · cases e
theorem c_imp {e : Expr} {x : D} {v : V} (p : PE X e (tC v)) (r : ∀ fz, RelD X.mg fz x v) : PE X e (rE X.mg (mC x)) := PE.imp p fun σ H Q ⟨w, ρ, h, a, h', S, E, e, b⟩ => by
  cases e
  exact b w H v .rfl S (.d (r _))
theorem e_int {i j pos} : PE X (.Constant (.int i) j pos) (rE X.mg (mC (.int i))) := c_imp pe_int fun _ => .int _
theorem e_bl {b j pos} : PE X (.Constant (.bool b) j pos) (rE X.mg (mC (.bl b))) := c_imp pe_bl fun _ => .bl _
theorem e_non {j pos} : PE X (.Constant .none j pos) (rE X.mg (mC .non)) := c_imp pe_non fun _ => .non
theorem e_str {x j pos} : PE X (.Constant (.str x) j pos) (rE X.mg (mC (.str x))) := c_imp pe_str fun _ => .str _
/-- a module's int -/
theorem e_gint {x : Str} {i : Int} {t : Tok} {pos : Pos} (hm : X.mg x = some (.int i t)) (hg : Gl X x := by rfl) (hd : (x == ("__debug__" : Str)) = false := by decide) : PE X (.Name x pos) (rE X.mg (mC (.int i))) :=
  c_imp (pe_glob (v := .int i) hg hm ⟨_, rfl⟩ hd) fun _ => .int _
/-! ### operators -/
def OpI (X : Cx) (r : Value → Value → Sem Value) (f : A → A → Hh → Option (A × Hh)) : Prop :=
  OpR X r fun vx vy H Q => ∃ w h x y a h', Sm X.mg w H h ∧ RelA X.mg w x vx ∧ RelA X.mg w y vy ∧ f x y h = some (a, h') ∧ Bh X.mg w h' a Q
theorem OpI.of {sem : Value → Value → Sem Value} {r : R2} {f : A → A → Hh → Option (A × Hh)} (o : OpR X sem r)
    (h : ∀ (w : Wd) (H : Hp) (h : Hh) (x y a : A) (vx vy : V) (h' : Hh) (Q : VK), Sm X.mg w H h → RelA X.mg w x vx → RelA X.mg w y vy → f x y h = some (a, h') → Bh X.mg w h' a Q → r vx vy H Q) : OpI X sem f := by
  intro pins s σ H vx vy v u Q I rx ry ⟨w, hh, x, y, a, h', S, r1, r2, e, b⟩
  exact o pins s σ H vx vy v u Q I rx ry (h w H hh x y a vx vy h' Q S r1 r2 e b)
def orF (f g : A → A → Hh → Option (A × Hh)) : A → A → Hh → Option (A × Hh) := fun x y h => match f x y h with
  | some r => some r
  | none => g x y h
theorem OpI.or {sem : Value → Value → Sem Value} {f g : A → A → Hh → Option (A × Hh)} (o : OpI X sem f) (p : OpI X sem g) : OpI X sem (orF f g) := by
  intro pins s σ H vx vy v u Q I rx ry ⟨w, hh, x, y, a, h', S, r1, r2, e, b⟩
  unfold orF at e
  split at e
  · rename_i r q
    cases e
    exact o pins s σ H vx vy v u Q I rx ry ⟨w, hh, x, y, a, h', S, r1, r2, q, b⟩
  · exact p pins s σ H vx vy v u Q I rx ry ⟨w, hh, x, y, a, h', S, r1, r2, e, b⟩
theorem e_bin {op : Operator} {f : A → A → Hh → Option (A × Hh)} {a b : Expr} {ma mb : EI} {pos : Pos} (o : OpI X (binaryOp op) f) (ha : PE X a (rE X.mg ma)) (hb : PE X b (rE X.mg mb)) : PE X (.BinOp a op b pos) (rE X.mg (mBin f ma mb)) :=
  PE.imp (pe_op o ha hb) fun σ H Q q => bin_split q
theorem e_cmp {op : CmpOp} {f : A → A → Hh → Option (A × Hh)} {a b : Expr} {ma mb : EI} {pos : Pos} (o : OpI X (compareOp op) f) (ha : PE X a (rE X.mg ma)) (hb : PE X b (rE X.mg mb)) (hm : behindInMarks op b = false := by first | exact nomark _ | with_unfolding_all rfl) :
    PE X (.Compare a [op] [b] pos) (rE X.mg (mBin f ma mb)) := PE.imp (pe_cmpR o ha hb hm) fun σ H Q q => bin_split q
/-- two ints -/
def int2 (C : Int → Int → Bool) (g : Int → Int → D) : A → A → Hh → Option (A × Hh)
  | .d (.int i), .d (.int j), h => if C i j then some (.d (g i j), h) else none
  | _, _, _ => none
theorem int2_ok {sem : Value → Value → Sem Value} {C : Int → Int → Bool} {g : Int → Int → D} {P : Int → Int → Prop} {gv : Int → Int → V} (o : OpR X sem (rI P gv)) (hC : ∀ i j, C i j = true → P i j) (hg : ∀ fz i j, RelD X.mg fz (g i j) (gv i j)) : OpI X sem (int2 C g) :=
  OpI.of o fun w H h x y a vx vy h' Q S r1 r2 e b => by
    unfold int2 at e
    split at e
    · rename_i i j
      split at e
      · rename_i c
        cases e
        cases r1 with
        | d r1 =>
          cases r1
          cases r2 with
          | d r2 =>
            cases r2
            exact ⟨i, j, rfl, rfl, hC i j c, b w H _ .rfl S (.d (hg _ i j))⟩
      · cases e
    · cases e
theorem int20_ok {sem : Value → Value → Sem Value} {g : Int → Int → D} {gv : Int → Int → V} (o : OpR X sem (rI0 gv)) (hg : ∀ fz i j, RelD X.mg fz (g i j) (gv i j)) : OpI X sem (int2 (fun _ _ => true) g) :=
  OpI.of o fun w H h x y a vx vy h' Q S r1 r2 e b => by
    unfold int2 at e
    split at e
    · rename_i i j
      rw [if_pos rfl] at e
      cases e
      cases r1 with
      | d r1 =>
        cases r1
        cases r2 with
        | d r2 =>
          cases r2
          exact ⟨i, j, rfl, rfl, b w H _ .rfl S (.d (hg _ i j))⟩
    · cases e
def str2 (C : Str → Str → Bool) (g : Str → Str → D) : A → A → Hh → Option (A × Hh)
  | .d (.str i), .d (.str j), h => if C i j then some (.d (g i j), h) else none
  | _, _, _ => none
def fSub : A → A → Hh → Option (A × Hh) := int2 (fun _ _ => true) fun i j => .int (i - j)
theorem o_sub : OpI X (binaryOp .Sub) fSub := int20_ok op_sub fun _ _ _ => .int _
def fLst (cell : Bool) : A → A → Hh → Option (A × Hh) := fun x y h => match itemsL x h with
  | some xs => match itemsL y h with
    | some ys => if xs.length + ys.length ≤ LIM then mkL cell (xs ++ ys) h else none
    | none => none
  | none => none
theorem RelAs.append {mg : Mg} {w : Wd} : ∀ {as bs : List A} {vs us : List V}, RelAs mg w as vs → RelAs mg w bs us → RelAs mg w (as ++ bs) (vs ++ us)
  | _, _, _, _, .nil, r => r
  | _, _, _, _, .cons h t, r => .cons h (RelAs.append t r)
theorem o_catL {cell : Bool} : OpI X (binaryOp .Add) (fLst cell) := OpI.of op_cat fun w H h x y a vx vy h' Q S r1 r2 e b => by
  unfold fLst at e
  split at e
  · rename_i xs ex
    split at e
    · rename_i ys ey
      split at e
      · rename_i hz
        obtain ⟨p, vs, rfl, hp, rp⟩ := itemsL_rel S r1 ex
        obtain ⟨q, us, rfl, hq, rq⟩ := itemsL_rel S r2 ey
        exact ⟨p, q, vs, us, rfl, rfl, hp, hq, lim_size (by rw [← rp.length, ← rq.length]; exact hz), (mkL_ok S (rp.append rq) e b).2⟩
      · cases e
    · cases e
  · cases e
def fAddS : A → A → Hh → Option (A × Hh) := str2 (fun i j => decide (i.length + j.length ≤ LIM)) fun i j => .str (i ++ j)
theorem o_addS : OpI X (binaryOp .Add) fAddS := OpI.of op_add_str fun w H h x y a vx vy h' Q S r1 r2 e b => by
  unfold fAddS str2 at e
  split at e
  · rename_i i j
    split at e
    · rename_i c
      cases e
      cases r1 with
      | d r1 =>
        cases r1
        cases r2 with
        | d r2 =>
          cases r2
          exact ⟨i, j, rfl, rfl, lim_size (of_decide_eq_true c), b w H _ .rfl S (.d (.str _))⟩
    · cases e
  · cases e
def fAddI : A → A → Hh → Option (A × Hh) := int2 (fun _ _ => true) fun i j => .int (i + j)
theorem o_addI : OpI X (binaryOp .Add) fAddI := int20_ok op_add fun _ _ _ => .int _
/-- + -/
def fAdd (cell : Bool) : A → A → Hh → Option (A × Hh) := orF fAddI (orF fAddS (fLst cell))
theorem o_add {cell : Bool} : OpI X (binaryOp .Add) (fAdd cell) := o_addI.or (o_addS.or o_catL)
def fLt := int2 (fun _ _ => true) fun i j => .bl (decide (i < j))
theorem o_lt : OpI X (compareOp .Lt) fLt := int20_ok op_lt fun _ _ _ => .bl _
def fLe := int2 (fun _ _ => true) fun i j => .bl (decide (i ≤ j))
theorem o_le : OpI X (compareOp .LtE) fLe := int20_ok op_le fun _ _ _ => .bl _
def fGt := int2 (fun _ _ => true) fun i j => .bl (decide (j < i))
theorem o_gt : OpI X (compareOp .Gt) fGt := int20_ok op_gt fun _ _ _ => .bl _
def fGe := int2 (fun _ _ => true) fun i j => .bl (decide (j ≤ i))
theorem o_ge : OpI X (compareOp .GtE) fGe := int20_ok op_ge fun _ _ _ => .bl _
end
end F2
set_option Elab.async false
set_option linter.all false
set_option maxRecDepth 100000
set_option maxHeartbeats 4000000
namespace F2
open PySem PySem.Spec PyProof.Rows L2
/-! data as the library's data -/
mutual
def toPy : D → Option PyData
  | .non => some .none
  | .bl b => some (.bool b)
  | .int i => some (.int i)
  | .str x => some (.str x)
  | .tup xs => (toPys xs).map .tuple
  | .lst xs => (toPys xs).map .list
  | .dK _ => none
  | .dT _ => none
  | .ins _ _ => none
  | .scr _ => none
  | .tupN xs => (toPys xs).map .tuple
def toPys : List D → Option (List PyData)
  | [] => some []
  | x :: xs => match toPy x with
    | some p => (toPys xs).map (p :: ·)
    | none => none
end
def pyOf (x : A) (h : Hh) : Option PyData := match x with
  | .d d => toPy d
  | .ref l => match itemsL (.ref l) h with
    | some xs => match allD xs with
      | some ds => (toPys ds).map .list
      | none => none
    | none => none
  | .tp _ => none
section
variable {mg : Mg} {w : Wd} {H : Hp} {h : Hh} {K : PySem.W.Frag}
mutual
theorem toPy_dp (st : ∀ a o, w.fz a = some o → NotD o → H a = some o) : ∀ {d : D} {v : V} {p : PyData}, toPy d = some p → RelD mg w.fz d v → Dp K H v p
  | .non, _, _, e, r => by cases e; cases r; exact .non
  | .bl _, _, _, e, r => by cases e; cases r; exact .bl _
  | .int _, _, _, e, r => by cases e; cases r; exact .int _
  | .str _, _, _, e, r => by cases e; cases r; exact .str _
  | .tup xs, _, _, e, r => by
    obtain ⟨ps, h1, h2⟩ := Option.map_eq_some_iff.mp (show (toPys xs).map PyData.tuple = _ from e)
    cases r with
    | tup q r =>
      subst h2
      exact .tup (SqT.of (st _ _ q True.intro)) (toPys_dp st h1 r)
  | .lst xs, _, _, e, r => by
    obtain ⟨ps, h1, h2⟩ := Option.map_eq_some_iff.mp (show (toPys xs).map PyData.list = _ from e)
    cases r with
    | lst q r =>
      subst h2
      exact .lst (SqL.of (st _ _ q True.intro)) (toPys_dp st h1 r)
  | .dK _, _, _, e, _ => by cases e
  | .dT _, _, _, e, _ => by cases e
  | .ins _ _, _, _, e, _ => by cases e
  | .scr _, _, _, e, _ => by cases e
  | .tupN xs, _, _, e, r => by
    obtain ⟨ps, h1, h2⟩ := Option.map_eq_some_iff.mp (show (toPys xs).map PyData.tuple = _ from e)
    cases r with
    | tupN q _ _ r =>
      subst h2
      exact .tup (.inl (.inr ⟨_, st _ _ q True.intro⟩)) (toPys_dp st h1 r)
theorem toPys_dp (st : ∀ a o, w.fz a = some o → NotD o → H a = some o) : ∀ {ds : List D} {vs : List V} {ps : List PyData}, toPys ds = some ps → RelDs mg w.fz ds vs → DpAll K H vs ps
  | [], _, _, e, r => by cases e; cases r; exact .nil
  | d :: ds, _, ps, e, r => by
    cases r with
    | cons hr tr =>
      have e' : (match toPy d with
        | some p => (toPys ds).map (p :: ·)
        | none => none) = some ps := e
      split at e'
      · rename_i p q
        obtain ⟨qs, h1, h2⟩ := Option.map_eq_some_iff.mp e'
        subst h2
        exact .cons (toPy_dp st q hr) (toPys_dp st h1 tr)
      · cases e'
end
theorem pyOf_dp (S : Sm mg w H h) {x : A} {v : V} {p : PyData} (r : RelA mg w x v) (e : pyOf x h = some p) : Dp K H v p := by
  cases r with
  | d r => exact toPy_dp S.st e r
  | @ref l a hl =>
    simp only [pyOf] at e
    split at e
    · rename_i xs ex
      split at e
      · rename_i ds ed
        obtain ⟨ps, h1, h2⟩ := Option.map_eq_some_iff.mp e
        subst h2
        obtain ⟨b, vs, eb, hb, rb⟩ := itemsL_rel S (.ref hl) ex
        cases eb
        exact .lst (SqL.of hb) (toPys_dp S.st h1 (allD_rel ed rb))
      · cases e
    · cases e
  | tp _ _ => cases e
end
section
variable {X : Cx}
def fEqD (neg : Bool) : A → A → Hh → Option (A × Hh) := fun x y h => match pyOf x h with
  | some p => match pyOf y h with
    | some q => if SeqAt.shaped p && SeqAt.shaped q then some (.d (.bl (neg ^^ PyData.eqv p q)), h) else none
    | none => none
  | none => none
theorem o_eqD (hu : X.A.units + 64 < cLine) : OpI X (compareOp .Eq) (fEqD false) := OpI.of (op_eqD hu) fun w H h x y a vx vy h' Q S r1 r2 e b => by
  unfold fEqD at e
  split at e
  · rename_i p ep
    split at e
    · rename_i q eq
      split at e
      · rename_i c
        cases e
        rw [Bool.and_eq_true] at c
        exact ⟨p, q, pyOf_dp S r1 ep, pyOf_dp S r2 eq, c.1, c.2, b w H _ .rfl S (.d (by rw [Bool.false_xor]; exact .bl _))⟩
      · cases e
    · cases e
  · cases e
theorem o_neD (hu : X.A.units + 64 < cLine) : OpI X (compareOp .NotEq) (fEqD true) := OpI.of (op_neD hu) fun w H h x y a vx vy h' Q S r1 r2 e b => by
  unfold fEqD at e
  split at e
  · rename_i p ep
    split at e
    · rename_i q eq
      split at e
      · rename_i c
        cases e
        rw [Bool.and_eq_true] at c
        exact ⟨p, q, pyOf_dp S r1 ep, pyOf_dp S r2 eq, c.1, c.2, b w H _ .rfl S (.d (by rw [Bool.true_xor]; exact .bl _))⟩
      · cases e
    · cases e
  · cases e
/-! in -/
/-- flat data -/
def fv : D → Option V
  | .non => some .non
  | .bl b => some (.bl b)
  | .int i => some (.int i)
  | .str x => some (.str x)
  | _ => none
theorem fv_rel {mg : Mg} {fz : Fz} {d : D} {v u : V} (r : RelD mg fz d v) (e : fv d = some u) : v = u ∧ flatV v = true := by
  cases r <;> first | (cases e; exact ⟨rfl, rfl⟩) | cases e
def fvs : List A → Option (List V)
  | [] => some []
  | .d x :: r => match fv x with
    | some v => (fvs r).map (v :: ·)
    | none => none
  | .ref _ :: _ => none
  | .tp _ :: _ => none
theorem fvs_rel {mg : Mg} {w : Wd} : ∀ {as : List A} {vs us : List V}, RelAs mg w as vs → fvs as = some us → vs = us ∧ vs.all flatV = true
  | _, _, _, .nil, e => by cases e; exact ⟨rfl, rfl⟩
  | _, _, us, .cons (a := a) h t, e => by
    cases h with
    | @d x v hd =>
      rename_i as vs
      have e' : (match fv x with
        | some v => (fvs as).map (v :: ·)
        | none => none) = some us := e
      split at e'
      · rename_i y q
        obtain ⟨qs, h1, h2⟩ := Option.map_eq_some_iff.mp e'
        subst h2
        obtain ⟨rfl, f1⟩ := fv_rel hd q
        obtain ⟨rfl, f2⟩ := fvs_rel t h1
        exact ⟨rfl, by rw [List.all_cons, f1, f2]; rfl⟩
      · cases e'
    | ref _ => cases e
    | tp _ _ => cases e
/-- in a list or tuple of flat items -/
def fInF (neg : Bool) : A → A → Hh → Option (A × Hh) := fun x y h => match fvs [x] with
  | some [v] => match itemsL y h with
    | some ys => (fvs ys).map fun us => (.d (.bl (neg ^^ inV v us)), h)
    | none => match itemsT y with
      | some ys => (fvs ys).map fun us => (.d (.bl (neg ^^ inV v us)), h)
      | none => none
  | _ => none
theorem fInF_ok {neg : Bool} {sem : Value → Value → Sem Value} (o : OpR X sem (rIn X.K neg)) : OpI X sem (fInF neg) := OpI.of o fun w H h x y a vx vy h' Q S r1 r2 e b => by
  have key : ∀ v us, (if neg = true then !inV v us else inV v us) = (neg ^^ inV v us) := fun v us => by cases neg <;> simp
  unfold fInF at e
  split at e
  · rename_i v ev
    obtain ⟨e1, f1⟩ := fvs_rel (.cons r1 .nil) ev
    cases e1
    rw [List.all_cons, List.all_nil, Bool.and_true] at f1
    split at e
    · rename_i ys ey
      obtain ⟨us, e2, e3⟩ := Option.map_eq_some_iff.mp e
      cases e3
      obtain ⟨p, vs, rfl, hp, rp⟩ := itemsL_rel S r2 ey
      obtain ⟨rfl, f2⟩ := fvs_rel rp e2
      exact ⟨p, vs, rfl, .inl (SqL.of hp), f1, f2, b w H _ .rfl S (.d (by rw [key]; exact .bl _))⟩
    · split at e
      · rename_i ys ey
        obtain ⟨us, e2, e3⟩ := Option.map_eq_some_iff.mp e
        cases e3
        obtain ⟨p, vs, rfl, hp, rp⟩ := itemsT_rel S r2 ey
        obtain ⟨rfl, f2⟩ := fvs_rel rp e2
        exact ⟨p, vs, rfl, .inr (sqT_rd hp), f1, f2, b w H _ .rfl S (.d (by rw [key]; exact .bl _))⟩
      · cases e
  · cases e
/-- in a list of data -/
def fInD (neg : Bool) : A → A → Hh → Option (A × Hh) := fun x y h => match pyOf x h with
  | some p => match pyOf y h with
    | some (.list qs) => if SeqAt.shaped p && SeqAt.shaped (.list qs) then some (.d (.bl (neg ^^ qs.any fun z => PyData.eqv z p)), h) else none
    | _ => none
  | none => none
theorem o_inD (hu : X.A.units + 65 < cLine) : OpI X (compareOp .In) (fInD false) := OpI.of (op_inD hu) fun w H h x y a vx vy h' Q S r1 r2 e b => by
  unfold fInD at e
  split at e
  · rename_i p ep
    split at e
    · rename_i qs eq
      split at e
      · rename_i c
        cases e
        rw [Bool.and_eq_true] at c
        exact ⟨p, qs, pyOf_dp S r1 ep, pyOf_dp S r2 eq, c.1, c.2, b w H _ .rfl S (.d (by rw [Bool.false_xor]; exact .bl _))⟩
      · cases e
    · cases e
  · cases e
theorem o_notInD (hu : X.A.units + 65 < cLine) : OpI X (compareOp .NotIn) (fInD true) := OpI.of (op_notInD hu) fun w H h x y a vx vy h' Q S r1 r2 e b => by
  unfold fInD at e
  split at e
  · rename_i p ep
    split at e
    · rename_i qs eq
      split at e
      · rename_i c
        cases e
        rw [Bool.and_eq_true] at c
        exact ⟨p, qs, pyOf_dp S r1 ep, pyOf_dp S r2 eq, c.1, c.2, b w H _ .rfl S (.d (by rw [Bool.true_xor]; exact .bl _))⟩
      · cases e
    · cases e
  · cases e
/-! dicts -/
def lookG {κ α : Type} [DecidableEq κ] (kvs : List (κ × α)) (k : κ) : Option α := (kvs.find? fun kv => decide (kv.1 = k)).map (·.2)
theorem look_rel {mg : Mg} {w : Wd} {κ : Type} [DecidableEq κ] {k : κ} : ∀ {as : List (κ × A)} {vs : List (κ × V)}, RelAk mg w as vs →
    (lookG as k = none ∧ valV vs k = none) ∨ ∃ a v, lookG as k = some a ∧ valV vs k = some v ∧ RelA mg w a v
  | _, _, .nil => .inl ⟨rfl, rfl⟩
  | _, _, .cons (k := j) (d := d) (v := v) (ds := ds) (vs := vs) h t => by
    by_cases e : j = k
    · refine .inr ⟨d, v, ?_, valV_pos e, h⟩
      simp [lookG, List.find?_cons, e]
    · have e1 : lookG ((j, d) :: ds) k = lookG ds k := by simp [lookG, List.find?_cons, e]
      rw [e1, valV_neg (p := (j, v)) e]
      exact look_rel t
def keyOf : D → Option Key
  | .int i => some (.inl i)
  | .str x => some (.inr x)
  | _ => none
theorem keyOf_rel {mg : Mg} {fz : Fz} {d : D} {v : V} {k : Key} (r : RelD mg fz d v) (e : keyOf d = some k) : v = kV k := by
  cases r <;> first | (cases e; rfl) | cases e
def keysOf : List D → Option (List Key)
  | [] => some []
  | d :: r => match keyOf d with
    | some k => (keysOf r).map (k :: ·)
    | none => none
theorem keysOf_rel {mg : Mg} {fz : Fz} : ∀ {ds : List D} {vs : List V} {ks : List Key}, RelDs mg fz ds vs → keysOf ds = some ks → vs = ks.map kV
  | _, _, _, .nil, e => by cases e; rfl
  | d :: ds, _, ks, .cons h t, e => by
    have e' : (match keyOf d with
      | some k => (keysOf ds).map (k :: ·)
      | none => none) = some ks := e
    split at e'
    · rename_i k q
      obtain ⟨qs, h1, h2⟩ := Option.map_eq_some_iff.mp e'
      subst h2
      rw [keyOf_rel h q, keysOf_rel t h1]; rfl
    · cases e'
/-- a dict, its table -/
inductive Tab where
  | k (kvs : List (Key × A)) | t (kvs : List (List Key × A))
def tabOf : A → Hh → Option Tab
  | .d (.dK kvs), _ => some (.k (kvs.map fun p => (p.1, A.d p.2)))
  | .d (.dT kvs), _ => some (.t (kvs.map fun p => (p.1, A.d p.2)))
  | .ref l, h => match h[l]? with
    | some (.dK kvs) => some (.k kvs)
    | some (.lK kvs) => some (.k kvs)
    | some (.dT kvs) => some (.t kvs)
    | some (.lT kvs) => some (.t kvs)
    | _ => none
  | _, _ => none
inductive TabRel (mg : Mg) (w : Wd) (H : Hp) (a : Addr) : Tab → Prop
  | k {kvs : List (Key × A)} {ks : List (Key × V)} (h : Rd H a (.dK ks)) (r : RelAk mg w kvs ks) : TabRel mg w H a (.k kvs)
  | t {kvs : List (List Key × A)} {ks : List (List Key × V)} (h : Rd H a (.dT ks)) (r : RelAk mg w kvs ks) : TabRel mg w H a (.t kvs)
theorem tabOf_rel {mg : Mg} {w : Wd} {H : Hp} {h : Hh} (S : Sm mg w H h) {x : A} {v : V} {T : Tab} (r : RelA mg w x v) (e : tabOf x h = some T) : ∃ a, v = .ref a ∧ TabRel mg w H a T := by
  cases r with
  | d hd =>
    cases hd with
    | dK q r => cases e; exact ⟨_, rfl, .k (S.fz _ _ q) r.as⟩
    | dT q r => cases e; exact ⟨_, rfl, .t (S.fz _ _ q) r.as⟩
    | _ => cases e
  | @ref l a hl =>
    simp only [tabOf] at e
    split at e
    · rename_i ys q
      cases e
      cases S.cell l a _ hl q with
      | dK h1 h2 => exact ⟨_, rfl, .k (.inl h1) h2⟩
    · rename_i ys q
      cases e
      cases S.cell l a _ hl q with
      | lK h1 h2 => exact ⟨_, rfl, .k (.inr ⟨_, (S.lk _ _ h1).1⟩) h2⟩
    · rename_i ys q
      cases e
      cases S.cell l a _ hl q with
      | dT h1 h2 => exact ⟨_, rfl, .t (.inl h1) h2⟩
    · rename_i ys q
      cases e
      cases S.cell l a _ hl q with
      | lT h1 h2 => exact ⟨_, rfl, .t (.inr ⟨_, (S.lk _ _ h1).1⟩) h2⟩
    · cases e
  | tp _ _ => cases e
/-- d[k], whether it is there -/
def dget (T : Tab) (y : A) : Option (Option A) := match T, y with
  | .k kvs, .d y => (keyOf y).map fun k => lookG kvs k
  | .t kvs, .d (.tup ys) => (keysOf ys).map fun k => lookG kvs k
  | _, _ => none
theorem dget_rel {mg : Mg} {w : Wd} {H : Hp} {h : Hh} (S : Sm mg w H h) {a : Addr} {T : Tab} {y : A} {vy : V} {o : Option A} (t : TabRel mg w H a T) (r : RelA mg w y vy) (e : dget T y = some o) :
    ∃ ov, DGet H a vy ov ∧ ((o = none ∧ ov = none) ∨ ∃ x v, o = some x ∧ ov = some v ∧ RelA mg w x v) := by
  unfold dget at e
  split at e
  · rename_i kvs y
    obtain ⟨k, h1, h2⟩ := Option.map_eq_some_iff.mp e
    cases r with
    | d r =>
      have hv := keyOf_rel r h1
      subst hv
      cases t with
      | k q rr =>
        refine ⟨_, .inl ⟨_, k, q, rfl, rfl⟩, ?_⟩
        rcases look_rel (k := k) rr with ⟨z1, z2⟩ | ⟨x, v, z1, z2, z3⟩
        · exact .inl ⟨h2.symm.trans z1, z2⟩
        · exact .inr ⟨x, v, h2.symm.trans z1, z2, z3⟩
  · rename_i kvs ys
    obtain ⟨k, h1, h2⟩ := Option.map_eq_some_iff.mp e
    cases r with
    | d r =>
      cases r with
      | @tup b vs _ q0 rs =>
        have hv := keysOf_rel rs h1
        subst hv
        cases t with
        | t q rr =>
          refine ⟨_, .inr ⟨_, k, b, q, rfl, S.st _ _ q0 True.intro, rfl⟩, ?_⟩
          rcases look_rel (k := k) rr with ⟨z1, z2⟩ | ⟨x, v, z1, z2, z3⟩
          · exact .inl ⟨h2.symm.trans z1, z2⟩
          · exact .inr ⟨x, v, h2.symm.trans z1, z2, z3⟩
  · cases e
end
end F2
set_option Elab.async false
set_option linter.all false
set_option maxRecDepth 100000
set_option maxHeartbeats 4000000
namespace F2
open PySem PySem.Spec PyProof.Rows L2
section
variable {X : Cx}
/-! in, not in -/
def fInK (neg : Bool) : A → A → Hh → Option (A × Hh) := fun x y h => match tabOf y h with
  | some T => (dget T x).map fun o => (.d (.bl (neg ^^ o.isSome)), h)
  | none => none
theorem o_inK (hu : X.A.units + 1 < cLine) : OpI X (compareOp .In) (fInK false) := by
  intro pins s σ H vx vy v u Q I rx ry ⟨w, hh, x, y, a, h', S, r1, r2, e, b⟩
  unfold fInK at e
  split at e
  · rename_i T et
    obtain ⟨o, h1, h2⟩ := Option.map_eq_some_iff.mp e
    cases h2
    obtain ⟨p, rfl, tr⟩ := tabOf_rel S r2 et
    obtain ⟨ov, g, hov⟩ := dget_rel S tr r1 h1
    cases ry
    refine d_in hu I g rx fun s' I' => ⟨.bl ov.isSome, H, I', rfl, b w H _ .rfl S (.d ?_)⟩
    have : o.isSome = ov.isSome := by rcases hov with ⟨rfl, rfl⟩ | ⟨_, _, rfl, rfl, _⟩ <;> rfl
    rw [Bool.false_xor, this]
    exact .bl _
  · cases e
theorem o_notInK (hu : X.A.units + 1 < cLine) : OpI X (compareOp .NotIn) (fInK true) := by
  intro pins s σ H vx vy v u Q I rx ry ⟨w, hh, x, y, a, h', S, r1, r2, e, b⟩
  unfold fInK at e
  split at e
  · rename_i T et
    obtain ⟨o, h1, h2⟩ := Option.map_eq_some_iff.mp e
    cases h2
    obtain ⟨p, rfl, tr⟩ := tabOf_rel S r2 et
    obtain ⟨ov, g, hov⟩ := dget_rel S tr r1 h1
    cases ry
    refine d_notIn hu I g rx fun s' I' => ⟨.bl (!ov.isSome), H, I', rfl, b w H _ .rfl S (.d ?_)⟩
    have : o.isSome = ov.isSome := by rcases hov with ⟨rfl, rfl⟩ | ⟨_, _, rfl, rfl, _⟩ <;> rfl
    rw [Bool.true_xor, this]
    exact .bl _
  · cases e
def fIn (neg : Bool) : A → A → Hh → Option (A × Hh) := orF (fInK neg) (orF (fInF neg) (fInD neg))
theorem o_in (hu : X.A.units + 65 < cLine) : OpI X (compareOp .In) (fIn false) := (o_inK (by omega)).or ((fInF_ok op_in_seq).or (o_inD hu))
theorem o_notIn (hu : X.A.units + 65 < cLine) : OpI X (compareOp .NotIn) (fIn true) := (o_notInK (by omega)).or ((fInF_ok op_notIn_seq).or (o_notInD hu))
/-! is None -/
def isNon : A → Bool
  | .d .non => true
  | _ => false
def fIs (neg : Bool) : A → A → Hh → Option (A × Hh)
  | x, .d .non, h => some (.d (.bl (neg ^^ isNon x)), h)
  | _, _, _ => none
theorem isNon_rel {mg : Mg} {w : Wd} {x : A} {v : V} (r : RelA mg w x v) : decide (v = .non) = isNon x := by
  cases r with
  | d r => cases r <;> rfl
  | ref _ => rfl
  | tp _ _ => rfl
theorem o_is : OpI X (compareOp .Is) (fIs false) := OpI.of op_isN fun w H h x y a vx vy h' Q S r1 r2 e b => by
  unfold fIs at e
  split at e
  · cases e
    cases r2 with
    | d r2 => cases r2; exact ⟨rfl, b w H _ .rfl S (.d (by rw [isNon_rel r1, Bool.false_xor]; exact .bl _))⟩
  · cases e
theorem o_isNot : OpI X (compareOp .IsNot) (fIs true) := OpI.of op_notN fun w H h x y a vx vy h' Q S r1 r2 e b => by
  unfold fIs at e
  split at e
  · cases e
    cases r2 with
    | d r2 => cases r2; exact ⟨rfl, b w H _ .rfl S (.d (by rw [isNon_rel r1, Bool.true_xor]; exact .bl _))⟩
  · cases e
/-! arithmetic -/
def smallI (i : Int) : Bool := decide (-(2 ^ 64) < i ∧ i < 2 ^ 64)
def fMulI : A → A → Hh → Option (A × Hh) := int2 (fun i j => smallI i || smallI j) fun i j => .int (i * j)
theorem o_mulI : OpI X (binaryOp .Mult) fMulI := int2_ok op_mul (fun i j h => by
  rw [Bool.or_eq_true] at h
  rcases h with h | h
  · exact .inl (of_decide_eq_true h)
  · exact .inr (of_decide_eq_true h)) fun _ _ _ => .int _
def fMod : A → A → Hh → Option (A × Hh) := int2 (fun _ j => decide (0 < j)) fun i j => .int (i % j)
theorem o_mod : OpI X (binaryOp .Mod) fMod := int2_ok op_mod (fun _ _ h => of_decide_eq_true h) fun _ _ _ => .int _
def fDiv : A → A → Hh → Option (A × Hh) := int2 (fun _ j => decide (0 < j ∧ j < 1073741824)) fun i j => .int (i / j)
theorem o_div : OpI X (binaryOp .FloorDiv) fDiv := int2_ok (P := CDiv) op_fdiv (fun _ j h => of_decide_eq_true (p := 0 < j ∧ j < 1073741824) h) fun _ _ _ => .int _
def fPow : A → A → Hh → Option (A × Hh) := int2 (fun i j => decide (0 ≤ j ∧ j ≤ 1000 ∧ i.natAbs < 2 ^ 64)) fun i j => .int (i ^ j.toNat)
theorem o_pow : OpI X (binaryOp .Pow) fPow := int2_ok op_pow (fun i j h => by
  obtain ⟨h1, h2, h3⟩ := of_decide_eq_true h
  exact ⟨h1, by omega, h3⟩) fun _ _ _ => .int _
/-- -x -/
def fNeg : A → Hh → Option (A × Hh)
  | .d (.int i), h => some (.d (.int (-i)), h)
  | _, _ => none
theorem e_neg {a : Expr} {ma : EI} {pos : Pos} (ha : PE X a (rE X.mg ma)) : PE X (.UnaryOp .USub a pos) (rE X.mg (mUn fNeg ma)) := PE.imp (pe_un un_neg ha) fun σ H Q q => by
  obtain ⟨w, ρ, h, x, h1, S, E, e1, k⟩ := un_split q
  refine ⟨w, ρ, h, x, h1, S, E, e1, fun w1 H1 v l1 S1 r1 => ?_⟩
  obtain ⟨w2, h2, y, a, h', S2, r2, e2, b⟩ := k w1 H1 v l1 S1 r1
  unfold fNeg at e2
  split at e2
  · cases e2
    cases r2 with
    | d r2 => cases r2; exact ⟨_, rfl, b w2 H1 _ .rfl S2 (.d (.int _))⟩
  · cases e2
/-! truth -/
def truthA : A → Hh → Option Bool := fun x h => match x with
  | .d .non => some false
  | .d (.bl b) => some b
  | .d (.int i) => some (i != 0)
  | .d (.str y) => if y.length ≤ LIM then some ((y.length : Int) != 0) else none
  | .d (.tup ys) => some !ys.isEmpty
  | .d (.tupN ys) => some !ys.isEmpty
  | .d (.lst ys) => some !ys.isEmpty
  | .ref l => match h[l]? with
    | some (.lst xs) => some !xs.isEmpty
    | some (.dK xs) => some !xs.isEmpty
    | _ => none
  | _ => none
theorem RelDs.isEmpty {mg : Mg} {f : Fz} {d : List D} {v : List V} (r : RelDs mg f d v) : v.isEmpty = d.isEmpty := by cases r <;> rfl
theorem RelAs.isEmpty {mg : Mg} {w : Wd} {d : List A} {v : List V} (r : RelAs mg w d v) : v.isEmpty = d.isEmpty := by cases r <;> rfl
theorem truthA_rel {mg : Mg} {w : Wd} {H : Hp} {h : Hh} {K : PySem.W.Frag} (S : Sm mg w H h) {x : A} {v : V} {k : Bool} (r : RelA mg w x v) (e : truthA x h = some k) : TruV K v H k := by
  cases r with
  | d hd =>
    cases hd with
    | non => cases e; exact rfl
    | bl b => cases e; exact rfl
    | int i => cases e; exact rfl
    | str y =>
      simp only [truthA] at e
      split at e
      · rename_i hz
        cases e
        exact ⟨lim_size hz, rfl⟩
      · cases e
    | tup q r => cases e; exact (.inr (.inl ⟨_, SqT.of (S.st _ _ q True.intro), by rw [r.isEmpty]⟩))
    | tupN q _ _ r => cases e; exact (.inr (.inl ⟨_, .inl (.inr ⟨_, S.st _ _ q True.intro⟩), by rw [r.isEmpty]⟩))
    | lst q r => cases e; exact (.inl ⟨_, SqL.of (S.st _ _ q True.intro), by rw [r.isEmpty]⟩)
    | _ => cases e
  | @ref l a hl =>
    simp only [truthA] at e
    split at e
    · rename_i ys q
      cases e
      cases S.cell l a _ hl q with
      | lst h1 h2 => exact (.inl ⟨_, SqL.of h1, by rw [h2.isEmpty]⟩)
    · rename_i ys q
      cases e
      cases S.cell l a _ hl q with
      | dK h1 h2 =>
        refine (.inr (.inr ⟨_, h1, ?_⟩))
        cases h2 <;> rfl
    · cases e
  | tp _ _ => cases e
/-! tests -/
def mTru (m : EI) : TI' := fun ρ h => match m ρ h with
  | some (x, h1) => (truthA x h1).map fun k => (k, h1)
  | none => none
/-- the value of an expression that is a bool, as a test -/
theorem t_val {e : Expr} {m : EI} (p : PE X e (rE X.mg m)) (he : ∀ whole, isTrue e X.env whole = (do let v ← whole; standAt e.pos; holding [v] (truthy v)) := by intro _; rfl) : PT X e (rT X.mg (mTru m)) := PT.imp (pt_truth p he) fun σ H Q ⟨w, ρ, h, k, h', S, E, e, b⟩ => by
  unfold mTru at e
  split at e
  · rename_i x h1 e1
    obtain ⟨k', h2, h3⟩ := Option.map_eq_some_iff.mp e
    cases h3
    exact ⟨w, ρ, h, x, h', S, E, e1, fun w1 H1 v l1 S1 r1 => ⟨k, truthA_rel S1 r1 h2, b w1 H1 l1 S1⟩⟩
  · cases e
/-- what gives a bool -/
def mBl (m : EI) : TI' := fun ρ h => match m ρ h with
  | some (.d (.bl k), h1) => some (k, h1)
  | _ => none
theorem mBl_split {mg : Mg} {m : EI} {σ : L2.St} {H : Hp} {Q : Bool → Hp → Prop} (q : rT mg (mBl m) σ H Q) : rE mg m σ H fun v H1 => ∃ k, v = .bl k ∧ Q k H1 := by
  obtain ⟨w, ρ, h, k, h', S, E, e, b⟩ := q
  unfold mBl at e
  split at e
  · rename_i k' h1 e1
    cases e
    refine ⟨w, ρ, h, _, h', S, E, e1, fun w1 H1 v l1 S1 r1 => ?_⟩
    cases r1 with
    | d r1 => cases r1; exact ⟨k, rfl, b w1 H1 l1 S1⟩
  · cases e
theorem t_cmp {op : CmpOp} {f : A → A → Hh → Option (A × Hh)} {a b : Expr} {ma mb : EI} {pos : Pos} (o : OpI X (compareOp op) f) (ha : PE X a (rE X.mg ma)) (hb : PE X b (rE X.mg mb)) (hm : behindInMarks op b = false := by first | exact nomark _ | with_unfolding_all rfl) :
    PT X (.Compare a [op] [b] pos) (rT X.mg (mBl (mBin f ma mb))) := PT.imp (pt_cmpR o ha hb hm) fun σ H Q q => by
  obtain ⟨w, ρ, h, x, h1, S, E, e1, k⟩ := bin_split (X := X) (mBl_split q)
  exact ⟨w, ρ, h, x, h1, S, E, e1, k⟩
def mNotT (m : TI') : TI' := fun ρ h => (m ρ h).map fun p => (!p.1, p.2)
theorem t_not {a : Expr} {m : TI'} {pos : Pos} (h : PT X a (rT X.mg m)) : PT X (.UnaryOp .Not a pos) (rT X.mg (mNotT m)) := PT.imp (pt_not h) fun σ H Q ⟨w, ρ, h, k, h', S, E, e, b⟩ => by
  obtain ⟨⟨k1, h1⟩, e1, e2⟩ := Option.map_eq_some_iff.mp e
  cases e2
  exact ⟨w, ρ, h, k1, h1, S, E, e1, b⟩
def mAndT (m n : TI') : TI' := fun ρ h => match m ρ h with
  | some (true, h1) => n ρ h1
  | r => r
def mOrT (m n : TI') : TI' := fun ρ h => match m ρ h with
  | some (false, h1) => n ρ h1
  | r => r
theorem PW.imp {e : Expr} {t t' : TT} (p : PW X e t) (h : ∀ σ H Q, t' σ H Q → t σ H Q) : PW X e t' := ⟨fun wh pins s σ H Q I q => p.run wh pins s σ H Q I (h σ H Q q)⟩
theorem t_and1 {a : Expr} {m : TI'} {pos : Pos} (h : PT X a (rT X.mg m)) : PW X (.BoolOp .And [a] pos) (rT X.mg m) := pw_and1 h
theorem t_or1 {a : Expr} {m : TI'} {pos : Pos} (h : PT X a (rT X.mg m)) : PW X (.BoolOp .Or [a] pos) (rT X.mg m) := pw_or1 h
theorem t_and {a b : Expr} {rest : List Expr} {m n : TI'} {pos : Pos} (ha : PT X a (rT X.mg m)) (hb : PW X (.BoolOp .And (b :: rest) pos) (rT X.mg n)) : PW X (.BoolOp .And (a :: b :: rest) pos) (rT X.mg (mAndT m n)) :=
  PW.imp (pw_and ha hb) fun σ H Q ⟨w, ρ, h, k, h', S, E, e, b⟩ => by
    unfold mAndT at e
    split at e
    · rename_i h1 e1
      exact ⟨w, ρ, h, true, h1, S, E, e1, fun w1 H1 l1 S1 => iteT ⟨w1, ρ, h1, k, h', S1, E.mono l1, e, fun w2 H2 l2 S2 => b w2 H2 (l1.trans l2) S2⟩⟩
    · rename_i ne
      refine ⟨w, ρ, h, k, h', S, E, e, fun w1 H1 l1 S1 => ?_⟩
      cases k with
      | true => exact absurd e (ne h')
      | false => exact iteF (b w1 H1 l1 S1)
theorem t_or {a b : Expr} {rest : List Expr} {m n : TI'} {pos : Pos} (ha : PT X a (rT X.mg m)) (hb : PW X (.BoolOp .Or (b :: rest) pos) (rT X.mg n)) : PW X (.BoolOp .Or (a :: b :: rest) pos) (rT X.mg (mOrT m n)) :=
  PW.imp (pw_or ha hb) fun σ H Q ⟨w, ρ, h, k, h', S, E, e, b⟩ => by
    unfold mOrT at e
    split at e
    · rename_i h1 e1
      exact ⟨w, ρ, h, false, h1, S, E, e1, fun w1 H1 l1 S1 => iteF ⟨w1, ρ, h1, k, h', S1, E.mono l1, e, fun w2 H2 l2 S2 => b w2 H2 (l1.trans l2) S2⟩⟩
    · rename_i ne
      refine ⟨w, ρ, h, k, h', S, E, e, fun w1 H1 l1 S1 => ?_⟩
      cases k with
      | false => exact absurd e (ne h')
      | true => exact iteT (b w1 H1 l1 S1)
/-- and, or, not as values -/
def mAnd (m n : EI) : EI := fun ρ h => match m ρ h with
  | some (x, h1) => match truthA x h1 with
    | some true => n ρ h1
    | some false => some (x, h1)
    | none => none
  | none => none
def mOr (m n : EI) : EI := fun ρ h => match m ρ h with
  | some (x, h1) => match truthA x h1 with
    | some false => n ρ h1
    | some true => some (x, h1)
    | none => none
  | none => none
theorem e_one {op} {a : Expr} {m : EI} {pos : Pos} (h : PE X a (rE X.mg m)) : PE X (.BoolOp op [a] pos) (rE X.mg m) := pe_one h
theorem e_and {a b : Expr} {rest : List Expr} {m n : EI} {pos : Pos} (ha : PE X a (rE X.mg m)) (hb : PE X (.BoolOp .And (b :: rest) pos) (rE X.mg n)) : PE X (.BoolOp .And (a :: b :: rest) pos) (rE X.mg (mAnd m n)) :=
  PE.imp (pe_andT ha hb) fun σ H Q ⟨w, ρ, h, k, h', S, E, e, b⟩ => by
    unfold mAnd at e
    split at e
    · rename_i x h1 e1
      split at e
      · rename_i et
        exact ⟨w, ρ, h, x, h1, S, E, e1, fun w1 H1 v l1 S1 r1 => ⟨true, truthA_rel S1 r1 et, iteT ⟨w1, ρ, h1, k, h', S1, E.mono l1, e, b.le l1⟩⟩⟩
      · rename_i et
        cases e
        exact ⟨w, ρ, h, k, h', S, E, e1, fun w1 H1 v l1 S1 r1 => ⟨false, truthA_rel S1 r1 et, iteF (b w1 H1 v l1 S1 r1)⟩⟩
      · cases e
    · cases e
theorem e_or {a b : Expr} {rest : List Expr} {m n : EI} {pos : Pos} (ha : PE X a (rE X.mg m)) (hb : PE X (.BoolOp .Or (b :: rest) pos) (rE X.mg n)) : PE X (.BoolOp .Or (a :: b :: rest) pos) (rE X.mg (mOr m n)) :=
  PE.imp (pe_orT ha hb) fun σ H Q ⟨w, ρ, h, k, h', S, E, e, b⟩ => by
    unfold mOr at e
    split at e
    · rename_i x h1 e1
      split at e
      · rename_i et
        exact ⟨w, ρ, h, x, h1, S, E, e1, fun w1 H1 v l1 S1 r1 => ⟨false, truthA_rel S1 r1 et, iteF ⟨w1, ρ, h1, k, h', S1, E.mono l1, e, b.le l1⟩⟩⟩
      · rename_i et
        cases e
        exact ⟨w, ρ, h, k, h', S, E, e1, fun w1 H1 v l1 S1 r1 => ⟨true, truthA_rel S1 r1 et, iteT (b w1 H1 v l1 S1 r1)⟩⟩
      · cases e
    · cases e
def mNot (m : EI) : EI := fun ρ h => match m ρ h with
  | some (x, h1) => (truthA x h1).map fun k => (.d (.bl !k), h1)
  | none => none
theorem e_not {a : Expr} {m : EI} {pos : Pos} (h : PE X a (rE X.mg m)) : PE X (.UnaryOp .Not a pos) (rE X.mg (mNot m)) := PE.imp (pe_notT h) fun σ H Q ⟨w, ρ, h, k, h', S, E, e, b⟩ => by
  unfold mNot at e
  split at e
  · rename_i x h1 e1
    obtain ⟨k', h2, h3⟩ := Option.map_eq_some_iff.mp e
    cases h3
    exact ⟨w, ρ, h, x, h', S, E, e1, fun w1 H1 v l1 S1 r1 => ⟨k', truthA_rel S1 r1 h2, b w1 H1 _ l1 S1 (.d (.bl _))⟩⟩
  · cases e
theorem e_if {c a b : Expr} {mc : TI'} {ma mb : EI} {pos : Pos} (hc : PT X c (rT X.mg mc)) (ha : PE X a (rE X.mg ma)) (hb : PE X b (rE X.mg mb)) : PE X (.IfExp c a b pos) (rE X.mg (mIf mc ma mb)) :=
  PE.imp (pe_ifExp hc ha hb) fun σ H Q ⟨w, ρ, h, k, h', S, E, e, b⟩ => by
    unfold mIf at e
    split at e
    · rename_i h1 e1
      exact ⟨w, ρ, h, true, h1, S, E, e1, fun w1 H1 l1 S1 => iteT ⟨w1, ρ, h1, k, h', S1, E.mono l1, e, b.le l1⟩⟩
    · rename_i h1 e1
      exact ⟨w, ρ, h, false, h1, S, E, e1, fun w1 H1 l1 S1 => iteF ⟨w1, ρ, h1, k, h', S1, E.mono l1, e, b.le l1⟩⟩
    · cases e
/-! arguments, displays -/
theorem a_nil : PA X [] (rA X.mg mNil) := PA.imp pa_nil fun σ H Q ⟨w, ρ, h, k, h', S, E, e, b⟩ => by
  cases e
  exact b w H [] .rfl S .nil
theorem a_cons {e : Expr} {es : List Expr} {m : EI} {r : AI} (ha : PE X e (rE X.mg m)) (hr : PA X es (rA X.mg r)) (hs : starEach (e :: es) X.env = (false, eval e X.env) :: starEach es X.env := by rfl) : PA X (e :: es) (rA X.mg (mCons m r)) :=
  PA.imp (pa_cons ha hr hs) fun σ H Q ⟨w, ρ, h, k, h', S, E, e, b⟩ => by
    unfold mCons at e
    split at e
    · rename_i x h1 e1
      split at e
      · rename_i xs h2 e2
        cases e
        exact ⟨w, ρ, h, x, h1, S, E, e1, fun w1 H1 v l1 S1 r1 => ⟨w1, ρ, h1, xs, h', S1, E.mono l1, e2, fun w2 H2 vs l2 S2 r2 => b w2 H2 _ (l1.trans l2) S2 (.cons (r1.mono l2) r2)⟩⟩
      · cases e
    · cases e
theorem e_lst (cell : Bool) {es : List Expr} {m : AI} {pos : Pos} (h : PA X es (rA X.mg m)) : PE X (.List es pos) (rE X.mg (mOn (mkL cell) m)) := PE.imp (pe_lst h) fun σ H Q q => by
  obtain ⟨w, ρ, h, as, h', S, E, e, k⟩ := on_split (X := X) q
  refine ⟨w, ρ, h, as, h', S, E, e, fun w1 H1 vs l1 S1 r1 => ?_⟩
  obtain ⟨w2, h2, xs, a, h3, S2, r2, e2, b⟩ := k w1 H1 vs l1 S1 r1
  exact mkL_ok S2 r2 e2 b
theorem e_tup {es : List Expr} {m : AI} {x1} {pos : Pos} (h : PA X es (rA X.mg m)) : PE X (.Tuple es x1 pos) (rE X.mg (mOn mkT m)) := PE.imp (pe_tup h) fun σ H Q q => by
  obtain ⟨w, ρ, h, as, h', S, E, e, k⟩ := on_split (X := X) q
  refine ⟨w, ρ, h, as, h', S, E, e, fun w1 H1 vs l1 S1 r1 => ?_⟩
  obtain ⟨w2, h2, xs, a, h3, S2, r2, e2, b⟩ := k w1 H1 vs l1 S1 r1
  exact mkT_ok S2 r2 e2 b
/-- {} -/
def mDnewK (cell : Bool) : EI := fun _ h => if cell then some (.ref h.length, h ++ [.dK []]) else some (.d (.dK []), h)
theorem e_dnewK (cell : Bool) {pos : Pos} : PE X (.Dict [] [] pos) (rE X.mg (mDnewK cell)) := PE.imp pe_dnewK fun σ H Q ⟨w, ρ, h, k, h', S, E, e, b⟩ p hp => by
  unfold mDnewK at e
  cases cell with
  | true =>
    cases e
    refine b (w.cell p) _ _ S.le_cell (S.new hp (.dK upd_same .nil)) (.ref ?_)
    show (w.phi_ ++ [p])[h.length]? = some p
    rw [← S.len]; simp
  | false =>
    cases e
    refine b (w.pure p _) _ _ (S.le_pure hp) (S.pure hp) (.d (.dK (ks := []) ?_ .nil))
    show (if p = p then _ else _) = _
    rw [if_pos rfl]
def mDnewT : EI := fun _ h => some (.ref h.length, h ++ [.dT []])
theorem e_dnewT {pos : Pos} : PE X (.Dict [] [] pos) (rE X.mg mDnewT) := PE.imp pe_dnewT fun σ H Q ⟨w, ρ, h, k, h', S, E, e, b⟩ p hp => by
  cases e
  refine b (w.cell p) _ _ S.le_cell (S.new hp (.dT upd_same .nil)) (.ref ?_)
  show (w.phi_ ++ [p])[h.length]? = some p
  rw [← S.len]; simp
/-! subscripts -/
theorem RelAs.get {mg : Mg} {w : Wd} : ∀ {as : List A} {vs : List V}, RelAs mg w as vs → ∀ {i : Nat} {a : A}, as[i]? = some a → ∃ v, vs[i]? = some v ∧ RelA mg w a v
  | _, _, .nil, i, a, e => by simp at e
  | _, _, .cons h t, 0, a, e => by simp at e; subst e; exact ⟨_, rfl, h⟩
  | _, _, .cons h t, i + 1, a, e => by simpa using RelAs.get t (i := i) (by simpa using e)
theorem RelAs.atI {mg : Mg} {w : Wd} {as : List A} {vs : List V} (r : RelAs mg w as vs) {i : Int} {a : A} (e : L2.atI as i = some a) : ∃ v, L2.atI vs i = some v ∧ RelA mg w a v := by
  unfold L2.atI at e ⊢
  rw [r.length] at e
  cases q : ixN vs.length i with
  | none => rw [q] at e; cases e
  | some j => rw [q] at e; exact r.get e
def fIxS : A → A → Hh → Option (A × Hh) := fun x y h => match y with
  | .d (.int i) => match itemsL x h with
    | some xs => (L2.atI xs i).map fun a => (a, h)
    | none => match x with
      | .d (.tup xs) => (L2.atI (xs.map A.d) i).map fun a => (a, h)
      | .d (.tupN xs) => (L2.atI (xs.map A.d) i).map fun a => (a, h)
      | .d (.scr ns) => (L2.atI ns i).map fun n => (.d (.int n), h)
      | .d (.str z) => if z.length ≤ LIM then (L2.atI z.cps.toList i).map fun c => (.d (.str ⟨#[c]⟩), h) else none
      | _ => none
  | _ => none
theorem atI_map {α β : Type} (f : α → β) (xs : List α) (i : Int) : L2.atI (xs.map f) i = (L2.atI xs i).map f := by
  unfold L2.atI
  rw [List.length_map]
  cases ixN xs.length i with
  | none => rfl
  | some j => simp
theorem ix_seqI : IxR X fun vx vy H Q => ∃ w h x y a h', Sm X.mg w H h ∧ RelA X.mg w x vx ∧ RelA X.mg w y vy ∧ fIxS x y h = some (a, h') ∧ Bh X.mg w h' a Q := by
  intro value slice pins s σ H vx vy v u Q I rx ry ⟨w, h, x, y, a, h', S, r1, r2, e, b⟩ hs
  refine ix_seq value slice pins s σ H vx vy v u Q I rx ry ?_ hs
  unfold fIxS at e
  split at e
  · rename_i i
    cases r2 with
    | d r2 =>
      cases r2
      split at e
      · rename_i xs ex
        obtain ⟨a', e1, e2⟩ := Option.map_eq_some_iff.mp e
        cases e2
        obtain ⟨p, vs, rfl, hp, rp⟩ := itemsL_rel S r1 ex
        obtain ⟨v, hv, rv⟩ := rp.atI e1
        exact .inl ⟨p, vs, i, v, rfl, rfl, SqL.of hp, hv, b w H v .rfl S rv⟩
      · split at e
        · rename_i _ xs _
          obtain ⟨a', e1, e2⟩ := Option.map_eq_some_iff.mp e
          cases e2
          obtain ⟨p, vs, rfl, hp, rp⟩ := itemsT_rel S r1 (xs := xs.map A.d) rfl
          obtain ⟨v, hv, rv⟩ := rp.atI e1
          exact .inr (.inl ⟨p, vs, i, v, rfl, rfl, sqT_rd hp, hv, b w H v .rfl S rv⟩)
        · rename_i _ xs _
          obtain ⟨a', e1, e2⟩ := Option.map_eq_some_iff.mp e
          cases e2
          obtain ⟨p, vs, rfl, hp, rp⟩ := itemsT_rel S r1 (xs := xs.map A.d) rfl
          obtain ⟨v, hv, rv⟩ := rp.atI e1
          exact .inr (.inl ⟨p, vs, i, v, rfl, rfl, sqT_rd hp, hv, b w H v .rfl S rv⟩)
        · rename_i ns
          obtain ⟨n, e1, e2⟩ := Option.map_eq_some_iff.mp e
          cases e2
          cases r1 with
          | d r1 =>
            cases r1 with
            | scr q => exact .inl ⟨_, _, i, .int n, rfl, rfl, .inl (.inr ⟨_, by
                rcases S.fz _ _ q with z | ⟨ob, z⟩
                · exact z
                · exact (S.st _ _ q True.intro)⟩), by rw [atI_map, e1]; rfl, b w H _ .rfl S (.d (.int n))⟩
        · rename_i _ z _
          split at e
          · rename_i hz
            obtain ⟨c, e1, e2⟩ := Option.map_eq_some_iff.mp e
            cases e2
            cases r1 with
            | d r1 => cases r1; exact .inr (.inr ⟨z, i, c, rfl, rfl, lim_size hz, e1, b w H _ .rfl S (.d (.str _))⟩)
          · cases e
        · cases e
  · cases e
def fIxK : A → A → Hh → Option (A × Hh) := fun x y h => match tabOf x h with
  | some T => match dget T y with
    | some (some a) => some (a, h)
    | _ => none
  | none => none
theorem ix_dictI (hu : X.A.units + 1 < cLine) : IxR X fun vx vy H Q => ∃ w h x y a h', Sm X.mg w H h ∧ RelA X.mg w x vx ∧ RelA X.mg w y vy ∧ fIxK x y h = some (a, h') ∧ Bh X.mg w h' a Q := by
  intro value slice pins s σ H vx vy v u Q I rx ry ⟨w, h, x, y, a, h', S, r1, r2, e, b⟩ hs
  unfold fIxK at e
  split at e
  · rename_i T et
    split at e
    · rename_i a' ea
      cases e
      obtain ⟨p, rfl, tr⟩ := tabOf_rel S r1 et
      obtain ⟨ov, g, hov⟩ := dget_rel S tr r2 ea
      rcases hov with ⟨z, _⟩ | ⟨x', v', z, rfl, rv⟩
      · cases z
      · cases z
        cases rx
        refine tail_any (dict_typeIs I g) PySem.F.slot_dict_getitem.lookup ?_ hs
        exact d_getItem hu I g ry fun w' s3 I3 rw' => ⟨v', H, I3, rw', b w H v' .rfl S rv⟩
    · cases e
  · cases e
def fIx : A → A → Hh → Option (A × Hh) := orF fIxS fIxK
theorem ixI (hu : X.A.units + 1 < cLine) : IxR X fun vx vy H Q => ∃ w h x y a h', Sm X.mg w H h ∧ RelA X.mg w x vx ∧ RelA X.mg w y vy ∧ fIx x y h = some (a, h') ∧ Bh X.mg w h' a Q := by
  intro value slice pins s σ H vx vy v u Q I rx ry ⟨w, h, x, y, a, h', S, r1, r2, e, b⟩ hs
  unfold fIx orF at e
  split at e
  · rename_i r q
    cases e
    exact ix_seqI value slice pins s σ H vx vy v u Q I rx ry ⟨w, h, x, y, a, h', S, r1, r2, q, b⟩ hs
  · exact ix_dictI hu value slice pins s σ H vx vy v u Q I rx ry ⟨w, h, x, y, a, h', S, r1, r2, e, b⟩ hs
theorem e_ix (hu : X.A.units + 1 < cLine) {a b : Expr} {ma mb : EI} {pos : Pos} (ha : PE X a (rE X.mg ma)) (hb : PE X b (rE X.mg mb)) (hs : PlainIx b := by exact fun _ _ => rfl) : PE X (.Subscript a b pos) (rE X.mg (mBin fIx ma mb)) :=
  PE.imp (pe_ix (ixI hu) ha hb hs) fun σ H Q q => bin_split q
end
end F2
set_option Elab.async false
set_option linter.all false
set_option maxRecDepth 100000
set_option maxHeartbeats 4000000
namespace F2
open PySem PySem.Spec PyProof.Rows L2
/-! ### what a def does -/
abbrev FnI := List A → Hh → Option (A × Hh)
def spI (mg : Mg) (n : Nat) (F : FnI) : Sp := fun vs H Q _ => vs.length = n ∧ ∃ w h as a h', Sm mg w H h ∧ RelAs mg w as vs ∧ F as h = some (a, h') ∧ Bh mg w h' a Q
abbrev Ok (P : Program) (w : World) (K : PySem.W.Frag) (mg : Mg) (base : Heap) (k : Nat) (f : Addr) (fd : FuncData) (ps : List Str) (F : FnI) : Prop := FnOk P w K mg base CX0 k f fd ps (spI mg ps.length F)
inductive Out where
  | nx (ρ : En) (h : Hh) | rt (a : A) (h : Hh) | bk (ρ : En) (h : Hh) | ct (ρ : En) (h : Hh)
abbrev SI := En → Hh → Option Out
def BhE (mg : Mg) (w : Wd) (ρ' : En) (h' : Hh) (Q : L2.St → Hp → Prop) : Prop := ∀ w' H' σ', w.le w' → Sm mg w' H' h' → EnvOk mg w' ρ' σ' → Q σ' H'
def BhS (mg : Mg) (w : Wd) (D : Ends) : Out → Prop
  | .nx ρ h => BhE mg w ρ h D.nx
  | .rt a h => Bh mg w h a D.rt
  | .bk ρ h => BhE mg w ρ h D.bk
  | .ct ρ h => BhE mg w ρ h D.ct
theorem BhE.le {mg : Mg} {w w1 : Wd} {ρ' : En} {h' : Hh} {Q : L2.St → Hp → Prop} (b : BhE mg w ρ' h' Q) (l : w.le w1) : BhE mg w1 ρ' h' Q := fun w2 H2 σ2 l2 => b w2 H2 σ2 (l.trans l2)
theorem BhS.le {mg : Mg} {w w1 : Wd} {D : Ends} {o : Out} (b : BhS mg w D o) (l : w.le w1) : BhS mg w1 D o := by
  cases o with
  | nx _ _ => exact BhE.le b l
  | rt _ _ => exact Bh.le b l
  | bk _ _ => exact BhE.le b l
  | ct _ _ => exact BhE.le b l
def rS (mg : Mg) (m : SI) : TS := fun D σ H => ∃ w ρ h o, Sm mg w H h ∧ EnvOk mg w ρ σ ∧ m ρ h = some o ∧ BhS mg w D o
theorem PS.imp {X : Cx} {e : Stmt} {t t' : TS} (p : PS X e t) (h : ∀ D σ H, t' D σ H → t D σ H) : PS X e t' := ⟨fun pins s σ H D I q => p.run pins s σ H D I (h D σ H q)⟩
theorem PSs.imp {X : Cx} {e : List Stmt} {t t' : TS} (p : PSs X e t) (h : ∀ D σ H, t' D σ H → t D σ H) : PSs X e t' := ⟨fun pins s σ H D I q => p.run pins s σ H D I (h D σ H q)⟩
def mSkip : SI := fun ρ h => some (.nx ρ h)
def mSeq (m n : SI) : SI := fun ρ h => match m ρ h with
  | some (.nx ρ1 h1) => n ρ1 h1
  | r => r
def mStuck : SI := fun _ _ => none
def mRet (m : EI) : SI := fun ρ h => match m ρ h with
  | some (a, h1) => some (.rt a h1)
  | none => none
def mRetN : SI := fun _ h => some (.rt (.d .non) h)
def mDrop (m : EI) : SI := fun ρ h => match m ρ h with
  | some (_, h1) => some (.nx ρ h1)
  | none => none
def mIfS (c : TI') (a b : SI) : SI := fun ρ h => match c ρ h with
  | some (true, h1) => a ρ h1
  | some (false, h1) => b ρ h1
  | none => none
def mBrk : SI := fun ρ h => some (.bk ρ h)
def mCnt : SI := fun ρ h => some (.ct ρ h)
/-! targets -/
abbrev GI := A → En → Hh → Option (En × Hh)
def rG (mg : Mg) (g : GI) : TG := fun v σ H Q => ∃ w ρ h a ρ' h', Sm mg w H h ∧ EnvOk mg w ρ σ ∧ RelA mg w a v ∧ g a ρ h = some (ρ', h') ∧ BhE mg w ρ' h' Q
def gN (i : Nat) : GI := fun a ρ h => some (ρ.set i (some a), h)
abbrev GsI := List A → En → Hh → Option (En × Hh)
def rGs (mg : Mg) (g : GsI) : TGs := fun vs σ H Q => ∃ w ρ h as ρ' h', Sm mg w H h ∧ EnvOk mg w ρ σ ∧ RelAs mg w as vs ∧ g as ρ h = some (ρ', h') ∧ BhE mg w ρ' h' Q
def gsNil : GsI := fun as ρ h => match as with
  | [] => some (ρ, h)
  | _ => none
def gsCons (g : GI) (r : GsI) : GsI := fun as ρ h => match as with
  | a :: as => match g a ρ h with
    | some (ρ1, h1) => r as ρ1 h1
    | none => none
  | [] => none
def gT (n : Nat) (g : GsI) : GI := fun a ρ h => match itemsT a with
  | some xs => if xs.length = n then g xs ρ h else none
  | none => none
def mAsg (m : EI) (g : GI) : SI := fun ρ h => match m ρ h with
  | some (a, h1) => match g a ρ h1 with
    | some (ρ2, h2) => some (.nx ρ2 h2)
    | none => none
  | none => none
section
variable {X : Cx}
theorem s_nil : PSs X [] (rS X.mg mSkip) := PSs.imp pss_nil fun D σ H ⟨w, ρ, h, o, S, E, e, b⟩ => by
  cases e
  exact b w H σ .rfl S E
theorem s_cons {st : Stmt} {rest : List Stmt} {m n : SI} (h1 : PS X st (rS X.mg m)) (h2 : PSs X rest (rS X.mg n)) : PSs X (st :: rest) (rS X.mg (mSeq m n)) := PSs.imp (pss_cons h1 h2) fun D σ H ⟨w, ρ, h, o, S, E, e, b⟩ => by
  unfold mSeq at e
  split at e
  · rename_i ρ1 hh1 e1
    exact ⟨w, ρ, h, _, S, E, e1, fun w1 H1 σ1 l1 S1 E1 => ⟨w1, ρ1, hh1, o, S1, E1, e, b.le l1⟩⟩
  · rename_i ne
    refine ⟨w, ρ, h, o, S, E, e, ?_⟩
    cases o with
    | nx ρ1 hh1 => exact absurd e (ne ρ1 hh1)
    | rt _ _ => exact b
    | bk _ _ => exact b
    | ct _ _ => exact b
theorem s_one {st : Stmt} {m : SI} (h1 : PS X st (rS X.mg m)) : PSs X [st] (rS X.mg m) := pss_one h1
theorem s_stuck {st : Stmt} : PS X st (rS X.mg mStuck) := PS.imp ps_never fun D σ H ⟨w, ρ, h, o, S, E, e, b⟩ => by cases e
theorem s_pass {pos : Pos} : PS X (.Pass pos) (rS X.mg mSkip) := PS.imp ps_pass fun D σ H ⟨w, ρ, h, o, S, E, e, b⟩ => by
  cases e
  exact b w H σ .rfl S E
theorem s_brk {pos : Pos} : PS X (.Break pos) (rS X.mg mBrk) := PS.imp ps_break fun D σ H ⟨w, ρ, h, o, S, E, e, b⟩ => by
  cases e
  exact b w H σ .rfl S E
theorem s_cnt {pos : Pos} : PS X (.Continue pos) (rS X.mg mCnt) := PS.imp ps_continue fun D σ H ⟨w, ρ, h, o, S, E, e, b⟩ => by
  cases e
  exact b w H σ .rfl S E
theorem s_ret {e : Expr} {m : EI} {pos : Pos} (he : PE X e (rE X.mg m)) : PS X (.Return (some e) pos) (rS X.mg (mRet m)) := PS.imp (ps_ret he) fun D σ H ⟨w, ρ, h, o, S, E, e, b⟩ => by
  unfold mRet at e
  split at e
  · rename_i a h1 e1
    cases e
    exact ⟨w, ρ, h, a, h1, S, E, e1, b⟩
  · cases e
theorem s_retN {pos : Pos} : PS X (.Return none pos) (rS X.mg mRetN) := PS.imp ps_retN fun D σ H ⟨w, ρ, h, o, S, E, e, b⟩ => by
  cases e
  exact b w H _ .rfl S (.d .non)
theorem s_expr {e : Expr} {m : EI} {pos : Pos} (he : PE X e (rE X.mg m)) (hs : swapsWith e none pos.line X.env = pure false := by rfl) : PS X (.Expr e pos) (rS X.mg (mDrop m)) := PS.imp (ps_expr he hs) fun D σ H ⟨w, ρ, h, o, S, E, e, b⟩ => by
  unfold mDrop at e
  split at e
  · rename_i a h1 e1
    cases e
    exact ⟨w, ρ, h, a, h1, S, E, e1, fun w1 H1 v l1 S1 r1 => b w1 H1 σ l1 S1 (E.mono l1)⟩
  · cases e
theorem s_if {c : Expr} {a b : List Stmt} {mc : TI'} {ma mb : SI} {pos : Pos} (hc : PT X c (rT X.mg mc)) (ha : PSs X a (rS X.mg ma)) (hb : PSs X b (rS X.mg mb)) : PS X (.If c a b pos) (rS X.mg (mIfS mc ma mb)) :=
  PS.imp (ps_if hc ha hb) fun D σ H ⟨w, ρ, h, o, S, E, e, b⟩ => by
    unfold mIfS at e
    split at e
    · rename_i h1 e1
      exact ⟨w, ρ, h, true, h1, S, E, e1, fun w1 H1 l1 S1 => iteT ⟨w1, ρ, h1, o, S1, E.mono l1, e, b.le l1⟩⟩
    · rename_i h1 e1
      exact ⟨w, ρ, h, false, h1, S, E, e1, fun w1 H1 l1 S1 => iteF ⟨w1, ρ, h1, o, S1, E.mono l1, e, b.le l1⟩⟩
    · cases e
/-! targets -/
theorem PG.imp {e : Expr} {t t' : TG} (p : PG X e t) (h : ∀ v σ H Q, t' v σ H Q → t v σ H Q) : PG X e t' := ⟨fun pins s σ H v u Q I r q => p.run pins s σ H v u Q I r (h v σ H Q q)⟩
theorem PGs.imp {e : List Expr} {t t' : TGs} (p : PGs X e t) (h : ∀ v σ H Q, t' v σ H Q → t v σ H Q) : PGs X e t' := ⟨fun pins s σ H v u Q I r q => p.run pins s σ H v u Q I r (h v σ H Q q)⟩
theorem g_name (i : Nat) {x : Str} {pos : Pos} (hN : X.N.Nodup) (hi : X.N[i]? = some x := by rfl) (hx : Loc X.env.scope x := by first | exact Or.inl rfl | exact Or.inr rfl)
    (hf : X.fn x = true ∨ X.env.scope.names.lookup x = some .local := by first | exact .inl rfl | exact .inr rfl | assumption) : PG X (.Name x pos) (rG X.mg (gN i)) :=
  PG.imp (pg_name hN hi hx hf) fun v σ H Q ⟨w, ρ, h, a, ρ', h', S, E, r, e, b⟩ => by
    cases e
    exact b w H _ .rfl S (E.set r)
theorem gs_nil : PGs X [] (rGs X.mg gsNil) := PGs.imp pgs_nil fun v σ H Q ⟨w, ρ, h, a, ρ', h', S, E, r, e, b⟩ => by
  unfold gsNil at e
  split at e
  · cases e
    cases r
    exact ⟨rfl, b w H _ .rfl S E⟩
  · cases e
theorem gs_cons {e : Expr} {es : List Expr} {g : GI} {gs : GsI} (h1 : PG X e (rG X.mg g)) (h2 : PGs X es (rGs X.mg gs))
    (hs : (assignEach (e :: es) X.env).map (·.2) = assign e X.env :: (assignEach es X.env).map (·.2) := by rfl) : PGs X (e :: es) (rGs X.mg (gsCons g gs)) :=
  PGs.imp (pgs_cons h1 h2 hs) fun v σ H Q ⟨w, ρ, h, a, ρ', h', S, E, r, e, b⟩ => by
    unfold gsCons at e
    split at e
    · rename_i x as
      split at e
      · rename_i ρ1 h1 e1
        cases r with
        | cons r t => exact ⟨_, _, rfl, w, ρ, h, x, ρ1, h1, S, E, r, e1, fun w1 H1 σ1 l1 S1 E1 => ⟨w1, ρ1, h1, as, ρ', h', S1, E1, t.mono l1, e, b.le l1⟩⟩
      · cases e
    · cases e
theorem g_tup {es : List Expr} {k : Nat} {pos : Pos} {gs : GsI} {n : Nat} (hc : X.calm = true) (h : PGs X es (rGs X.mg gs)) (hn : (assignEach es X.env).length = n := by rfl) (hst : (assignEach es X.env).findIdx? (·.1) = none := by rfl) :
    PG X (.Tuple es k pos) (rG X.mg (gT n gs)) := PG.imp (pg_tup hc h hn hst) fun v σ H Q ⟨w, ρ, h, a, ρ', h', S, E, r, e, b⟩ => by
  unfold gT at e
  split at e
  · rename_i xs ex
    split at e
    · rename_i hl
      obtain ⟨p, vs, rfl, hp, rp⟩ := itemsT_rel S r ex
      exact ⟨p, vs, rfl, sqT_rd hp, by rw [← rp.length]; exact hl, w, ρ, h, xs, ρ', h', S, E, rp, e, b⟩
    · cases e
  · cases e
theorem asg_split {m : EI} {g : GI} {D : Ends} {σ : L2.St} {H : Hp} (q : rS X.mg (mAsg m g) D σ H) : rE X.mg m σ H fun v H1 => rG X.mg g v σ H1 D.nx := by
  obtain ⟨w, ρ, h, o, S, E, e, b⟩ := q
  unfold mAsg at e
  split at e
  · rename_i a h1 e1
    split at e
    · rename_i ρ2 h2 e2
      cases e
      exact ⟨w, ρ, h, a, h1, S, E, e1, fun w1 H1 v l1 S1 r1 => ⟨w1, ρ, h1, a, ρ2, h2, S1, E.mono l1, r1, e2, BhE.le b l1⟩⟩
    · cases e
  · cases e
theorem s_asg {tg e : Expr} {m : EI} {g : GI} {pos : Pos} (he : PE X e (rE X.mg m)) (hg : PG X tg (rG X.mg g)) (hs : swapsWithSole [tg] e pos.line X.env = pure false := by rfl) (hw : swappedStores [tg] e X.env = pure none := by rfl)
    (h1 : (assignEach [tg] X.env).map (·.2) = [assign tg X.env] := by rfl) : PS X (.Assign [tg] e pos) (rS X.mg (mAsg m g)) := PS.imp (ps_asg he hg hs hw h1) fun D σ H q => asg_split q
theorem s_set (i : Nat) {x : Str} {e : Expr} {m : EI} {pos pos' : Pos} (hN : X.N.Nodup) (he : PE X e (rE X.mg m)) (hi : X.N[i]? = some x := by rfl) (hx : Loc X.env.scope x := by first | exact Or.inl rfl | exact Or.inr rfl) (hs : swapsWith e (some (.Name x pos')) pos.line X.env = pure false := by rfl)
    (hf : X.fn x = true ∨ X.env.scope.names.lookup x = some .local := by first | exact .inl rfl | exact .inr rfl | assumption) : PS X (.Assign [.Name x pos'] e pos) (rS X.mg (mAsg m (gN i))) := PS.imp (ps_set hN hi hx he hs hf) fun D σ H q => by
  obtain ⟨w, ρ, h, a, h1, S, E, e1, k⟩ := asg_split (X := X) q
  refine ⟨w, ρ, h, a, h1, S, E, e1, fun w1 H1 v l1 S1 r1 => ?_⟩
  obtain ⟨w2, ρ2, h2, a2, ρ3, h3, S2, E2, r2, e2, b⟩ := k w1 H1 v l1 S1 r1
  cases e2
  exact b w2 H1 _ .rfl S2 (E2.set r2)
/-! a def by its body -/
mutual
def low (n : Nat) : A → Bool
  | .d _ => true
  | .ref l => decide (l < n)
  | .tp xs => lows n xs
def lows (n : Nat) : List A → Bool
  | [] => true
  | x :: xs => low n x && lows n xs
end
def lowO (n : Nat) : O → Bool
  | .lst xs => lows n xs
  | .dK kvs => kvs.all fun p => low n p.2
  | .dT kvs => kvs.all fun p => low n p.2
  | .lK kvs => kvs.all fun p => low n p.2
  | .lT kvs => kvs.all fun p => low n p.2
  | .ins _ fs => fs.all fun p => low n p.2
  | .dead => true
def cut (n : Nat) (a : A) (h : Hh) : A × Hh := if low n a && (h.take n).all (lowO n) then (a, h.take n) else (a, h)
def Wd.take (w : Wd) (n : Nat) : Wd := { w with phi_ := w.phi_.take n }
mutual
theorem low_rel {mg : Mg} {w : Wd} {n : Nat} : ∀ {a : A} {v : V}, low n a = true → RelA mg w a v → RelA mg (w.take n) a v
  | _, _, _, .d h => .d h
  | .ref l, _, e, .ref h => .ref (by
    have e' : decide (l < n) = true := by simpa [low] using e
    show (w.phi_.take n)[_]? = _; rw [List.getElem?_take_of_lt (of_decide_eq_true e')]; exact h)
  | .tp xs, _, e, .tp h r => .tp h (low_rels (by simpa [low] using e) r)
theorem low_rels {mg : Mg} {w : Wd} {n : Nat} : ∀ {a : List A} {v : List V}, lows n a = true → RelAs mg w a v → RelAs mg (w.take n) a v
  | _, _, _, .nil => .nil
  | x :: xs, _, e, .cons h t => by
    have e' : low n x = true ∧ lows n xs = true := by simpa [lows] using e
    exact .cons (low_rel e'.1 h) (low_rels e'.2 t)
end
theorem low_relk {mg : Mg} {w : Wd} {n : Nat} {κ : Type} : ∀ {a : List (κ × A)} {v : List (κ × V)}, (a.all fun p => low n p.2) = true → RelAk mg w a v → RelAk mg (w.take n) a v
  | _, _, _, .nil => .nil
  | _, _, l, .cons h t => by
    rw [List.all_cons, Bool.and_eq_true] at l
    exact .cons (low_rel l.1 h) (low_relk l.2 t)
theorem low_cell {mg : Mg} {w : Wd} {H : Hp} {a : Addr} {n : Nat} {o : O} (l : lowO n o = true) (c : CellOk mg w H a o) : CellOk mg (w.take n) H a o := by
  cases c with
  | lst h r => exact .lst h (low_rels l r)
  | dK h r => exact .dK h (low_relk l r)
  | dT h r => exact .dT h (low_relk l r)
  | lK h r => exact .lK h (low_relk l r)
  | lT h r => exact .lT h (low_relk l r)
  | ins hc h r => exact .ins hc h (low_relk l r)
  | dead => exact .dead
theorem take_get {α : Type} {l : List α} {n i : Nat} {x : α} (e : (l.take n)[i]? = some x) : l[i]? = some x ∧ i < n := by
  have hi := (List.getElem?_eq_some_iff.mp e).1
  rw [List.length_take] at hi
  rw [List.getElem?_take_of_lt (by omega)] at e
  exact ⟨e, by omega⟩
theorem Sm.take {mg : Mg} {w : Wd} {H : Hp} {h : Hh} (S : Sm mg w H h) {n : Nat} (l : (h.take n).all (lowO n) = true) : Sm mg (w.take n) H (h.take n) where
  fz := S.fz
  len := by show (w.phi_.take n).length = _; rw [List.length_take, List.length_take, S.len]
  nd := fun i j a q r => S.nd i j a (take_get q).1 (take_get r).1
  th := fun i a q => S.th i a (take_get q).1
  nf := fun i a o q r => S.nf i a o (take_get q).1 (take_get r).1
  cell := fun i a o q r => low_cell (List.all_eq_true.mp l o (List.mem_of_getElem? r)) (S.cell i a o (take_get q).1 (take_get r).1)
  ow := fun a o q => ⟨(S.ow a o q).1, (S.ow a o q).2.1, fun i z => (S.ow a o q).2.2 i (take_get z).1⟩
  lk := fun a o q => ⟨(S.lk a o q).1, fun i z => by rw [List.getElem?_take_of_lt (take_get z).2]; exact (S.lk a o q).2 i (take_get z).1⟩
  st := S.st
theorem cut_ok {mg : Mg} {w : Wd} {h h' : Hh} {H : Hp} (S : Sm mg w H h) {a : A} {Q : VK} (b : Bh mg w (cut h.length a h').2 (cut h.length a h').1 Q) : Bh mg w h' a Q := fun w1 H1 v l1 S1 r1 => by
  unfold cut at b
  split at b
  · rename_i c
    rw [Bool.and_eq_true] at c
    refine b (w1.take h.length) H1 v ⟨⟨l1.fz, l1.lk, fun i x q => ?_⟩, l1.ow⟩ (S1.take c.2) (low_rel c.1 r1)
    have hi : i < h.length := by rw [← S.len]; exact (List.getElem?_eq_some_iff.mp q).1
    show (w1.phi_.take h.length)[i]? = some x
    rw [List.getElem?_take_of_lt hi]; exact l1.phi_ i x q
  · exact b w1 H1 v l1 S1 r1
/-- a def: so many parameters, so many slots, its body -/
def mkFn (np ns : Nat) (body : SI) : FnI := fun as h => if as.length = np then
    match body (as.map some ++ List.replicate (ns - np) none) h with
    | some (.nx _ h') => some (cut h.length (.d .non) h')
    | some (.rt a h') => some (cut h.length a h')
    | _ => none
  else none
theorem RelAs.some_get {mg : Mg} {w : Wd} {as : List A} {vs : List V} (r : RelAs mg w as vs) {n : Nat} : EnvOk mg w (as.map some ++ List.replicate n none) (vs.map some ++ List.replicate n none) := by
  refine ⟨by simp [r.length], fun i a e => ?_⟩
  by_cases hi : i < as.length
  · rw [List.getElem?_append_left (by simpa using hi), List.getElem?_map] at e
    cases q : as[i]? with
    | none => rw [q] at e; cases e
    | some x =>
      rw [q] at e
      cases e
      obtain ⟨v, h1, h2⟩ := r.get q
      exact ⟨v, by rw [List.getElem?_append_left (by rw [List.length_map, ← r.length]; exact hi), List.getElem?_map, h1]; rfl, h2⟩
  · rw [List.getElem?_append_right (by simp; omega), List.getElem?_replicate] at e
    split at e <;> cases e
theorem fn_body {mg : Mg} {np ns : Nat} {N ps : List Str} (hp : ps.length = np) (hN : N.length = ns) {m : SI} {vs : List V} {H : Hp} {Q : VK} {E : XK} (q : spI mg ps.length (mkFn np ns m) vs H Q E) :
    rS mg m { nx := fun _ H' => Q .non H', rt := Q } (L2.start N vs) H := by
  obtain ⟨hl, w, h, as, a, h', S, r, e, b⟩ := q
  unfold mkFn at e
  have hla : as.length = np := by rw [r.length, hl, hp]
  rw [if_pos hla] at e
  have Eo : EnvOk mg w (as.map some ++ List.replicate (ns - np) none) (L2.start N vs) := by
    unfold L2.start
    rw [hN, hl, hp]
    exact r.some_get
  split at e
  · rename_i ρ' h2 e2
    refine ⟨w, _, h, _, S, Eo, e2, fun w1 H1 σ1 l1 S1 E1 => ?_⟩
    have q : Bh mg w h2 (.d .non) Q := cut_ok S (by injection e with e; rw [e]; exact b)
    exact q w1 H1 _ l1 S1 (.d .non)
  · rename_i a2 h2 e2
    refine ⟨w, _, h, _, S, Eo, e2, ?_⟩
    exact cut_ok S (by injection e with e; rw [e]; exact b)
  · cases e
end
section
variable {P : Program} {w : World} {K : PySem.W.Frag} {mg : Str → Option Value} {base : Heap}
abbrev bx (P : Program) (w : World) (K : PySem.W.Frag) (mg : Str → Option Value) (base : Heap) (N : List Str) (qual : Str) (sc : Scope) (f : Addr) (cdv : Value) (A : Around) (outer : List Env) (s : Shared) (H : Hp) (E : XK) : Cx :=
  (cxOf CX0 P w K mg base N qual sc f cdv A outer s H E).nox
/-- the rule for a def of the text -/
theorem fn_ok {x qual : Str} {st : Stmt} {f : Addr} {fd : FuncData} {N ps : List Str} {k : Nat} {m : SI} (np ns : Nat) (F : Fun K x qual st f fd) (S : FnScope N ps (defScope st)) (hp : ps.length = np) (hN : N.length = ns)
    (hbody : ∀ (cdv : Value) (A : Around) (outer : List Env) (s : Shared) (H : Hp) (E : XK), Room k (bx P w K mg base N qual (defScope st) f cdv A outer s H E).A → PSs (bx P w K mg base N qual (defScope st) f cdv A outer s H E) (defBody st) (rS mg m)) :
    Ok P w K mg base (k + 1) f fd ps (mkFn np ns m) := by
  refine F.ok S (fun vs H Q E q => q.1) fun cdv A outer s H vs Q E hr q => ⟨rS mg m, ?_, fn_body hp hN q⟩
  exact hbody cdv A outer s H E hr
end
end F2
set_option Elab.async false
set_option linter.all false
set_option maxRecDepth 100000
set_option maxHeartbeats 4000000
namespace F2
open PySem PySem.Spec PyProof.Rows L2
/-! ### what is walked: at each place stuck, the end, or an item -/
structure Src where
  nxt : Nat → Hh → Option (Option A)
  fuel : Nat
abbrev SrcI := En → Hh → Option (Src × Hh)
def SrcOk (mg : Mg) (w : Wd) (s : Src) (J : It) : Prop := ∀ (i : Nat) (w' : Wd) (H' : Hp) (h' : Hh), w.le0 w' → Sm mg w' H' h' →
  (s.nxt i h' = some none → J.stop i H') ∧ ∀ a, s.nxt i h' = some (some a) → J.go i H' ∧ ∀ x H'', J.yld i H' x H'' → ∃ w'', w'.le w'' ∧ Sm mg w'' H'' h' ∧ RelA mg w'' a x
theorem SrcOk.mono {mg : Mg} {w w' : Wd} {s : Src} {J : It} (k : SrcOk mg w s J) (l : w.le w') : SrcOk mg w' s J := fun i w2 H2 h2 l2 => k i w2 H2 h2 (l.tole0.trans l2)
def iS (mg : Mg) (m : SrcI) : TI := fun σ H R => ∃ w ρ h s h', Sm mg w H h ∧ EnvOk mg w ρ σ ∧ m ρ h = some (s, h') ∧ ∀ w' H' J, w.le w' → Sm mg w' H' h' → SrcOk mg w' s J → R J H'
theorem PI.imp {X : Cx} {tg e : Expr} {t t' : TI} (p : PI X tg e t) (h : ∀ σ H R, t' σ H R → t σ H R) : PI X tg e t' := ⟨fun pins s σ H R I q => p.run pins s σ H R I (h σ H R q)⟩
/-! lists, tuples -/
def listN (x : A) : Nat → Hh → Option (Option A) := fun i h => (itemsL x h).map fun xs => xs[i]?
def scrN (ns : List Int) : Nat → Hh → Option (Option A) := fun i _ => some ((ns[i]?).map fun n => .d (.int n))
def tupN (xs : List A) : Nat → Hh → Option (Option A) := fun i _ => some xs[i]?
def srcL (m : EI) : SrcI := fun ρ h => match m ρ h with
  | some (.d (.scr ns), h1) => some (⟨scrN ns, ns.length⟩, h1)
  | some (x, h1) => match itemsL x h1 with
    | some xs => some (⟨listN x, xs.length⟩, h1)
    | none => none
  | none => none
def srcT (m : EI) : SrcI := fun ρ h => match m ρ h with
  | some (x, h1) => match itemsT x with
    | some xs => some (⟨tupN xs, xs.length⟩, h1)
    | none => none
  | none => none
section
variable {X : Cx} {tg : Expr}
theorem Itl_ok {mg : Mg} {K : PySem.W.Frag} {w : Wd} {x : A} {p : Addr} (r : RelA mg w x (.ref p)) (n : Nat) : SrcOk mg w ⟨listN x, n⟩ (Itl K p) := fun i w' H' h' l S => by
  refine ⟨fun e => ?_, fun a e => ?_⟩
  · obtain ⟨xs, h1, h2⟩ := Option.map_eq_some_iff.mp e
    obtain ⟨q, vs, eq, hq, rq⟩ := itemsL_rel S (r.mono0 l) h1
    cases eq
    exact ⟨vs, SqL.of hq, by rw [← rq.length]; exact List.getElem?_eq_none_iff.mp h2⟩
  · obtain ⟨xs, h1, h2⟩ := Option.map_eq_some_iff.mp e
    obtain ⟨q, vs, eq, hq, rq⟩ := itemsL_rel S (r.mono0 l) h1
    cases eq
    obtain ⟨v, hv, rv⟩ := rq.get h2
    refine ⟨⟨vs, v, SqL.of hq, hv⟩, fun y H'' ⟨e1, e2⟩ => ?_⟩
    subst e1
    have := e2 vs (SqL.of hq)
    rw [hv] at this
    cases this
    exact ⟨w', .rfl, S, rv⟩
theorem i_list {l : Expr} {m : EI} (hl : PE X l (rE X.mg m)) : PI X tg l (iS X.mg (srcL m)) := PI.imp (pi_list hl) fun σ H R ⟨w, ρ, h, s, h', S, E, e, b⟩ => by
  unfold srcL at e
  split at e
  · rename_i ns h1 e1
    cases e
    refine ⟨w, ρ, h, _, h', S, E, e1, fun w1 H1 v l1 S1 r1 => ?_⟩
    cases r1 with
    | d r1 =>
      cases r1 with
      | @scr p ob _ q =>
        have hq : ∀ w2 H2 h2, w1.le0 w2 → Sm X.mg w2 H2 h2 → SqL X.K H2 p (ns.map V.int) := fun w2 H2 h2 l2 S2 => .inl (.inr ⟨ob, S2.st _ _ (l2.fz _ _ q) True.intro⟩)
        refine ⟨p, rfl, ⟨_, hq w1 H1 h' Wd.le.rfl.tole0 S1⟩, b w1 H1 _ l1 S1 fun i w' H' h'' l S' => ⟨fun e2 => ?_, fun a e2 => ?_⟩⟩
        · simp only [scrN, Option.some.injEq, Option.map_eq_none_iff] at e2
          exact ⟨_, hq w' H' h'' l S', by rw [List.length_map]; exact List.getElem?_eq_none_iff.mp e2⟩
        · simp only [scrN, Option.some.injEq, Option.map_eq_some_iff] at e2
          obtain ⟨n, e3, rfl⟩ := e2
          have hn : (ns.map V.int)[i]? = some (V.int n) := by rw [List.getElem?_map, e3]; rfl
          refine ⟨⟨_, _, hq w' H' h'' l S', hn⟩, fun y H'' ⟨e1, e2⟩ => ?_⟩
          subst e1
          have := e2 _ (hq w' _ h'' l S')
          rw [hn] at this
          cases this
          exact ⟨w', .rfl, S', .d (.int _)⟩
  · rename_i x h1 _ e1
    split at e
    · rename_i xs ex
      cases e
      refine ⟨w, ρ, h, x, h', S, E, e1, fun w1 H1 v l1 S1 r1 => ?_⟩
      obtain ⟨p, vs, rfl, hp, rp⟩ := itemsL_rel S1 r1 ex
      exact ⟨p, rfl, ⟨vs, SqL.of hp⟩, b w1 H1 _ l1 S1 (Itl_ok r1 _)⟩
    · cases e
  · cases e
theorem i_tup {l : Expr} {m : EI} (hl : PE X l (rE X.mg m)) : PI X tg l (iS X.mg (srcT m)) := PI.imp (pi_tup hl) fun σ H R ⟨w, ρ, h, s, h', S, E, e, b⟩ => by
  unfold srcT at e
  split at e
  · rename_i x h1 e1
    split at e
    · rename_i xs ex
      cases e
      refine ⟨w, ρ, h, x, h', S, E, e1, fun w1 H1 v l1 S1 r1 => ?_⟩
      obtain ⟨p, vs, rfl, hp, rp⟩ := itemsT_rel S1 r1 ex
      refine ⟨p, rfl, ⟨vs, sqT_rd hp⟩, b w1 H1 _ l1 S1 fun i w' H' h'' l S' => ?_⟩
      obtain ⟨q, us, eq, hq, rq⟩ := itemsT_rel S' (r1.mono0 l) ex
      cases eq
      refine ⟨fun e2 => ?_, fun a e2 => ?_⟩
      · exact ⟨us, sqT_rd hq, by rw [← rq.length]; exact List.getElem?_eq_none_iff.mp (Option.some.inj e2)⟩
      · obtain ⟨v, hv, rv⟩ := rq.get (Option.some.inj e2)
        refine ⟨⟨us, v, sqT_rd hq, hv⟩, fun y H'' ⟨e1, e2⟩ => ?_⟩
        subst e1
        have := e2 us (sqT_rd hq)
        rw [hv] at this
        cases this
        exact ⟨w', .rfl, S', rv⟩
    · cases e
  · cases e
/-! ranges -/
def rngN (lo : Int) (n : Nat) : Nat → Hh → Option (Option A) := fun i _ => some (if i < n then some (.d (.int (lo + i))) else none)
def srcR1 (m : AI) : SrcI := fun ρ h => match m ρ h with
  | some ([.d (.int j)], h1) => if -(2 ^ 62) ≤ j ∧ j < 2 ^ 62 then some (⟨rngN 0 j.toNat, j.toNat⟩, h1) else none
  | _ => none
def srcR2 (m : AI) : SrcI := fun ρ h => match m ρ h with
  | some ([.d (.int i), .d (.int j)], h1) => if -(2 ^ 62) ≤ i ∧ i < 2 ^ 62 ∧ -(2 ^ 62) ≤ j ∧ j < 2 ^ 62 then some (⟨rngN i (j - i).toNat, (j - i).toNat⟩, h1) else none
  | _ => none
theorem rng_ok {mg : Mg} {w : Wd} {lo : Int} {n : Nat} : SrcOk mg w ⟨rngN lo n, n⟩ (Itr lo n) := fun i w' H' h' l S => by
  refine ⟨fun e => ?_, fun a e => ?_⟩
  · have e' := Option.some.inj e
    split at e'
    · cases e'
    · show n ≤ i; omega
  · have e' := Option.some.inj e
    split at e'
    · rename_i hi
      cases e'
      refine ⟨hi, fun y H'' ⟨e1, e2⟩ => ?_⟩
      subst e1 e2
      exact ⟨w', .rfl, S, .d (.int _)⟩
    · cases e'
theorem i_r1 {a : Expr} {m : AI} {p pos : Pos} (hm : X.mg "range" = none) (ha : PA X [a] (rA X.mg m)) (hg : Gl X "range" := by rfl) (hs : starEach [a] X.env = [(false, eval a X.env)] := by rfl) : PI X tg (.Call (.Name "range" p) [a] [] pos) (iS X.mg (srcR1 m)) :=
  PI.imp (pi_range1 hg hm ha hs) fun σ H R ⟨w, ρ, h, s, h', S, E, e, b⟩ => by
    unfold srcR1 at e
    split at e
    · rename_i j h1 e1
      split at e
      · rename_i c
        cases e
        refine ⟨w, ρ, h, _, h', S, E, e1, fun w1 H1 vs l1 S1 r1 => ?_⟩
        cases r1 with
        | cons r t =>
          cases t
          cases r with
          | d r => cases r; exact ⟨j, rfl, c.1, c.2, b w1 H1 _ l1 S1 rng_ok⟩
      · cases e
    · cases e
theorem i_r2 {a c : Expr} {m : AI} {p pos : Pos} (hm : X.mg "range" = none) (ha : PA X [a, c] (rA X.mg m)) (hg : Gl X "range" := by rfl) (hs : starEach [a, c] X.env = [(false, eval a X.env), (false, eval c X.env)] := by rfl) (hs2 : starEach [c] X.env = [(false, eval c X.env)] := by rfl) : PI X tg (.Call (.Name "range" p) [a, c] [] pos) (iS X.mg (srcR2 m)) :=
  PI.imp (pi_range2 hg hm ha hs hs2) fun σ H R ⟨w, ρ, h, s, h', S, E, e, b⟩ => by
    unfold srcR2 at e
    split at e
    · rename_i i j h1 e1
      split at e
      · rename_i c
        cases e
        refine ⟨w, ρ, h, _, h', S, E, e1, fun w1 H1 vs l1 S1 r1 => ?_⟩
        cases r1 with
        | cons r t =>
          cases t with
          | cons r2 t =>
            cases t
            cases r with
            | d r =>
              cases r
              cases r2 with
              | d r2 => cases r2; exact ⟨i, j, rfl, c, b w1 H1 _ l1 S1 rng_ok⟩
      · cases e
    · cases e
/-! a text's signs -/
def strN (x : Str) : Nat → Hh → Option (Option A) := fun i _ => some ((x.cps[i]?).map fun c => .d (.str ⟨#[c]⟩))
def srcS (m : EI) : SrcI := fun ρ h => match m ρ h with
  | some (.d (.str x), h1) => some (⟨strN x, x.cps.size⟩, h1)
  | _ => none
theorem i_str {l : Expr} {m : EI} (hl : PE X l (rE X.mg m)) : PI X tg l (iS X.mg (srcS m)) := PI.imp (pi_str hl) fun σ H R ⟨w, ρ, h, s, h', S, E, e, b⟩ => by
  unfold srcS at e
  split at e
  · rename_i x h1 e1
    cases e
    refine ⟨w, ρ, h, _, h', S, E, e1, fun w1 H1 v l1 S1 r1 => ?_⟩
    cases r1 with
    | d r1 =>
      cases r1
      refine ⟨x, rfl, b w1 H1 _ l1 S1 fun i w' H' h'' l S' => ⟨fun e2 => ?_, fun a e2 => ?_⟩⟩
      · have e3 := Option.map_eq_none_iff.mp (Option.some.inj e2)
        exact Array.getElem?_eq_none_iff.mp e3
      · obtain ⟨c, e3, rfl⟩ := Option.map_eq_some_iff.mp (Option.some.inj e2)
        refine ⟨(Array.getElem?_eq_some_iff.mp e3).1, fun y H'' ⟨e1, c', e4, e5⟩ => ?_⟩
        subst e1 e5
        rw [e3] at e4; cases e4
        exact ⟨w', .rfl, S', .d (.str _)⟩
  · cases e
/-! zip of two lists, two tuples -/
def zipN (x y : A) : Nat → Hh → Option (Option A) := fun i h => match itemsL x h with
  | some xs => match itemsL y h with
    | some ys => match xs[i]?, ys[i]? with
      | some (.d a), some (.d b) => some (some (.d (.tup [a, b])))
      | none, _ => some none
      | _, none => some none
      | _, _ => none
    | none => none
  | none => none
def zipTN (xs ys : List D) : Nat → Hh → Option (Option A) := fun i _ => match xs[i]?, ys[i]? with
  | some a, some b => some (some (.d (.tup [a, b])))
  | _, _ => some none
def srcZ (m : AI) : SrcI := fun ρ h => match m ρ h with
  | some ([.d (.tup xs), .d (.tup ys)], h1) => some (⟨zipTN xs ys, xs.length⟩, h1)
  | some ([x, y], h1) => match itemsL x h1 with
    | some xs => match itemsL y h1 with
      | some _ => some (⟨zipN x y, xs.length⟩, h1)
      | none => none
    | none => none
  | _ => none
theorem pair_new {mg : Mg} {w : Wd} {H : Hp} {h : Hh} (S : Sm mg w H h) {a b : D} {x y : V} (rx : RelD mg w.fz a x) (ry : RelD mg w.fz b y) {T : Addr} (hT : H T = none) :
    ∃ w'', w.le w'' ∧ Sm mg w'' (upd H T (.tup [x, y])) h ∧ RelA mg w'' (.d (.tup [a, b])) (.ref T) :=
  ⟨w.pure T _, S.le_pure hT, S.pure hT, .d (.tup (vs := [x, y]) (by show (if T = T then _ else _) = _; rw [if_pos rfl]) (.cons (rx.mono (S.le_pure hT).fz) (.cons (ry.mono (S.le_pure hT).fz) .nil)))⟩
theorem RelDs.get {mg : Mg} {f : Fz} : ∀ {as : List D} {vs : List V}, RelDs mg f as vs → ∀ {i : Nat} {a : D}, as[i]? = some a → ∃ v, vs[i]? = some v ∧ RelD mg f a v
  | _, _, .nil, i, a, e => by simp at e
  | _, _, .cons h t, 0, a, e => by simp at e; subst e; exact ⟨_, rfl, h⟩
  | _, _, .cons h t, i + 1, a, e => by simpa using RelDs.get t (i := i) (by simpa using e)
theorem i_zip {e1 e2 : Expr} {m : AI} {p pos tpos : Pos} {elts : List Expr} {kk : Nat} (hm : X.mg "zip" = none) (ha : PA X [e1, e2] (rA X.mg m)) (hg : Gl X "zip" := by rfl)
    (hs : starEach [e1, e2] X.env = (false, eval e1 X.env) :: starEach [e2] X.env := by rfl) (hpl : (backTo pos (starEach [e2] X.env)).any (·.1) = false := by rfl) : PI X (.Tuple elts kk tpos) (.Call (.Name "zip" p) [e1, e2] [] pos) (iS X.mg (srcZ m)) :=
  PI.imp (RZ.pi_zipA hg hm ha hs hpl) fun σ H R ⟨w, ρ, h, s, h', S, E, e, b⟩ => by
    unfold srcZ at e
    split at e
    · rename_i xs ys h1 q1
      cases e
      refine ⟨w, ρ, h, _, h', S, E, q1, fun w1 H1 vs l1 S1 r1 => ?_⟩
      cases r1 with
      | cons rx t =>
        cases t with
        | cons ry t =>
          cases t
          obtain ⟨a, us, rfl, ha, ra⟩ := itemsT_rel S1 rx (xs := xs.map A.d) rfl
          obtain ⟨c, vs, rfl, hc, rc⟩ := itemsT_rel S1 ry (xs := ys.map A.d) rfl
          refine ⟨a, c, us, vs, rfl, .inr ⟨sqT_rd ha, sqT_rd hc, b w1 H1 _ l1 S1 fun i w' H' h'' l S' => ?_⟩⟩
          obtain ⟨a', us', ea, ha', ra'⟩ := itemsT_rel S' (rx.mono0 l) (xs := xs.map A.d) rfl
          obtain ⟨c', vs', ec, hc', rc'⟩ := itemsT_rel S' (ry.mono0 l) (xs := ys.map A.d) rfl
          cases ea; cases ec
          have lx := ra'.length
          have ly := rc'.length
          rw [List.length_map] at lx ly
          refine ⟨fun e2 => ⟨us', vs', sqT_rd ha', sqT_rd hc', ?_⟩, fun z e2 => ?_⟩
          · simp only [zipTN] at e2
            split at e2
            · cases e2
            · rename_i ne
              by_cases c1 : i < xs.length
              · by_cases c2 : i < ys.length
                · exact absurd (List.getElem?_eq_getElem c2) (ne _ _ (List.getElem?_eq_getElem c1))
                · exact .inr (by omega)
              · exact .inl (by omega)
          · simp only [zipTN] at e2
            split at e2
            · rename_i d1 d2 q1 q2
              cases e2
              obtain ⟨v1, hv1, r1⟩ := ra'.get (i := i) (a := .d d1) (by rw [List.getElem?_map, q1]; rfl)
              obtain ⟨v2, hv2, r2⟩ := rc'.get (i := i) (a := .d d2) (by rw [List.getElem?_map, q2]; rfl)
              refine ⟨⟨us', vs', v1, v2, sqT_rd ha', sqT_rd hc', hv1, hv2⟩, fun y H'' ⟨T, x1, x2, e3, hT, e4, k1, k2⟩ => ?_⟩
              subst e3 e4
              have z1 := k1 _ (sqT_rd ha')
              have z2 := k2 _ (sqT_rd hc')
              rw [hv1] at z1; cases z1
              rw [hv2] at z2; cases z2
              cases r1 with
              | d r1 => cases r2 with
                | d r2 => exact pair_new S' r1 r2 hT
            · cases e2
    · rename_i x y h1 _ q1
      split at e
      · rename_i xs ex
        split at e
        · rename_i ys ey
          cases e
          refine ⟨w, ρ, h, _, h', S, E, q1, fun w1 H1 vs l1 S1 r1 => ?_⟩
          cases r1 with
          | cons rx t =>
            cases t with
            | cons ry t =>
              cases t
              obtain ⟨a, us, rfl, ha, ra⟩ := itemsL_rel S1 rx ex
              obtain ⟨c, vs, rfl, hc, rc⟩ := itemsL_rel S1 ry ey
              refine ⟨a, c, us, vs, rfl, .inl ⟨SqL.of ha, SqL.of hc, b w1 H1 _ l1 S1 fun i w' H' h'' l S' => ?_⟩⟩
              refine ⟨fun e2 => ?_, fun z e2 => ?_⟩
              · simp only [zipN] at e2
                split at e2
                · rename_i xs' ex'
                  split at e2
                  · rename_i ys' ey'
                    obtain ⟨a', us', ea, ha', ra'⟩ := itemsL_rel S' (rx.mono0 l) ex'
                    obtain ⟨c', vs', ec, hc', rc'⟩ := itemsL_rel S' (ry.mono0 l) ey'
                    cases ea; cases ec
                    refine ⟨us', vs', SqL.of ha', SqL.of hc', ?_⟩
                    have lx := ra'.length
                    have ly := rc'.length
                    split at e2
                    · cases e2
                    · rename_i z1
                      exact .inl (by rw [← lx]; exact List.getElem?_eq_none_iff.mp z1)
                    · rename_i za zb
                      exact .inr (by rw [← ly]; first | exact List.getElem?_eq_none_iff.mp za | exact List.getElem?_eq_none_iff.mp zb)
                    · cases e2
                  · cases e2
                · cases e2
              · simp only [zipN] at e2
                split at e2
                · rename_i xs' ex'
                  split at e2
                  · rename_i ys' ey'
                    obtain ⟨a', us', ea, ha', ra'⟩ := itemsL_rel S' (rx.mono0 l) ex'
                    obtain ⟨c', vs', ec, hc', rc'⟩ := itemsL_rel S' (ry.mono0 l) ey'
                    cases ea; cases ec
                    split at e2
                    · rename_i d1 d2 q1 q2
                      cases e2
                      obtain ⟨v1, hv1, r1⟩ := ra'.get q1
                      obtain ⟨v2, hv2, r2⟩ := rc'.get q2
                      refine ⟨⟨us', vs', v1, v2, SqL.of ha', SqL.of hc', hv1, hv2⟩, fun y H'' ⟨T, x1, x2, e3, hT, e4, k1, k2⟩ => ?_⟩
                      subst e3 e4
                      have z1 := k1 _ (SqL.of ha')
                      have z2 := k2 _ (SqL.of hc')
                      rw [hv1] at z1; cases z1
                      rw [hv2] at z2; cases z2
                      cases r1 with
                      | d r1 => cases r2 with
                        | d r2 => exact pair_new S' r1 r2 hT
                    · cases e2
                    · cases e2
                    · cases e2
                  · cases e2
                · cases e2
        · cases e
      · cases e
    · cases e
/-! ### for -/
/-- the loop: so many turns at most, the place, the slots -/
def forGo (s : Src) (turn : A → En → Hh → Option Out) : Nat → Nat → En → Hh → Option Out
  | 0, i, ρ, h => match s.nxt i h with
    | some none => some (.nx ρ h)
    | _ => none
  | n + 1, i, ρ, h => match s.nxt i h with
    | some none => some (.nx ρ h)
    | some (some a) => match turn a ρ h with
      | some (.nx ρ1 h1) => forGo s turn n (i + 1) ρ1 h1
      | some (.ct ρ1 h1) => forGo s turn n (i + 1) ρ1 h1
      | some (.bk ρ1 h1) => some (.nx ρ1 h1)
      | some (.rt a h1) => some (.rt a h1)
      | none => none
    | none => none
def mTurn (g : GI) (b : SI) : A → En → Hh → Option Out := fun a ρ h => match g a ρ h with
  | some (ρ1, h1) => b ρ1 h1
  | none => none
def mFor (it : SrcI) (g : GI) (b : SI) : SI := fun ρ h => match it ρ h with
  | some (s, h1) => forGo s (mTurn g b) s.fuel 0 ρ h1
  | none => none
theorem s_for {iter : Expr} {body : List Stmt} {it : SrcI} {g : GI} {b : SI} {pos : Pos} (hp : PassesOwn (model X.prog X.w) X.A X.env X.xe) (hc : X.calm = true) (hi : PI X tg iter (iS X.mg it)) (hg : PG X tg (rG X.mg g)) (hb : PSs X body (rS X.mg b))
    (hs : ∀ x, foldedSetIterable iter X.env x = pure x := by intro _; rfl) : PS X (.For tg iter body [] pos) (rS X.mg (mFor it g b)) :=
  PS.imp (ps_for hp hc hi hg hb hs) fun D σ H ⟨w, ρ, h, o, S, E, e, bb⟩ => by
    unfold mFor at e
    split at e
    · rename_i s h1 e1
      refine ⟨w, ρ, h, s, h1, S, E, e1, fun w1 H1 J l1 S1 k => ?_⟩
      refine ⟨fun i m σ H => ∃ w2 ρ2 h2, w1.le w2 ∧ Sm X.mg w2 H h2 ∧ EnvOk X.mg w2 ρ2 σ ∧ forGo s (mTurn g b) m i ρ2 h2 = some o, ⟨s.fuel, w1, ρ, h1, .rfl, S1, E.mono l1, e⟩, ?_⟩
      rintro i m σ2 H2 ⟨w2, ρ2, h2, l2, S2, E2, e2⟩
      obtain ⟨k1, k2⟩ := k i w2 H2 h2 l2.tole0 S2
      cases m with
      | zero =>
        unfold forGo at e2
        split at e2
        · rename_i q
          cases e2
          exact .inl ⟨k1 q, bb w2 H2 σ2 (l1.trans l2) S2 E2⟩
        · cases e2
      | succ m =>
        unfold forGo at e2
        split at e2
        · rename_i q
          cases e2
          exact .inl ⟨k1 q, bb w2 H2 σ2 (l1.trans l2) S2 E2⟩
        · rename_i a q
          obtain ⟨k3, k4⟩ := k2 a q
          refine .inr ⟨k3, fun σ' H' => ∃ w3 ρ3 h3, w1.le w3 ∧ Sm X.mg w3 H' h3 ∧ EnvOk X.mg w3 ρ3 σ' ∧ forGo s (mTurn g b) m (i + 1) ρ3 h3 = some o, fun σ' H' q' => ⟨m, Nat.lt_succ_self m, q'⟩, fun x H' y => ?_⟩
          obtain ⟨w3, l3, S3, r3⟩ := k4 x H' y
          unfold mTurn at e2
          split at e2
          · rename_i ρt ht et
            split at et
            · rename_i ρ4 h4 e4
              refine ⟨w3, ρ2, h2, a, ρ4, h4, S3, E2.mono l3, r3, e4, fun w4 H4 σ4 l4 S4 E4 => ⟨w4, ρ4, h4, _, S4, E4, et, fun w5 H5 σ5 l5 S5 E5 => ⟨w5, ρt, ht, ((l2.trans l3).trans l4).trans l5, S5, E5, ?_⟩⟩⟩
              exact e2
            · cases et
          · rename_i ρt ht et
            split at et
            · rename_i ρ4 h4 e4
              refine ⟨w3, ρ2, h2, a, ρ4, h4, S3, E2.mono l3, r3, e4, fun w4 H4 σ4 l4 S4 E4 => ⟨w4, ρ4, h4, _, S4, E4, et, fun w5 H5 σ5 l5 S5 E5 => ⟨w5, ρt, ht, ((l2.trans l3).trans l4).trans l5, S5, E5, ?_⟩⟩⟩
              exact e2
            · cases et
          · rename_i ρt ht et
            split at et
            · rename_i ρ4 h4 e4
              cases e2
              refine ⟨w3, ρ2, h2, a, ρ4, h4, S3, E2.mono l3, r3, e4, fun w4 H4 σ4 l4 S4 E4 => ⟨w4, ρ4, h4, _, S4, E4, et, fun w5 H5 σ5 l5 S5 E5 => bb w5 H5 σ5 ((((l1.trans l2).trans l3).trans l4).trans l5) S5 E5⟩⟩
            · cases et
          · rename_i at_ ht et
            split at et
            · rename_i ρ4 h4 e4
              cases e2
              refine ⟨w3, ρ2, h2, a, ρ4, h4, S3, E2.mono l3, r3, e4, fun w4 H4 σ4 l4 S4 E4 => ⟨w4, ρ4, h4, _, S4, E4, et, fun w5 H5 v l5 S5 r5 => bb w5 H5 v ((((l1.trans l2).trans l3).trans l4).trans l5) S5 r5⟩⟩
            · cases et
          · cases e2
        · cases e2
    · cases e
end
end F2
set_option Elab.async false
set_option linter.all false
set_option maxRecDepth 100000
set_option maxHeartbeats 4000000
namespace F2
open PySem PySem.Spec PyProof.Rows L2
/-! ### comprehensions -/
def wipeE (ρ : En) : List Nat → En
  | [] => ρ
  | v :: vs => (wipeE ρ vs).set v none
theorem EnvOk.none {mg : Mg} {w : Wd} {ρ : En} {σ : L2.St} (E : EnvOk mg w ρ σ) (i : Nat) : EnvOk mg w (ρ.set i none) (σ.set i none) := by
  refine ⟨by rw [List.length_set, List.length_set]; exact E.len, fun j b e => ?_⟩
  by_cases hj : i = j
  · subst hj
    have hi : i < ρ.length := by
      have := (List.getElem?_eq_some_iff.mp e).1
      rwa [List.length_set] at this
    rw [List.getElem?_set_self hi] at e
    cases e
  · rw [List.getElem?_set_ne hj] at e
    obtain ⟨u, h, q⟩ := E.get j b e
    exact ⟨u, by rw [List.getElem?_set_ne hj]; exact h, q⟩
theorem EnvOk.wipe {mg : Mg} {w : Wd} {ρ : En} {σ : L2.St} (E : EnvOk mg w ρ σ) : ∀ vs : List Nat, EnvOk mg w (wipeE ρ vs) (L2.wipe σ vs)
  | [] => E
  | v :: vs => (EnvOk.wipe E vs).none v
theorem wipe_set {σ : L2.St} {i : Nat} {x : Option V} : ∀ {vs : List Nat}, i ∈ vs → L2.wipe (σ.set i x) vs = L2.wipe σ vs
  | [], h => by simp at h
  | v :: vs, h => by
    by_cases e : i ∈ vs
    · show (L2.wipe (σ.set i x) vs).set v none = (L2.wipe σ vs).set v none
      rw [wipe_set e]
    · have hv : i = v := by
        rcases List.mem_cons.mp h with z | z
        · exact z
        · exact absurd z e
      subst hv
      have comm : ∀ (ws : List Nat), i ∉ ws → L2.wipe (σ.set i x) ws = (L2.wipe σ ws).set i x := by
        intro ws
        induction ws with
        | nil => intro _; rfl
        | cons u us ih =>
          intro hn
          show (L2.wipe (σ.set i x) us).set u none = ((L2.wipe σ us).set u none).set i x
          rw [ih (fun z => hn (List.mem_cons_of_mem _ z)), List.set_comm _ _ (fun z => hn (by rw [z]; exact List.mem_cons_self))]
      show (L2.wipe (σ.set i x) vs).set i none = (L2.wipe σ vs).set i none
      rw [comm vs e, List.set_set]
theorem wipe_wipe {σ : L2.St} : ∀ {vs : List Nat}, L2.wipe (L2.wipe σ vs) vs = L2.wipe σ vs := by
  have key : ∀ (us : List Nat) (τ : L2.St) (vs : List Nat), (∀ u ∈ us, u ∈ vs) → L2.wipe (L2.wipe τ us) vs = L2.wipe τ vs := by
    intro us
    induction us with
    | nil => intro _ _ _; rfl
    | cons u us ih =>
      intro τ vs h
      show L2.wipe ((L2.wipe τ us).set u none) vs = _
      rw [wipe_set (h u List.mem_cons_self), ih τ vs fun x hx => h x (List.mem_cons_of_mem _ hx)]
  intro vs
  exact key vs σ vs fun _ h => h
/-- a target of a comprehension: its own slots alone are set -/
def rGw (mg : Mg) (vs : List Nat) (g : GI) : TG := fun v σ H Q => ∃ w ρ h a ρ' h', Sm mg w H h ∧ EnvOk mg w ρ σ ∧ RelA mg w a v ∧ g a ρ h = some (ρ', h') ∧ BhE mg w ρ' h' fun σ' H' => L2.wipe σ' vs = L2.wipe σ vs → Q σ' H'
def rGsw (mg : Mg) (vs : List Nat) (g : GsI) : TGs := fun us σ H Q => ∃ w ρ h as ρ' h', Sm mg w H h ∧ EnvOk mg w ρ σ ∧ RelAs mg w as us ∧ g as ρ h = some (ρ', h') ∧ BhE mg w ρ' h' fun σ' H' => L2.wipe σ' vs = L2.wipe σ vs → Q σ' H'
section
variable {X : Cx} {tg : Expr}
theorem gw_name (vs : List Nat) (i : Nat) {x : Str} {pos : Pos} (hN : X.N.Nodup) (hv : i ∈ vs := by decide) (hi : X.N[i]? = some x := by rfl) (hx : Loc X.env.scope x := by first | exact Or.inl rfl | exact Or.inr rfl)
    (hf : X.fn x = true ∨ X.env.scope.names.lookup x = some .local := by first | exact .inl rfl | exact .inr rfl | assumption) : PG X (.Name x pos) (rGw X.mg vs (gN i)) :=
  PG.imp (pg_name hN hi hx hf) fun v σ H Q ⟨w, ρ, h, a, ρ', h', S, E, r, e, b⟩ => by
    cases e
    exact b w H _ .rfl S (E.set r) (wipe_set hv)
theorem gsw_nil (vs : List Nat) : PGs X [] (rGsw X.mg vs gsNil) := PGs.imp pgs_nil fun v σ H Q ⟨w, ρ, h, a, ρ', h', S, E, r, e, b⟩ => by
  unfold gsNil at e
  split at e
  · cases e
    cases r
    exact ⟨rfl, b w H _ .rfl S E rfl⟩
  · cases e
theorem gsw_cons {vs : List Nat} {e : Expr} {es : List Expr} {g : GI} {gs : GsI} (h1 : PG X e (rGw X.mg vs g)) (h2 : PGs X es (rGsw X.mg vs gs))
    (hs : (assignEach (e :: es) X.env).map (·.2) = assign e X.env :: (assignEach es X.env).map (·.2) := by rfl) : PGs X (e :: es) (rGsw X.mg vs (gsCons g gs)) :=
  PGs.imp (pgs_cons h1 h2 hs) fun v σ H Q ⟨w, ρ, h, a, ρ', h', S, E, r, e, b⟩ => by
    unfold gsCons at e
    split at e
    · rename_i x as
      split at e
      · rename_i ρ1 h1 e1
        cases r with
        | cons r t => exact ⟨_, _, rfl, w, ρ, h, x, ρ1, h1, S, E, r, e1, fun w1 H1 σ1 l1 S1 E1 z1 => ⟨w1, ρ1, h1, as, ρ', h', S1, E1, t.mono l1, e, fun w2 H2 σ2 l2 S2 E2 z2 => b w2 H2 σ2 (l1.trans l2) S2 E2 (z2.trans z1)⟩⟩
      · cases e
    · cases e
theorem gw_tup {vs : List Nat} {es : List Expr} {k : Nat} {pos : Pos} {gs : GsI} {n : Nat} (hc : X.calm = true) (h : PGs X es (rGsw X.mg vs gs)) (hn : (assignEach es X.env).length = n := by rfl) (hst : (assignEach es X.env).findIdx? (·.1) = none := by rfl) :
    PG X (.Tuple es k pos) (rGw X.mg vs (gT n gs)) := PG.imp (pg_tup hc h hn hst) fun v σ H Q ⟨w, ρ, h, a, ρ', h', S, E, r, e, b⟩ => by
  unfold gT at e
  split at e
  · rename_i xs ex
    split at e
    · rename_i hl
      obtain ⟨p, vs, rfl, hp, rp⟩ := itemsT_rel S r ex
      exact ⟨p, vs, rfl, sqT_rd hp, by rw [← rp.length]; exact hl, w, ρ, h, xs, ρ', h', S, E, rp, e, b⟩
    · cases e
  · cases e
/-! tests of a comprehension -/
def mYes : TI' := fun _ h => some (true, h)
theorem PTs.imp {e : List Expr} {t t' : TT} (p : PTs X e t) (h : ∀ σ H Q, t' σ H Q → t σ H Q) : PTs X e t' := ⟨fun pins s σ H Q I q => p.run pins s σ H Q I (h σ H Q q)⟩
theorem ts_nil : PTs X [] (rT X.mg mYes) := PTs.imp pts_nil fun σ H Q ⟨w, ρ, h, k, h', S, E, e, b⟩ => by
  cases e
  exact b w H .rfl S
theorem ts_one {c : Expr} {m : TI'} (h : PT X c (rT X.mg m)) : PTs X [c] (rT X.mg m) := pts_one h
/-! the list that is made -/
def Wd.own (w : Wd) (D : Addr) (o : HO) : Wd := { w with ow := fun b => if b = D then some o else w.ow b }
theorem own_le0 {w : Wd} {D : Addr} {o : HO} : w.le0 (w.own D o) := ⟨FzLe.rfl, Eq.refl _, fun _ _ h => h⟩
theorem own_le0' {w w' : Wd} {D : Addr} {o : HO} (l : (w.own D o).le0 w') : w.le0 w' := ⟨l.fz, l.lk, l.phi_⟩
theorem own_lift {w w' : Wd} {D : Addr} {o : HO} (l : w.le0 w') : (w.own D o).le0 w' := ⟨l.fz, l.lk, l.phi_⟩
theorem Sm.own {mg : Mg} {w : Wd} {H : Hp} {h : Hh} {D : Addr} {o : HO} (S : Sm mg w H h) (hD : H D = none) : Sm mg (w.own D o) (upd H D o) h where
  fz := fun a u q => rd_upd (S.fz a u q) (S.toSim.fz_ne hD q)
  len := S.len
  nd := S.nd
  th := fun i a q => by rw [upd_ne (S.toSim.phi__ne hD q)]; exact S.th i a q
  nf := S.nf
  cell := fun i a u q r => (S.cell i a u q r).mono0 own_le0 (upd_ne (S.toSim.phi__ne hD q))
  ow := fun a u q => by
    by_cases z : a = D
    · subst z
      have q' : (if a = a then some o else w.ow a) = some u := q
      rw [if_pos rfl] at q'; cases q'
      exact ⟨upd_same, S.toSim.fz_none hD, fun i z => S.toSim.phi__ne hD z rfl⟩
    · have q' : (if a = D then some o else w.ow a) = some u := q
      rw [if_neg z] at q'
      obtain ⟨h1, h2, h3⟩ := S.ow a u q'
      exact ⟨by rw [upd_ne z]; exact h1, h2, h3⟩
  lk := fun a u q => by
    obtain ⟨h1, h3⟩ := S.lk a u q
    exact ⟨by rw [upd_ne (fun z => by rw [z, hD] at h1; cases h1)]; exact h1, h3⟩
  st := fun a u q n => by rw [upd_ne (S.toSim.fz_ne hD q)]; exact S.st a u q n
/-- what we own is written -/
theorem Sm.rewrite {mg : Mg} {w : Wd} {H : Hp} {h : Hh} {D : Addr} {o o' : HO} (S : Sm mg w H h) (hD : w.ow D = some o) (dl : ∀ u, w.lk D ≠ some u) : Sm mg (w.own D o') (upd H D o') h := by
  obtain ⟨d1, d2, d3⟩ := S.ow D o hD
  have nz : ∀ {a : Addr} {u : HO}, w.fz a = some u → a ≠ D := fun q z => by rw [z, d2] at q; cases q
  have np : ∀ {i : Nat} {a : Addr}, w.phi_[i]? = some a → a ≠ D := fun {i a} q z => d3 i (by rw [← z]; exact q)
  exact {
    fz := fun a u q => rd_upd (S.fz a u q) (nz q)
    len := S.len
    nd := S.nd
    th := fun i a q => by rw [upd_ne (np q)]; exact S.th i a q
    nf := S.nf
    cell := fun i a u q r => (S.cell i a u q r).mono0 own_le0 (upd_ne (np q))
    ow := fun a u q => by
      by_cases z : a = D
      · subst z
        have q' : (if a = a then some o' else w.ow a) = some u := q
        rw [if_pos rfl] at q'; cases q'
        exact ⟨upd_same, d2, d3⟩
      · have q' : (if a = D then some o' else w.ow a) = some u := q
        rw [if_neg z] at q'
        obtain ⟨h1, h2, h3⟩ := S.ow a u q'
        exact ⟨by rw [upd_ne z]; exact h1, h2, h3⟩
    lk := fun a u q => by
      obtain ⟨h1, h3⟩ := S.lk a u q
      exact ⟨by rw [upd_ne (fun z => dl u (by rw [← z]; exact q))]; exact h1, h3⟩
    st := fun a u q n => by rw [upd_ne (nz q)]; exact S.st a u q n }
/-- what we own is handed over as data, or as a cell -/
def Wd.give (w : Wd) (f : Addr → Option HO) (D : Addr) (o : HO) : Wd := { w with ow := f, fz := fun b => if b = D then some o else w.fz b }
def Wd.giveC (w : Wd) (f : Addr → Option HO) (D : Addr) : Wd := { w with ow := f, phi_ := w.phi_ ++ [D] }
theorem Sm.drop {mg : Mg} {w : Wd} {H : Hp} {h : Hh} {D : Addr} {o : HO} {f : Addr → Option HO} (S : Sm mg w H h) (hf : ∀ a u, f a = some u → a ≠ D ∧ w.ow a = some u) : Sm mg { w with ow := f } H h where
  fz := S.fz
  len := S.len
  nd := S.nd
  th := S.th
  nf := S.nf
  cell := fun i a u q r => CellOk.mono0 (w := w) (w' := { w with ow := f }) ⟨FzLe.rfl, Eq.refl _, fun _ _ h => h⟩ rfl (S.cell i a u q r)
  ow := fun a u q => S.ow a u (hf a u q).2
  lk := S.lk
  st := S.st
theorem Sm.give {mg : Mg} {w : Wd} {H : Hp} {h : Hh} {D : Addr} {o : HO} {f : Addr → Option HO} (S : Sm mg w H h) (hD : w.ow D = some o) (hf : ∀ a u, f a = some u → a ≠ D ∧ w.ow a = some u) (no : NotD o ∨ True) : Sm mg (w.give f D o) H h := by
  obtain ⟨d1, d2, d3⟩ := S.ow D o hD
  have le : w.le0 (w.give f D o) := ⟨fun a u q => by
    show (if a = D then some o else w.fz a) = some u
    rw [if_neg (fun z => by rw [z, d2] at q; cases q)]; exact q, Eq.refl _, fun _ _ h => h⟩
  have np : ∀ {i : Nat} {a : Addr}, w.phi_[i]? = some a → a ≠ D := fun {i a} q z => d3 i (by rw [← z]; exact q)
  exact {
    fz := fun a u q => by
      by_cases z : a = D
      · subst z
        have q' : (if a = a then some o else w.fz a) = some u := q
        rw [if_pos rfl] at q'; cases q'
        exact .inl d1
      · have q' : (if a = D then some o else w.fz a) = some u := q
        rw [if_neg z] at q'
        exact S.fz a u q'
    len := S.len
    nd := S.nd
    th := S.th
    nf := fun i a u q r => by
      rcases S.nf i a u q r with z | z
      · refine .inl ?_
        show (if a = D then some o else w.fz a) = none
        rw [if_neg (np q)]; exact z
      · exact .inr z
    cell := fun i a u q r => (S.cell i a u q r).mono0 le rfl
    ow := fun a u q => by
      obtain ⟨ne, q'⟩ := hf a u q
      obtain ⟨h1, h2, h3⟩ := S.ow a u q'
      refine ⟨h1, ?_, h3⟩
      show (if a = D then some o else w.fz a) = none
      rw [if_neg ne]; exact h2
    lk := S.lk
    st := fun a u q n => by
      by_cases z : a = D
      · subst z
        have q' : (if a = a then some o else w.fz a) = some u := q
        rw [if_pos rfl] at q'; cases q'
        exact d1
      · have q' : (if a = D then some o else w.fz a) = some u := q
        rw [if_neg z] at q'
        exact S.st a u q' n }
theorem Sm.giveC {mg : Mg} {w : Wd} {H : Hp} {h : Hh} {D : Addr} {o : HO} {f : Addr → Option HO} (S : Sm mg w H h) (hD : w.ow D = some o) (hf : ∀ a u, f a = some u → a ≠ D ∧ w.ow a = some u) (dl : ∀ u, w.lk D ≠ some u) {x : O} (c : CellOk mg (w.giveC f D) H D x) : Sm mg (w.giveC f D) H (h ++ [x]) := by
  obtain ⟨d1, d2, d3⟩ := S.ow D o hD
  have le : w.le0 (w.giveC f D) := ⟨FzLe.rfl, Eq.refl _, fun i y q => by
    show (w.phi_ ++ [D])[i]? = some y
    rw [List.getElem?_append_left (List.getElem?_eq_some_iff.mp q).1]; exact q⟩
  have at_ : ∀ {i : Nat} {a : Addr}, (w.giveC f D).phi_[i]? = some a → (w.phi_[i]? = some a ∧ i < h.length) ∨ (i = h.length ∧ a = D) := fun {i a} q => by
    have q' : (w.phi_ ++ [D])[i]? = some a := q
    by_cases hi : i < w.phi_.length
    · rw [List.getElem?_append_left hi] at q'
      exact .inl ⟨q', by rw [← S.len]; exact hi⟩
    · rw [List.getElem?_append_right (by omega)] at q'
      have hz : i - w.phi_.length = 0 := by
        by_cases z : i - w.phi_.length = 0
        · exact z
        · rw [List.getElem?_eq_none (by simp; omega)] at q'; cases q'
      rw [hz] at q'
      simp at q'
      exact .inr ⟨by rw [← S.len]; omega, q'.symm⟩
  have np : ∀ {i : Nat} {a : Addr}, w.phi_[i]? = some a → a ≠ D := fun {i a} q z => d3 i (by rw [← z]; exact q)
  refine ⟨⟨S.fz, ?_, fun i j a q r => ?_, fun i a q => ?_, fun i a u q r => ?_, fun i a u q r => ?_, fun a u q => ?_, fun a u q => ?_⟩, S.st⟩
  · show (w.phi_ ++ [D]).length = _
    rw [List.length_append, List.length_append, S.len]; rfl
  · rcases at_ q with ⟨q, hi⟩ | ⟨hi, rfl⟩ <;> rcases at_ r with ⟨r, hj⟩ | ⟨hj, z⟩
    · exact S.nd i j a q r
    · exact absurd z (np q)
    · exact absurd rfl (np r)
    · omega
  · rcases at_ q with ⟨q, hi⟩ | ⟨hi, rfl⟩
    · exact S.th i a q
    · rw [d1]; exact fun z => nomatch z
  · rcases at_ q with ⟨q, hi⟩ | ⟨hi, rfl⟩
    · rw [List.getElem?_append_left hi] at r
      exact S.nf i a u q r
    · exact .inl d2
  · rcases at_ q with ⟨q, hi⟩ | ⟨hi, rfl⟩
    · rw [List.getElem?_append_left hi] at r
      exact (S.cell i a u q r).mono0 le rfl
    · subst hi
      rw [List.getElem?_append_right (Nat.le_refl _), Nat.sub_self] at r
      simp at r
      subst r
      exact c
  · obtain ⟨ne, q'⟩ := hf a u q
    obtain ⟨h1, h2, h3⟩ := S.ow a u q'
    refine ⟨h1, h2, fun i z => ?_⟩
    rcases at_ z with ⟨z, _⟩ | ⟨_, z⟩
    · exact h3 i z
    · exact ne z
  · obtain ⟨h1, h3⟩ := S.lk a u q
    refine ⟨h1, fun i z => ?_⟩
    rcases at_ z with ⟨z, hi⟩ | ⟨_, z⟩
    · rw [List.getElem?_append_left hi]; exact h3 i z
    · exact absurd (by rw [← z]; exact q) (dl u)
/-- the turns of a comprehension -/
def lcGo (s : Src) (g : GI) (t : TI') (m : EI) (ρ : En) : Nat → Nat → List A → Hh → Option (List A × Hh)
  | 0, i, acc, h => match s.nxt i h with
    | some none => some (acc, h)
    | _ => none
  | n + 1, i, acc, h => match s.nxt i h with
    | some none => some (acc, h)
    | some (some a) => match g a ρ h with
      | some (ρ1, h1) => match t ρ1 h1 with
        | some (true, h2) => match m ρ1 h2 with
          | some (y, h3) => if acc.length < LIM then lcGo s g t m ρ n (i + 1) (acc ++ [y]) h3 else none
          | none => none
        | some (false, h2) => lcGo s g t m ρ n (i + 1) acc h2
        | none => none
      | none => none
    | none => none
def mLc (cell : Bool) (it : SrcI) (g : GI) (t : TI') (m : EI) (vs : List Nat) : EI := fun ρ h => match it ρ h with
  | some (s, h1) => match lcGo s g t m (wipeE ρ vs) s.fuel 0 [] h1 with
    | some (acc, h2) => mkL cell acc h2
    | none => none
  | none => none
theorem lc_core' {it : SrcI} {g : GI} {t : TI'} {m : EI} {vs : List Nat} {cell : Bool} {σ : L2.St} {H : Hp} {Q : VK} (q : rE X.mg (mLc cell it g t m vs) σ H Q) :
    tLc (iS X.mg it) (rGw X.mg vs g) (rT X.mg t) (rE X.mg m) vs σ H Q := by
  obtain ⟨w, ρ, h, a, h', S, E, e, b⟩ := q
  unfold mLc at e
  split at e
  · rename_i s h1 e1
    split at e
    · rename_i acc h2 e2
      refine ⟨w, ρ, h, s, h1, S, E, e1, fun w1 H1 J l1 S1 k => ?_⟩
      intro D hD
      have hlk : ∀ u, w1.lk D ≠ some u := fun u z => by
        have := (S1.lk D u z).1
        rw [hD] at this; cases this
      have how : w1.ow D = none := by
        cases z : w1.ow D with
        | none => rfl
        | some u =>
          have := (S1.ow D u z).1
          rw [hD] at this; cases this
      refine ⟨fun i n H => ∃ w2 hh ac av, (w1.own D (.lst av)).le w2 ∧ Sm X.mg w2 H hh ∧ RelAs X.mg w2 ac av ∧ lcGo s g t m (wipeE ρ vs) n i ac hh = some (acc, h2), ⟨s.fuel, w1.own D (.lst []), h1, [], [], .rfl, S1.own hD, .nil, e2⟩, ?_⟩
      rintro i n H2 ⟨w2, hh, ac, av, l2, S2, r2, e3⟩
      have l02 : w1.le0 w2 := own_le0' l2.tole0
      have wD : w2.ow D = some (.lst av) := by rw [l2.ow]; show (if D = D then _ else _) = _; rw [if_pos rfl]
      have dlk : ∀ u, w2.lk D ≠ some u := fun u z => hlk u (by rw [← l02.lk]; exact z)
      obtain ⟨k1, k2⟩ := k i w2 H2 hh l02 S2
      have fin : (acc, h2) = (ac, hh) → Q (.ref D) H2 := fun z => by
        cases z
        have hf : ∀ a u, w1.ow a = some u → a ≠ D ∧ w2.ow a = some u := fun a u z => by
          have ne : a ≠ D := fun y => by rw [y, how] at z; cases z
          refine ⟨ne, ?_⟩
          rw [l2.ow]
          show (if a = D then _ else w1.ow a) = _
          rw [if_neg ne]; exact z
        unfold mkL at e
        split at e
        · cases cell with
          | true =>
            rw [if_pos rfl] at e
            cases e
            have le0 : w2.le0 (w2.giveC w1.ow D) := ⟨FzLe.rfl, Eq.refl _, fun i y q => by
              show (w2.phi_ ++ [D])[i]? = some y
              rw [List.getElem?_append_left (List.getElem?_eq_some_iff.mp q).1]; exact q⟩
            refine b (w2.giveC w1.ow D) H2 _ ⟨(l1.tole0.trans l02).trans le0, l1.ow⟩ (S2.giveC wD hf dlk (.lst (S2.ow D _ wD).1 (r2.mono0 le0))) (.ref ?_)
            show (w2.phi_ ++ [D])[h2.length]? = some D
            rw [← S2.len]; simp
          | false =>
            rw [if_neg Bool.false_ne_true] at e
            obtain ⟨ds, hd, z⟩ := Option.map_eq_some_iff.mp e
            cases z
            have le0 : w2.le0 (w2.give w1.ow D (.lst av)) := ⟨fun a u q => by
              show (if a = D then _ else w2.fz a) = some u
              rw [if_neg (fun z => by rw [z, (S2.ow D _ wD).2.1] at q; cases q)]; exact q, Eq.refl _, fun _ _ h => h⟩
            refine b (w2.give w1.ow D (.lst av)) H2 _ ⟨(l1.tole0.trans l02).trans le0, l1.ow⟩ (S2.give wD hf (.inr True.intro)) (.d (.lst (vs := av) ?_ ((allD_rel hd r2).mono le0.fz)))
            show (if D = D then _ else _) = _
            rw [if_pos rfl]
        · cases e
      cases n with
      | zero =>
        unfold lcGo at e3
        split at e3
        · rename_i z
          exact .inl ⟨k1 z, fin (Option.some.inj e3).symm⟩
        · cases e3
      | succ n =>
        unfold lcGo at e3
        split at e3
        · rename_i z
          exact .inl ⟨k1 z, fin (Option.some.inj e3).symm⟩
        · rename_i x z
          obtain ⟨k3, k4⟩ := k2 x z
          refine .inr ⟨k3, fun H' => ∃ w2 hh ac av, (w1.own D (.lst av)).le w2 ∧ Sm X.mg w2 H' hh ∧ RelAs X.mg w2 ac av ∧ lcGo s g t m (wipeE ρ vs) n (i + 1) ac hh = some (acc, h2), fun H' q' => ⟨n, Nat.lt_succ_self n, q'⟩, fun xv H' y => ?_⟩
          obtain ⟨w3, l3, S3, r3⟩ := k4 xv H' y
          split at e3
          · rename_i ρ1 hh1 e4
            split at e3
            · rename_i hh2 e5
              split at e3
              · rename_i yy hh3 e6
                split at e3
                · rename_i hz
                  refine ⟨w3, wipeE ρ vs, hh, x, ρ1, hh1, S3, (E.mono l1).mono0 (l02.trans l3.tole0) |>.wipe vs, r3, e4, fun w4 H4 σ4 l4 S4 E4 z4 => ⟨by rw [z4]; exact wipe_wipe, w4, ρ1, hh1, true, hh2, S4, E4, e5, fun w5 H5 l5 S5 => iteT ⟨w5, ρ1, hh2, yy, hh3, S5, E4.mono l5, e6, fun w6 H6 v6 l6 S6 r6 => ?_⟩⟩⟩
                  have l26 : w2.le w6 := ((l3.trans l4).trans l5).trans l6
                  have w6D : w6.ow D = some (.lst av) := by rw [l26.ow]; exact wD
                  have d6 : ∀ u, w6.lk D ≠ some u := fun u z => dlk u (by rw [← l26.lk]; exact z)
                  refine ⟨av, (S6.ow D _ w6D).1, ?_, w6.own D (.lst (av ++ [v6])), hh3, ac ++ [yy], av ++ [v6], ⟨own_le0' (l2.trans l26).tole0 |>.trans own_le0 |> own_lift, ?_⟩, S6.rewrite w6D d6, RelAs.append (r2.mono0 (l26.tole0.trans own_le0)) (.cons (r6.mono0 own_le0) .nil), e3⟩
                  · rw [← r2.length]; exact lim_size1 (Nat.le_of_lt hz)
                  · funext a
                    show (if a = D then _ else w6.ow a) = (if a = D then _ else w1.ow a)
                    by_cases za : a = D
                    · rw [if_pos za, if_pos za]
                    · rw [if_neg za, if_neg za, l26.ow, l2.ow]
                      show (if a = D then _ else w1.ow a) = _
                      rw [if_neg za]
                · cases e3
              · cases e3
            · rename_i hh2 e5
              refine ⟨w3, wipeE ρ vs, hh, x, ρ1, hh1, S3, (E.mono l1).mono0 (l02.trans l3.tole0) |>.wipe vs, r3, e4, fun w4 H4 σ4 l4 S4 E4 z4 => ⟨by rw [z4]; exact wipe_wipe, w4, ρ1, hh1, false, hh2, S4, E4, e5, fun w5 H5 l5 S5 => iteF ?_⟩⟩
              have l25 : w2.le w5 := (l3.trans l4).trans l5
              exact ⟨w5, hh2, ac, av, l2.trans l25, S5, r2.mono l25, e3⟩
            · cases e3
          · cases e3
        · cases e3
    · cases e
  · cases e
/-- [elt for target in iter if ..] -/
theorem e_lc (cell : Bool) {elt tg iter : Expr} {ifs : List Expr} {scope : Scope} {own : List (Str × Nat)} {pos : Pos} {it : SrcI} {g : GI} {t : TI'} {m : EI} (hc : X.calm = true) (hN : X.N.Nodup) (hi : PI X tg iter (iS X.mg it)) (ok : BlkOk X.N X.env.scope scope own)
    (hg : ∀ (s : Shared) (H : Hp) (C : Addr) (cl : List (Str × Addr)) (fp : List Addr), PG (X.blk s H scope (compEnvC scope cl C X.env) fp) tg (rGw X.mg (own.map (·.2)) g)) (ht : ∀ (s : Shared) (H : Hp) (C : Addr) (cl : List (Str × Addr)) (fp : List Addr), PTs (X.blk s H scope (compEnvC scope cl C X.env) fp) ifs (rT X.mg t))
    (he : ∀ (s : Shared) (H : Hp) (C : Addr) (cl : List (Str × Addr)) (fp : List Addr), PE (X.blk s H scope (compEnvC scope cl C X.env) fp) elt (rE X.mg m)) (hs : ∀ x, foldedSetIterable iter X.env x = pure x := by intro _; rfl) :
    PE X (.ListComp elt [⟨tg, iter, ifs, 0⟩] scope pos) (rE X.mg (mLc cell it g t m (own.map (·.2)))) :=
  PE.imp (pe_lc hc hN hi ok hg ht he hs) fun σ H Q q => lc_core' q
/-- y = [..], y a local name -/
theorem s_setLc (cell : Bool) (i : Nat) {y : Str} {py : Pos} {elt tg iter : Expr} {ifs : List Expr} {scope : Scope} {own : List (Str × Nat)} {pos spos : Pos} {it : SrcI} {g : GI} {t : TI'} {m : EI} (hc : X.calm = true) (hN : X.N.Nodup)
    (hi : PI X tg iter (iS X.mg it)) (ok : BlkOk X.N X.env.scope scope own)
    (hg : ∀ (s : Shared) (H : Hp) (C : Addr) (cl : List (Str × Addr)) (fp : List Addr), PG (X.blk s H scope (compEnvC scope cl C X.env) fp) tg (rGw X.mg (own.map (·.2)) g)) (ht : ∀ (s : Shared) (H : Hp) (C : Addr) (cl : List (Str × Addr)) (fp : List Addr), PTs (X.blk s H scope (compEnvC scope cl C X.env) fp) ifs (rT X.mg t))
    (he : ∀ (s : Shared) (H : Hp) (C : Addr) (cl : List (Str × Addr)) (fp : List Addr), PE (X.blk s H scope (compEnvC scope cl C X.env) fp) elt (rE X.mg m))
    (hy : X.N[i]? = some y := by rfl) (hyl : X.env.scope.names.lookup y = some .local := by rfl)
    (hsw : swapsWith (.ListComp elt [⟨tg, iter, ifs, 0⟩] scope pos) (some (.Name y py)) spos.line X.env = pure true := by exact sw_true rfl rfl rfl (by decide +kernel)) (hs : ∀ x, foldedSetIterable iter X.env x = pure x := by intro _; rfl) :
    PS X (.Assign [.Name y py] (.ListComp elt [⟨tg, iter, ifs, 0⟩] scope pos) spos) (rS X.mg (mAsg (mLc cell it g t m (own.map (·.2))) (gN i))) :=
  PS.imp (ps_setLc hc hN hy hyl hsw hi ok hg ht he hs) fun D σ H q => by
    refine lc_core' (cell := cell) ?_
    obtain ⟨w, ρ, h, a, h1, S, E, e1, k⟩ := asg_split (X := X) q
    refine ⟨w, ρ, h, a, h1, S, E, e1, fun w1 H1 v l1 S1 r1 => ?_⟩
    obtain ⟨w2, ρ2, h2, a2, ρ3, h3, S2, E2, r2, e2, b⟩ := k w1 H1 v l1 S1 r1
    cases e2
    exact b w2 H1 _ .rfl S2 (E2.set r2)
end
end F2
set_option Elab.async false
set_option linter.all false
set_option maxRecDepth 100000
set_option maxHeartbeats 4000000
namespace F2
open PySem PySem.Spec PyProof.Rows L2
section
variable {X : Cx}
/-! ### defs of the text -/
theorem rels_nil {mg : Mg} {w : Wd} {as : List A} (r : RelAs mg w as []) : as = [] := by cases r; rfl
theorem e_call {k : Nat} {f : Addr} {fd : FuncData} {ps : List Str} {F : FnI} {x : Str} {p pos : Pos} {e : Expr} {es : List Expr} {m : AI} (G : Ok X.prog X.w X.K X.mg X.base k f fd ps F) (hr : Room k X.A) (hm : X.mg x = some (.ref f)) (hk : PySem.W.keepIn X.K (.ref f) = true) (hb : Binds X.K fd ps [])
    (ha : PA X (e :: es) (rA X.mg m)) (hg : Gl X x := by rfl) (hn : ∀ vs : List V, True → True := fun _ h => h) (hdb : (x == ("__debug__" : Str)) = false := by decide) (he : starEach (e :: es) X.env = (false, eval e X.env) :: starEach es X.env := by rfl) (hpl : (backTo pos (starEach es X.env)).any (·.1) = false := by rfl) :
    PE X (.Call (.Name x p) (e :: es) [] pos) (rE X.mg (mOn (fun as h => if as.length = ps.length then F as h else none) m)) :=
  PE.imp (pe_call G hr hg hm hk hb .nil pass0 ha hdb he hpl) fun σ H Q q => by
    obtain ⟨w, ρ, h, as, h', S, E, e1, k1⟩ := on_split (X := X) q
    refine ⟨w, ρ, h, as, h', S, E, e1, fun w1 H1 vs l1 S1 r1 => ?_⟩
    obtain ⟨w2, h2, xs, a, h3, S2, r2, e2, b⟩ := k1 w1 H1 vs l1 S1 r1
    split at e2
    · rename_i hl
      rw [List.append_nil]
      exact ⟨by rw [← r2.length]; exact hl, w2, h2, xs, a, h3, S2, r2, e2, b⟩
    · cases e2
theorem e_call0 {k : Nat} {f : Addr} {fd : FuncData} {F : FnI} {x : Str} {p pos : Pos} (G : Ok X.prog X.w X.K X.mg X.base k f fd [] F) (hr : Room k X.A) (hm : X.mg x = some (.ref f)) (hk : PySem.W.keepIn X.K (.ref f) = true) (hb : Binds X.K fd [] [])
    (hg : Gl X x := by rfl) (hdb : (x == ("__debug__" : Str)) = false := by decide) : PE X (.Call (.Name x p) [] [] pos) (rE X.mg (mOn F mNil)) :=
  PE.imp (pe_call0 G hr hg hm hk hb .nil pass0 hdb) fun σ H Q q => by
    obtain ⟨w, ρ, h, a, h', S, E, e, b⟩ := q
    exact ⟨rfl, w, h, [], a, h', S, .nil, e, b⟩
/-! ### built-ins -/
def CallI (X : Cx) (f : Value) (F : List A → Hh → Option (A × Hh)) : Prop := CallR X f fun vs H Q => ∃ w h xs a h', Sm X.mg w H h ∧ RelAs X.mg w xs vs ∧ F xs h = some (a, h') ∧ Bh X.mg w h' a Q
theorem CallI.of {f : Value} {r : List V → Hp → VK → Prop} {F : List A → Hh → Option (A × Hh)} (o : CallR X f r)
    (h : ∀ (w : Wd) (H : Hp) (h : Hh) (xs : List A) (vs : List V) (a : A) (h' : Hh) (Q : VK), Sm X.mg w H h → RelAs X.mg w xs vs → F xs h = some (a, h') → Bh X.mg w h' a Q → r vs H Q) : CallI X f F := by
  intro pins s σ H vs us Q I rx ⟨w, hh, xs, a, h', S, r1, e, b⟩
  exact o pins s σ H vs us Q I rx (h w H hh xs vs a h' Q S r1 e b)
def orC (f g : List A → Hh → Option (A × Hh)) : List A → Hh → Option (A × Hh) := fun x h => match f x h with
  | some r => some r
  | none => g x h
theorem CallI.or {f : Value} {F G : List A → Hh → Option (A × Hh)} (o : CallI X f F) (p : CallI X f G) : CallI X f (orC F G) := by
  intro pins s σ H vs us Q I rx ⟨w, hh, xs, a, h', S, r1, e, b⟩
  unfold orC at e
  split at e
  · rename_i r q
    cases e
    exact o pins s σ H vs us Q I rx ⟨w, hh, xs, a, h', S, r1, q, b⟩
  · exact p pins s σ H vs us Q I rx ⟨w, hh, xs, a, h', S, r1, e, b⟩
theorem e_blt {x : Str} {p pos : Pos} {e : Expr} {es : List Expr} {m : AI} {id : String} {F : List A → Hh → Option (A × Hh)} (hc : CallI X (.builtin id) F) (hm : X.mg x = none) (ha : PA X (e :: es) (rA X.mg m)) (hg : Gl X x := by rfl) (hv : bootBuiltins x = some (.builtin id) := by decide +kernel)
    (hn : x ≠ "__name__" := by decide) (hdb : (x == ("__debug__" : Str)) = false := by decide) (he : starEach (e :: es) X.env = (false, eval e X.env) :: starEach es X.env := by rfl) (hpl : (backTo pos (starEach es X.env)).any (·.1) = false := by rfl) :
    PE X (.Call (.Name x p) (e :: es) [] pos) (rE X.mg (mOn F m)) := PE.imp (pe_callB hc hg hm hv ha hn hdb he hpl) fun σ H Q q => on_split q
theorem e_bty {x : Str} {p pos : Pos} {e : Expr} {es : List Expr} {m : AI} {T : String} {F : List A → Hh → Option (A × Hh)} (hc : CallI X (.type T) F) (hm : X.mg x = none) (ha : PA X (e :: es) (rA X.mg m)) (hg : Gl X x := by rfl) (hv : bootBuiltins x = some (.type T) := by decide +kernel)
    (hn : x ≠ "__name__" := by decide) (hdb : (x == ("__debug__" : Str)) = false := by decide) (he : starEach (e :: es) X.env = (false, eval e X.env) :: starEach es X.env := by rfl) (hpl : (backTo pos (starEach es X.env)).any (·.1) = false := by rfl) :
    PE X (.Call (.Name x p) (e :: es) [] pos) (rE X.mg (mOn F m)) := PE.imp (pe_callTy hc hg hm hv ha hn hdb he hpl) fun σ H Q q => on_split q
theorem rel1 {mg : Mg} {w : Wd} {x : A} {vs : List V} (r : RelAs mg w [x] vs) : ∃ v, vs = [v] ∧ RelA mg w x v := by
  cases r with
  | cons h t => cases t; exact ⟨_, rfl, h⟩
theorem rel2 {mg : Mg} {w : Wd} {x y : A} {vs : List V} (r : RelAs mg w [x, y] vs) : ∃ v u, vs = [v, u] ∧ RelA mg w x v ∧ RelA mg w y u := by
  cases r with
  | cons h t => obtain ⟨u, rfl, r2⟩ := rel1 t; exact ⟨_, u, rfl, h, r2⟩
/-- len -/
def fLen : List A → Hh → Option (A × Hh)
  | [x], h => match itemsL x h with
    | some xs => some (.d (.int xs.length), h)
    | none => match x with
      | .d (.str z) => if z.length ≤ LIM then some (.d (.int z.length), h) else none
      | .d (.tup xs) => some (.d (.int xs.length), h)
      | .d (.tupN xs) => some (.d (.int xs.length), h)
      | .d (.scr xs) => some (.d (.int xs.length), h)
      | _ => none
  | _, _ => none
theorem c_len : CallI X (.builtin "len") fLen := CallI.of call_len fun w H h xs vs a h' Q S r e b => by
  unfold fLen at e
  split at e
  · rename_i x
    obtain ⟨v, rfl, rx⟩ := rel1 r
    split at e
    · rename_i ys ey
      cases e
      obtain ⟨p, us, rfl, hp, rp⟩ := itemsL_rel S rx ey
      exact ⟨_, us.length, rfl, .inl ⟨us, SqL.of hp, rfl⟩, b w H _ .rfl S (.d (by rw [rp.length]; exact .int _))⟩
    · split at e
      · rename_i z _
        split at e
        · rename_i hz
          cases e
          cases rx with
          | d rx => cases rx; exact ⟨_, _, rfl, ⟨lim_size hz, rfl⟩, b w H _ .rfl S (.d (.int _))⟩
        · cases e
      · rename_i ys _
        cases e
        obtain ⟨p, us, rfl, hp, rp⟩ := itemsT_rel S rx (xs := ys.map A.d) rfl
        have hl := rp.length
        rw [List.length_map] at hl
        exact ⟨_, us.length, rfl, .inr ⟨us, sqT_rd hp, rfl⟩, b w H _ .rfl S (.d (by rw [hl]; exact .int _))⟩
      · rename_i ys _
        cases e
        obtain ⟨p, us, rfl, hp, rp⟩ := itemsT_rel S rx (xs := ys.map A.d) rfl
        have hl := rp.length
        rw [List.length_map] at hl
        exact ⟨_, us.length, rfl, .inr ⟨us, sqT_rd hp, rfl⟩, b w H _ .rfl S (.d (by rw [hl]; exact .int _))⟩
      · rename_i ns _
        cases e
        cases rx with
        | d rx =>
          cases rx with
          | scr q => exact ⟨_, (ns.map V.int).length, rfl, .inl ⟨_, .inl (.inr ⟨_, S.st _ _ q True.intro⟩), rfl⟩, b w H _ .rfl S (.d (by rw [List.length_map]; exact .int _))⟩
      · cases e
  · cases e
def fLenD : List A → Hh → Option (A × Hh)
  | [.ref l], h => match h[l]? with
    | some (.dK kvs) => some (.d (.int kvs.length), h)
    | _ => none
  | _, _ => none
theorem RelAk.length {mg : Mg} {w : Wd} {κ : Type} : ∀ {d : List (κ × A)} {v : List (κ × V)}, RelAk mg w d v → d.length = v.length
  | _, _, .nil => rfl
  | _, _, .cons _ t => by simp [RelAk.length t]
theorem c_lenD : CallI X (.builtin "len") fLenD := CallI.of call_lenD fun w H h xs vs a h' Q S r e b => by
  unfold fLenD at e
  split at e
  · rename_i l
    obtain ⟨v, rfl, rx⟩ := rel1 r
    split at e
    · rename_i kvs q
      cases e
      cases rx with
      | @ref _ p hp =>
        cases S.cell l p _ hp q with
        | dK h1 h2 => exact ⟨p, _, rfl, h1, b w H _ .rfl S (.d (by rw [h2.length]; exact .int _))⟩
    · cases e
  · cases e
/-- two ints -/
def int2C (C : Int → Int → Bool) (g : Int → Int → D) : List A → Hh → Option (A × Hh)
  | [.d (.int i), .d (.int j)], h => if C i j then some (.d (g i j), h) else none
  | _, _ => none
theorem relint {mg : Mg} {w : Wd} {i : Int} {v : V} (r : RelA mg w (.d (.int i)) v) : v = .int i := by
  cases r with
  | d r => cases r; rfl
theorem relstr {mg : Mg} {w : Wd} {i : Str} {v : V} (r : RelA mg w (.d (.str i)) v) : v = .str i := by
  cases r with
  | d r => cases r; rfl
theorem relbl {mg : Mg} {w : Wd} {i : Bool} {v : V} (r : RelA mg w (.d (.bl i)) v) : v = .bl i := by
  cases r with
  | d r => cases r; rfl
def fMax2 : List A → Hh → Option (A × Hh) := int2C (fun _ _ => true) fun i j => .int (if j > i then j else i)
def fMin2 : List A → Hh → Option (A × Hh) := int2C (fun _ _ => true) fun i j => .int (if j < i then j else i)
theorem c_max2 (hc : X.calm = true) : CallI X (.builtin "max") fMax2 := CallI.of (call_max2 hc) fun w H h xs vs a h' Q S r e b => by
  unfold fMax2 int2C at e
  split at e
  · rename_i i j
    rw [if_pos rfl] at e
    cases e
    obtain ⟨v, u, rfl, rx, ry⟩ := rel2 r
    rw [relint rx, relint ry]
    exact ⟨i, j, rfl, b w H _ .rfl S (.d (.int _))⟩
  · cases e
theorem c_min2 (hc : X.calm = true) : CallI X (.builtin "min") fMin2 := CallI.of (call_min2 hc) fun w H h xs vs a h' Q S r e b => by
  unfold fMin2 int2C at e
  split at e
  · rename_i i j
    rw [if_pos rfl] at e
    cases e
    obtain ⟨v, u, rfl, rx, ry⟩ := rel2 r
    rw [relint rx, relint ry]
    exact ⟨i, j, rfl, b w H _ .rfl S (.d (.int _))⟩
  · cases e
def fAbs : List A → Hh → Option (A × Hh)
  | [.d (.int i)], h => some (.d (.int (if i < 0 then -i else i)), h)
  | _, _ => none
theorem c_abs : CallI X (.builtin "abs") fAbs := CallI.of call_abs fun w H h xs vs a h' Q S r e b => by
  unfold fAbs at e
  split at e
  · rename_i i
    cases e
    obtain ⟨v, rfl, rx⟩ := rel1 r
    rw [relint rx]
    exact ⟨i, rfl, b w H _ .rfl S (.d (.int _))⟩
  · cases e
def fInt : List A → Hh → Option (A × Hh)
  | [.d (.int i)], h => some (.d (.int i), h)
  | _, _ => none
theorem c_int : CallI X (.type "int") fInt := CallI.of call_int1 fun w H h xs vs a h' Q S r e b => by
  unfold fInt at e
  split at e
  · rename_i i
    cases e
    obtain ⟨v, rfl, rx⟩ := rel1 r
    rw [relint rx]
    exact .inl ⟨i, rfl, b w H _ .rfl S (.d (.int _))⟩
  · cases e
def fStrI : List A → Hh → Option (A × Hh)
  | [.d (.int i)], h => if i.natAbs.log2 < 1920 then some (.d (.str (toString i)), h) else none
  | _, _ => none
theorem c_strI : CallI X (.type "str") fStrI := CallI.of call_str_int fun w H h xs vs a h' Q S r e b => by
  unfold fStrI at e
  split at e
  · rename_i i
    split at e
    · rename_i hz
      cases e
      obtain ⟨v, rfl, rx⟩ := rel1 r
      rw [relint rx]
      exact ⟨i, rfl, hz, b w H _ .rfl S (.d (.str _))⟩
    · cases e
  · cases e
def fStrS : List A → Hh → Option (A × Hh)
  | [.d (.str i)], h => some (.d (.str i), h)
  | _, _ => none
theorem c_strS : CallI X (.type "str") fStrS := CallI.of SkE.call_str_str fun w H h xs vs a h' Q S r e b => by
  unfold fStrS at e
  split at e
  · rename_i i
    cases e
    obtain ⟨v, rfl, rx⟩ := rel1 r
    rw [relstr rx]
    exact ⟨i, rfl, b w H _ .rfl S (.d (.str _))⟩
  · cases e
/-- divmod -/
def fDivmod : List A → Hh → Option (A × Hh) := int2C (fun i j => decide (0 < j ∧ j < 1073741824)) fun i j => .tup [.int (i / j), .int (i % j)]
theorem c_divmod : CallI X (.builtin "divmod") fDivmod := CallI.of call_divmod fun w H h xs vs a h' Q S r e b => by
  unfold fDivmod int2C at e
  split at e
  · rename_i i j
    split at e
    · rename_i c
      cases e
      obtain ⟨v, u, rfl, rx, ry⟩ := rel2 r
      rw [relint rx, relint ry]
      refine ⟨i, j, rfl, of_decide_eq_true (p := 0 < j ∧ j < 1073741824) c, fun p hp => ?_⟩
      obtain ⟨w', l', S', r'⟩ := pair_new S (RelD.int (mg := X.mg) (fz := w.fz) (i / j)) (.int (i % j)) hp
      exact b w' _ _ l' S' r'
    · cases e
  · cases e
/-- all, any of a list of truths -/
def bls : List A → Option (List Bool)
  | [] => some []
  | .d (.bl b) :: r => (bls r).map (b :: ·)
  | _ => none
theorem bls_rel {mg : Mg} {w : Wd} : ∀ {as : List A} {vs : List V} {bs : List Bool}, RelAs mg w as vs → bls as = some bs → vs = bs.map V.bl
  | _, _, _, .nil, e => by cases e; rfl
  | a :: as, _, bs, .cons h t, e => by
    unfold bls at e
    split at e
    · rename_i q; cases q
    · rename_i b r q
      cases q
      obtain ⟨cs, h1, rfl⟩ := Option.map_eq_some_iff.mp e
      rw [relbl h, bls_rel t h1]; rfl
    · cases e
def fAll : List A → Hh → Option (A × Hh)
  | [x], h => match itemsL x h with
    | some xs => (bls xs).map fun bs => (.d (.bl (bs.all id)), h)
    | none => none
  | _, _ => none
def fAny : List A → Hh → Option (A × Hh)
  | [x], h => match itemsL x h with
    | some xs => (bls xs).map fun bs => (.d (.bl (bs.any id)), h)
    | none => none
  | _, _ => none
theorem c_all (hc : X.calm = true) : CallI X (.builtin "all") fAll := CallI.of (cr_all hc) fun w H h xs vs a h' Q S r e b => by
  unfold fAll at e
  split at e
  · rename_i x
    split at e
    · rename_i ys ey
      obtain ⟨bs, h1, h2⟩ := Option.map_eq_some_iff.mp e
      cases h2
      obtain ⟨v, rfl, rx⟩ := rel1 r
      obtain ⟨p, us, rfl, hp, rp⟩ := itemsL_rel S rx ey
      exact ⟨p, bs, rfl, by rw [← bls_rel rp h1]; exact SqL.of hp, b w H _ .rfl S (.d (.bl _))⟩
    · cases e
  · cases e
theorem c_any (hc : X.calm = true) : CallI X (.builtin "any") fAny := CallI.of (cr_any hc) fun w H h xs vs a h' Q S r e b => by
  unfold fAny at e
  split at e
  · rename_i x
    split at e
    · rename_i ys ey
      obtain ⟨bs, h1, h2⟩ := Option.map_eq_some_iff.mp e
      cases h2
      obtain ⟨v, rfl, rx⟩ := rel1 r
      obtain ⟨p, us, rfl, hp, rp⟩ := itemsL_rel S rx ey
      exact ⟨p, bs, rfl, by rw [← bls_rel rp h1]; exact SqL.of hp, b w H _ .rfl S (.d (.bl _))⟩
    · cases e
  · cases e
/-- list(x), tuple(x) of a list or tuple -/
def fList (cell : Bool) : List A → Hh → Option (A × Hh)
  | [x], h => match itemsL x h with
    | some xs => mkL cell xs h
    | none => match itemsT x with
      | some xs => mkL cell xs h
      | none => none
  | _, _ => none
theorem c_list {cell : Bool} : CallI X (.type "list") (fList cell) := CallI.of call_list_of fun w H h xs vs a h' Q S r e b => by
  unfold fList at e
  split at e
  · rename_i x
    obtain ⟨v, rfl, rx⟩ := rel1 r
    split at e
    · rename_i ys ey
      obtain ⟨p, us, rfl, hp, rp⟩ := itemsL_rel S rx ey
      exact ⟨p, us, rfl, .inl (SqL.of hp), (mkL_ok S rp e b).2⟩
    · split at e
      · rename_i ys ey
        obtain ⟨p, us, rfl, hp, rp⟩ := itemsT_rel S rx ey
        exact ⟨p, us, rfl, .inr (sqT_rd hp), (mkL_ok S rp e b).2⟩
      · cases e
  · cases e
def fTuple : List A → Hh → Option (A × Hh)
  | [x], h => match itemsL x h with
    | some xs => mkT xs h
    | none => match x with
      | .d (.tup xs) => some (.d (.tup xs), h)
      | .d (.tupN xs) => some (.d (.tupN xs), h)
      | _ => none
  | _, _ => none
theorem c_tuple : CallI X (.type "tuple") fTuple := CallI.of call_tuple_of fun w H h xs vs a h' Q S r e b => by
  unfold fTuple at e
  split at e
  · rename_i x
    obtain ⟨v, rfl, rx⟩ := rel1 r
    split at e
    · rename_i ys ey
      obtain ⟨p, us, rfl, hp, rp⟩ := itemsL_rel S rx ey
      exact ⟨p, us, rfl, .inl ⟨SqL.of hp, (mkT_ok S rp e b).2⟩⟩
    · split at e
      · rename_i ys _
        cases e
        obtain ⟨p, us, rfl, hp, rp⟩ := itemsT_rel S rx (xs := ys.map A.d) rfl
        exact ⟨p, us, rfl, .inr ⟨sqT_rd hp, b w H _ .rfl S rx⟩⟩
      · rename_i ys _
        cases e
        obtain ⟨p, us, rfl, hp, rp⟩ := itemsT_rel S rx (xs := ys.map A.d) rfl
        exact ⟨p, us, rfl, .inr ⟨sqT_rd hp, b w H _ .rfl S rx⟩⟩
      · cases e
  · cases e
/-! ### methods of built-in types -/
def MetI (X : Cx) (id : String) (F : A → List A → Hh → Option (A × Hh)) : Prop := MtR X id fun v vs H Q => ∃ w h x xs a h', Sm X.mg w H h ∧ RelA X.mg w x v ∧ RelAs X.mg w xs vs ∧ F x xs h = some (a, h') ∧ Bh X.mg w h' a Q
theorem MetI.of {id : String} {r : V → List V → Hp → VK → Prop} {F : A → List A → Hh → Option (A × Hh)} (o : MtR X id r)
    (h : ∀ (w : Wd) (H : Hp) (h : Hh) (x : A) (v : V) (xs : List A) (vs : List V) (a : A) (h' : Hh) (Q : VK), Sm X.mg w H h → RelA X.mg w x v → RelAs X.mg w xs vs → F x xs h = some (a, h') → Bh X.mg w h' a Q → r v vs H Q) : MetI X id F := by
  intro pins s σ H v vs u us Q I rv rx ⟨w, hh, x, xs, a, h', S, r1, r2, e, b⟩
  exact o pins s σ H v vs u us Q I rv rx (h w H hh x v xs vs a h' Q S r1 r2 e b)
/-- the receiver's type, as the interpreter sees it -/
def isT (T : String) : A → Hh → Bool := fun x h => match T with
  | "str" => match x with
    | .d (.str _) => true
    | _ => false
  | "list" => (itemsL x h).isSome
  | _ => false
theorem isT_rel {mg : Mg} {w : Wd} {H : Hp} {h : Hh} {K : PySem.W.Frag} (S : Sm mg w H h) {T : String} {x : A} {v : V} (r : RelA mg w x v) (e : isT T x h = true) : tyV K T v H := by
  unfold isT at e
  split at e
  · split at e
    · rw [relstr r]; rfl
    · cases e
  · obtain ⟨xs, hx⟩ := Option.isSome_iff_exists.mp e
    obtain ⟨p, us, rfl, hp, rp⟩ := itemsL_rel S r hx
    exact .inl ⟨rfl, us, SqL.of hp⟩
  · cases e
def mMet (T : String) (F : A → List A → Hh → Option (A × Hh)) (o : EI) (r : AI) : EI := fun ρ h => match o ρ h with
  | some (x, h1) => if isT T x h1 then match r ρ h1 with
    | some (xs, h2) => F x xs h2
    | none => none
    else none
  | none => none
theorem met_split {T : String} {F : A → List A → Hh → Option (A × Hh)} {mo : EI} {r : AI} {σ : L2.St} {H : Hp} {Q : VK} (q : rE X.mg (mMet T F mo r) σ H Q) :
    rE X.mg mo σ H fun v H1 => tyV X.K T v H1 ∧ rA X.mg r σ H1 fun vs H2 => ∃ w h x xs a h', Sm X.mg w H2 h ∧ RelA X.mg w x v ∧ RelAs X.mg w xs vs ∧ F x xs h = some (a, h') ∧ Bh X.mg w h' a Q := by
  obtain ⟨w, ρ, h, a, h', S, E, e, b⟩ := q
  unfold mMet at e
  split at e
  · rename_i x h1 e1
    split at e
    · rename_i ct
      split at e
      · rename_i xs h2 e2
        refine ⟨w, ρ, h, x, h1, S, E, e1, fun w1 H1 v l1 S1 r1 => ⟨isT_rel S1 r1 ct, w1, ρ, h1, xs, h2, S1, E.mono l1, e2, fun w2 H2 vs l2 S2 r2 => ⟨w2, h2, x, xs, a, h', S2, r1.mono l2, r2, e, b.le (l1.trans l2)⟩⟩⟩
      · cases e
    · cases e
  · cases e
theorem e_met {T name id : String} {F : A → List A → Hh → Option (A × Hh)} {o e : Expr} {es : List Expr} {mo : EI} {m : AI} {apos cpos : Pos} (pa : PlainAttrs T) (slot : Slot T name id) (hty : typeOf (.builtin id) = pure (.type "method_descriptor")) (hm : MetI X id F) (ho : PE X o (rE X.mg mo)) (ha : PA X (e :: es) (rA X.mg m))
    (hbase : attributeBase o name X.env (eval o X.env) = eval o X.env := by rfl)
    (hfew : ((backTo cpos (starEach (e :: es) X.env)).all (fun x => !x.1) && (backToKw cpos (keywordEach [] X.env)).all (fun x => x.1.isSome) && decide ((e :: es).length + ([] : List Keyword).length + (if ([] : List Keyword).isEmpty then 0 else 1) < 30)) = true := by rfl)
    (hline : (apos.endLine == cpos.line) = true := by rfl) (hs : starEach (e :: es) X.env = (false, eval e X.env) :: starEach es X.env := by rfl) (hplain : (backTo cpos (starEach es X.env)).any (·.1) = false := by rfl) :
    PE X (.Call (.Attribute o name apos) (e :: es) [] cpos) (rE X.mg (mMet T F mo m)) := PE.imp (pe_bm pa slot hty hm ho ha hbase hfew hline hs hplain) fun σ H Q q => met_split q
theorem e_met0 {T name id : String} {F : A → List A → Hh → Option (A × Hh)} {o : Expr} {mo : EI} {apos cpos : Pos} (pa : PlainAttrs T) (slot : Slot T name id) (hty : typeOf (.builtin id) = pure (.type "method_descriptor")) (hm : MetI X id F) (ho : PE X o (rE X.mg mo))
    (hbase : attributeBase o name X.env (eval o X.env) = eval o X.env := by rfl) (hline : (apos.endLine == cpos.line) = true := by rfl) :
    PE X (.Call (.Attribute o name apos) [] [] cpos) (rE X.mg (mMet T F mo mNil)) := PE.imp (pe_bm0 pa slot hty hm ho hbase hline) fun σ H Q q => by
  obtain ⟨w, ρ, h, a, h', S, E, e, k⟩ := met_split (X := X) q
  refine ⟨w, ρ, h, a, h', S, E, e, fun w1 H1 v l1 S1 r1 => ?_⟩
  obtain ⟨ty, w2, ρ2, h2, as, h3, S2, E2, e2, k2⟩ := k w1 H1 v l1 S1 r1
  cases e2
  exact ⟨ty, k2 w2 H1 [] .rfl S2 .nil⟩
/-- xs.append(y) on a cell -/
def fAppend : A → List A → Hh → Option (A × Hh)
  | .ref l, [y], h => match h[l]? with
    | some (.lst xs) => if xs.length < LIM then some (.d .non, h.set l (.lst (xs ++ [y]))) else none
    | _ => none
  | _, _, _ => none
theorem m_append : MetI X "list.append" fAppend := MetI.of mt_append fun w H h x v xs vs a h' Q S r1 r2 e b => by
  unfold fAppend at e
  split at e
  · rename_i l y
    split at e
    · rename_i ys q
      split at e
      · rename_i hz
        cases e
        obtain ⟨u, rfl, ru⟩ := rel1 r2
        cases r1 with
        | @ref _ p hp =>
          cases S.cell l p _ hp q with
          | @lst _ us h1 h2 =>
            refine ⟨p, us, u, rfl, rfl, h1, by rw [← h2.length]; exact lim_size1 (Nat.le_of_lt hz), b w _ _ .rfl (S.write hp (fun o z => by rw [q] at z; cases z; exact True.intro) (.lst upd_same (h2.append (.cons ru .nil)))) (.d .non)⟩
      · cases e
    · cases e
  · cases e
theorem RelAs.erase {mg : Mg} {w : Wd} : ∀ {as : List A} {vs : List V}, RelAs mg w as vs → ∀ i, RelAs mg w (as.eraseIdx i) (vs.eraseIdx i)
  | _, _, .nil, _ => .nil
  | _, _, .cons h t, 0 => t
  | _, _, .cons h t, i + 1 => .cons h (RelAs.erase t i)
/-- xs.pop(i) on a cell -/
def fPopAt : A → List A → Hh → Option (A × Hh)
  | .ref l, [.d (.int i)], h => match h[l]? with
    | some (.lst xs) => if -(2 ^ 63) ≤ i ∧ i < 2 ^ 63 then match seqIndex? i xs.length with
      | some k => (xs[k]?).map fun y => (y, h.set l (.lst (xs.eraseIdx k)))
      | none => none
      else none
    | _ => none
  | _, _, _ => none
theorem m_popAt : MetI X "list.pop" fPopAt := MetI.of mt_popAt fun w H h x v xs vs a h' Q S r1 r2 e b => by
  unfold fPopAt at e
  split at e
  · rename_i l i
    split at e
    · rename_i ys q
      split at e
      · rename_i hz
        split at e
        · rename_i k ek
          obtain ⟨y, hy, z⟩ := Option.map_eq_some_iff.mp e
          cases z
          obtain ⟨u, rfl, ru⟩ := rel1 r2
          rw [relint ru]
          cases r1 with
          | @ref _ p hp =>
            cases S.cell l p _ hp q with
            | @lst _ us h1 h2 =>
              obtain ⟨vy, hvy, ry⟩ := h2.get hy
              exact ⟨p, us, i, k, vy, rfl, rfl, h1, hz.1, hz.2, by rw [← h2.length]; exact ek, hvy, b w _ _ .rfl (S.write hp (fun o z => by rw [q] at z; cases z; exact True.intro) (.lst upd_same (h2.erase k))) ry⟩
        · cases e
      · cases e
    · cases e
  · cases e
/-! texts -/
def txts : List A → Option (List Str)
  | [] => some []
  | .d (.str b) :: r => (txts r).map (b :: ·)
  | _ => none
theorem txts_rel {mg : Mg} {w : Wd} : ∀ {as : List A} {vs : List V} {bs : List Str}, RelAs mg w as vs → txts as = some bs → vs = bs.map V.str
  | _, _, _, .nil, e => by cases e; rfl
  | a :: as, _, bs, .cons h t, e => by
    unfold txts at e
    split at e
    · rename_i q; cases q
    · rename_i b r q
      cases q
      obtain ⟨cs, h1, rfl⟩ := Option.map_eq_some_iff.mp e
      rw [relstr h, txts_rel t h1]; rfl
    · cases e
theorem RelAs.txts {mg : Mg} {w : Wd} : ∀ (ys : List Str), RelAs mg w (ys.map fun y => .d (.str y)) (ys.map V.str)
  | [] => .nil
  | _ :: ys => .cons (.d (.str _)) (RelAs.txts ys)
def fJoin : A → List A → Hh → Option (A × Hh)
  | .d (.str a), [x], h => match itemsL x h with
    | some xs => match txts xs with
      | some ys => if (ys.map (·.length)).sum + ys.length * a.length ≤ 16777216 then some (.d (.str (Txt.join a ys)), h) else none
      | none => none
    | none => none
  | _, _, _ => none
theorem m_join : MetI X "str.join" fJoin := MetI.of mt_join fun w H h x v xs vs a h' Q S r1 r2 e b => by
  unfold fJoin at e
  split at e
  · rename_i s y
    split at e
    · rename_i ys ey
      split at e
      · rename_i zs ez
        split at e
        · rename_i hz
          cases e
          obtain ⟨u, rfl, ru⟩ := rel1 r2
          obtain ⟨p, us, rfl, hp, rp⟩ := itemsL_rel S ru ey
          rw [relstr r1]
          exact ⟨s, p, zs, rfl, rfl, .inl (by rw [← txts_rel rp ez]; exact SqL.of hp), hz, b w H _ .rfl S (.d (.str _))⟩
        · cases e
      · cases e
    · cases e
  · cases e
def fSplit (cell : Bool) : A → List A → Hh → Option (A × Hh)
  | .d (.str a), [.d (.str s)], h => if s.length ≠ 0 ∧ a.length + 2 ≤ LIM then mkL cell ((Txt.split a s).map fun y => .d (.str y)) h else none
  | _, _, _ => none
theorem m_split {cell : Bool} : MetI X "str.split" (fSplit cell) := MetI.of mt_split fun w H h x v xs vs a h' Q S r1 r2 e b => by
  unfold fSplit at e
  split at e
  · rename_i s y
    split at e
    · rename_i hz
      obtain ⟨u, rfl, ru⟩ := rel1 r2
      rw [relstr r1, relstr ru]
      exact ⟨s, y, rfl, rfl, by simpa using hz.1, lim_size hz.2, (mkL_ok S (RelAs.txts _) e b).2⟩
    · cases e
  · cases e
def fStr0 (g : Str → Bool) : A → List A → Hh → Option (A × Hh)
  | .d (.str a), [], h => some (.d (.bl (g a)), h)
  | _, _, _ => none
theorem m_str0 {id : String} {g : Str → Bool} (o : MtR X id fun x xs H Q => ∃ a, x = .str a ∧ xs = [] ∧ True ∧ Q (.bl (g a)) H) : MetI X id (fStr0 g) := MetI.of o fun w H h x v xs vs a h' Q S r1 r2 e b => by
  unfold fStr0 at e
  split at e
  · rename_i s
    cases e
    cases r2
    rw [relstr r1]
    exact ⟨s, rfl, rfl, trivial, b w H _ .rfl S (.d (.bl _))⟩
  · cases e
end
end F2
set_option Elab.async false
set_option linter.all false
set_option maxRecDepth 100000
set_option maxHeartbeats 4000000
namespace F2
open PySem PySem.Spec PyProof.Rows L2
section
variable {X : Cx}
/-! ### stores by place and key -/
def putG {κ α : Type} [DecidableEq κ] (kvs : List (κ × α)) (k : κ) (v : α) : List (κ × α) :=
  if (kvs.any fun kv => decide (kv.1 = k)) = true then kvs.map (fun kv => if kv.1 = k then (kv.1, v) else kv) else kvs ++ [(k, v)]
theorem RelAk.any {mg : Mg} {w : Wd} {κ : Type} [DecidableEq κ] (k : κ) : ∀ {as : List (κ × A)} {vs : List (κ × V)}, RelAk mg w as vs → (as.any fun kv => decide (kv.1 = k)) = (vs.any fun kv => decide (kv.1 = k))
  | _, _, .nil => rfl
  | _, _, .cons h t => by rw [List.any_cons, List.any_cons, RelAk.any k t]
theorem RelAk.over {mg : Mg} {w : Wd} {κ : Type} [DecidableEq κ] (k : κ) {a : A} {v : V} (r : RelA mg w a v) : ∀ {as : List (κ × A)} {vs : List (κ × V)}, RelAk mg w as vs →
    RelAk mg w (as.map fun kv => if kv.1 = k then (kv.1, a) else kv) (vs.map fun kv => if kv.1 = k then (kv.1, v) else kv)
  | _, _, .nil => .nil
  | _, _, .cons (k := j) h t => by
    rw [List.map_cons, List.map_cons]
    by_cases e : j = k
    · rw [if_pos e, if_pos e]; exact .cons r (RelAk.over k r t)
    · rw [if_neg e, if_neg e]; exact .cons h (RelAk.over k r t)
theorem RelAk.snoc {mg : Mg} {w : Wd} {κ : Type} {k : κ} {a : A} {v : V} (r : RelA mg w a v) : ∀ {as : List (κ × A)} {vs : List (κ × V)}, RelAk mg w as vs → RelAk mg w (as ++ [(k, a)]) (vs ++ [(k, v)])
  | _, _, .nil => .cons r .nil
  | _, _, .cons h t => .cons h (RelAk.snoc r t)
theorem RelAk.put {mg : Mg} {w : Wd} {κ : Type} [DecidableEq κ] {k : κ} {a : A} {v : V} (r : RelA mg w a v) {as : List (κ × A)} {vs : List (κ × V)} (q : RelAk mg w as vs) : RelAk mg w (putG as k a) (putK vs k v) := by
  unfold putG putK
  rw [q.any k]
  split
  · exact q.over k r
  · exact q.snoc r
theorem RelAs.set {mg : Mg} {w : Wd} {a : A} {v : V} (r : RelA mg w a v) : ∀ {as : List A} {vs : List V}, RelAs mg w as vs → ∀ i, RelAs mg w (as.set i a) (vs.set i v)
  | _, _, .nil, _ => .nil
  | _, _, .cons h t, 0 => .cons r t
  | _, _, .cons h t, i + 1 => .cons h (RelAs.set r t i)
def stF : A → A → A → Hh → Option Hh
  | .ref l, i, v, h => match h[l]? with
    | some (.lst xs) => match i with
      | .d (.int k) => (ixN xs.length k).map fun j => h.set l (.lst (xs.set j v))
      | _ => none
    | some (.dK kvs) => match i with
      | .d y => match keyOf y with
        | some k => if kvs.length < LIM then some (h.set l (.dK (putG kvs k v))) else none
        | none => none
      | _ => none
    | some (.dT kvs) => match i with
      | .d (.tup ys) => match keysOf ys with
        | some k => if kvs.length < LIM then some (h.set l (.dT (putG kvs k v))) else none
        | none => none
      | _ => none
    | _ => none
  | _, _, _, _ => none
def TSt (X : Cx) : TSet := fun vo vi vv H Q => ∃ w h o i v h', Sm X.mg w H h ∧ RelA X.mg w o vo ∧ RelA X.mg w i vi ∧ RelA X.mg w v vv ∧ stF o i v h = some h' ∧ ∀ w' H', w.le w' → Sm X.mg w' H' h' → Q H'
theorem set_ok (hu : X.A.units + 1 < cLine) : PSet X (TSt X) := by
  intro pins s σ H vo vi vv ov iv u Q I ro ri rv ⟨w, h, o, i, v, h', S, r1, r2, r3, e, b⟩
  unfold stF at e
  split at e
  · rename_i l
    cases r1 with
    | @ref _ p hp =>
      split at e
      · rename_i xs q
        split at e
        · rename_i k
          obtain ⟨j, hj, z⟩ := Option.map_eq_some_iff.mp e
          subst z
          have ei := relint r2
          subst ei
          cases S.cell l p _ hp q with
          | @lst _ us h1 h2 =>
            exact set_list pins s σ H (.ref p) (.int k) vv ov iv u Q I ro ri rv ⟨p, us, k, j, rfl, rfl, h1, by rw [← h2.length]; exact hj, b w _ .rfl (S.write hp (fun o z => by rw [q] at z; cases z; exact True.intro) (.lst upd_same (h2.set r3 j)))⟩
        · cases e
      · rename_i kvs q
        split at e
        · rename_i y
          split at e
          · rename_i k ek
            split at e
            · rename_i hz
              cases e
              cases r2 with
              | d r2 =>
                have ei := keyOf_rel r2 ek
                subst ei
                cases S.cell l p _ hp q with
                | @dK _ us h1 h2 =>
                  cases ro
                  exact d_setItem hu I (.inl ⟨us, k, h1, rfl, by rw [← h2.length]; exact lim_size1 (Nat.le_of_lt hz), rfl⟩) ri rv fun s' I' => ⟨_, I', b w _ .rfl (S.write hp (fun o z => by rw [q] at z; cases z; exact True.intro) (.dK upd_same (h2.put r3)))⟩
            · cases e
          · cases e
        · cases e
      · rename_i kvs q
        split at e
        · rename_i ys
          split at e
          · rename_i k ek
            split at e
            · rename_i hz
              cases e
              cases r2 with
              | d r2 =>
                cases r2 with
                | @tup c cs _ q0 rs =>
                  have ei := keysOf_rel rs ek
                  subst ei
                  cases S.cell l p _ hp q with
                  | @dT _ us h1 h2 =>
                    cases ro
                    exact d_setItem hu I (.inr ⟨us, k, c, h1, rfl, S.st _ _ q0 True.intro, by rw [← h2.length]; exact lim_size1 (Nat.le_of_lt hz), rfl⟩) ri rv fun s' I' => ⟨_, I', b w _ .rfl (S.write hp (fun o z => by rw [q] at z; cases z; exact True.intro) (.dT upd_same (h2.put r3)))⟩
            · cases e
          · cases e
        · cases e
      · cases e
  · cases e
def gSub (mo mi : EI) : GI := fun a ρ h => match mo ρ h with
  | some (o, h1) => match mi ρ h1 with
    | some (i, h2) => (stF o i a h2).map fun h3 => (ρ, h3)
    | none => none
  | none => none
theorem g_sub (hu : X.A.units + 1 < cLine) {o i : Expr} {mo mi : EI} {pos : Pos} (ho : PE X o (rE X.mg mo)) (hi : PE X i (rE X.mg mi))
    (ha : ∀ v, assign (.Subscript o i pos) X.env v = (do
      let ov ← holding [v] (eval o X.env)
      let iv ← holding [v, ov] (eval i X.env)
      standAt pos
      holding [v, ov, iv] (setItem ov iv v)
      release [v, ov, iv] []) := by intro _; rfl) : PG X (.Subscript o i pos) (rG X.mg (gSub mo mi)) :=
  PG.imp (pg_sub ho hi (set_ok hu) ha) fun v σ H Q ⟨w, ρ, h, a, ρ', h', S, E, r, e, b⟩ => by
    unfold gSub at e
    split at e
    · rename_i x h1 e1
      split at e
      · rename_i y h2 e2
        obtain ⟨h3, e3, z⟩ := Option.map_eq_some_iff.mp e
        cases z
        exact ⟨w, ρ, h, x, h1, S, E, e1, fun w1 H1 vx l1 S1 r1 => ⟨w1, ρ, h1, y, h2, S1, E.mono l1, e2, fun w2 H2 vy l2 S2 r2 => ⟨w2, h2, x, y, a, h', S2, r1.mono l2, r2, r.mono (l1.trans l2), e3, fun w3 H3 l3 S3 => b w3 H3 σ ((l1.trans l2).trans l3) S3 (E.mono ((l1.trans l2).trans l3))⟩⟩⟩
      · cases e
    · cases e
/-- o[i] = e -/
theorem s_put (hu : X.A.units + 1 < cLine) {o i e : Expr} {mo mi m : EI} {pos pos' : Pos} (ho : PE X o (rE X.mg mo)) (hi : PE X i (rE X.mg mi)) (he : PE X e (rE X.mg m)) (hs : swapsWithSole [.Subscript o i pos'] e pos.line X.env = pure false := by rfl) (hw : swappedStores [.Subscript o i pos'] e X.env = pure none := by rfl)
    (h1 : (assignEach [.Subscript o i pos'] X.env).map (·.2) = [assign (.Subscript o i pos') X.env] := by rfl)
    (ha : ∀ v, assign (.Subscript o i pos') X.env v = (do
      let ov ← holding [v] (eval o X.env)
      let iv ← holding [v, ov] (eval i X.env)
      standAt pos'
      holding [v, ov, iv] (setItem ov iv v)
      release [v, ov, iv] []) := by intro _; rfl) : PS X (.Assign [.Subscript o i pos'] e pos) (rS X.mg (mAsg m (gSub mo mi))) := s_asg he (g_sub hu ho hi ha) hs hw h1
/-- a, b = x, y for plain local names -/
def mPar (i j : Nat) (m : AI) : SI := fun ρ h => match m ρ h with
  | some ([a, b], h1) => some (.nx ((ρ.set i (some a)).set j (some b)) h1)
  | _ => none
theorem s_par (i j : Nat) {x y : Str} {a b : Expr} {m : AI} {px py pt : Pos} {kt k2 pt2} {pos : Pos} (hc : X.calm = true) (hN : X.N.Nodup) (ha : PA X [a, b] (rA X.mg m)) (hi : X.N[i]? = some x := by rfl) (hj : X.N[j]? = some y := by rfl) (hij : i ≠ j := by decide)
    (hx : X.env.scope.names.lookup x = some .local := by rfl) (hy : X.env.scope.names.lookup y = some .local := by rfl)
    (t : PS X (.Assign [.Tuple [.Name x px, .Name y py] kt pt] (.Tuple [a, b] k2 pt2) pos) (tPar i j (rA X.mg m))) : PS X (.Assign [.Tuple [.Name x px, .Name y py] kt pt] (.Tuple [a, b] k2 pt2) pos) (rS X.mg (mPar i j m)) :=
  PS.imp t fun D σ H ⟨w, ρ, h, o, S, E, e, bb⟩ => by
    unfold mPar at e
    split at e
    · rename_i a1 b1 h1 e1
      cases e
      refine ⟨w, ρ, h, _, h1, S, E, e1, fun w1 H1 vs l1 S1 r1 => ?_⟩
      obtain ⟨v, u, rfl, rv, ru⟩ := rel2 r1
      exact ⟨v, u, rfl, bb w1 H1 _ l1 S1 (((E.mono l1).set rv).set ru)⟩
    · cases e
/-! ### slices -/
def partI (m : Option EI) : En → Hh → Option (Option Int × Hh) := fun ρ h => match m with
  | none => some (none, h)
  | some m => match m ρ h with
    | some (.d (.int i), h1) => some (some i, h1)
    | _ => none
def rP (mg : Mg) (m : Option EI) : TO := fun σ H Q => ∃ w ρ h o h', Sm mg w H h ∧ EnvOk mg w ρ σ ∧ partI m ρ h = some (o, h') ∧ ∀ w' H', w.le w' → Sm mg w' H' h' → Q o H'
theorem PO.imp {e : Option Expr} {t t' : TO} (p : PO X e t) (h : ∀ σ H Q, t' σ H Q → t σ H Q) : PO X e t' := ⟨fun pins s σ H Q I q => p.run pins s σ H Q I (h σ H Q q)⟩
theorem p_none : PO X none (rP X.mg none) := PO.imp po_none fun σ H Q ⟨w, ρ, h, o, h', S, E, e, b⟩ => by
  cases e
  exact b w H .rfl S
theorem p_some {e : Expr} {m : EI} (he : PE X e (rE X.mg m)) : PO X (some e) (rP X.mg (some m)) := PO.imp (po_some he) fun σ H Q ⟨w, ρ, h, o, h', S, E, e, b⟩ => by
  unfold partI at e
  dsimp only at e
  split at e
  · rename_i i h1 e1
    cases e
    exact ⟨w, ρ, h, _, h', S, E, e1, fun w1 H1 v l1 S1 r1 => ⟨i, relint r1, b w1 H1 l1 S1⟩⟩
  · cases e
def cutA {α : Type} (xs : List α) (lo hi : Option Int) : List α := (xs.drop (HT.sIx xs.length 0 lo)).take (HT.sIx xs.length xs.length hi - HT.sIx xs.length 0 lo)
theorem RelAs.drop {mg : Mg} {w : Wd} : ∀ {as : List A} {vs : List V}, RelAs mg w as vs → ∀ i, RelAs mg w (as.drop i) (vs.drop i)
  | _, _, r, 0 => r
  | _, _, .nil, _ + 1 => .nil
  | _, _, .cons h t, i + 1 => RelAs.drop t i
theorem RelAs.take {mg : Mg} {w : Wd} : ∀ {as : List A} {vs : List V}, RelAs mg w as vs → ∀ i, RelAs mg w (as.take i) (vs.take i)
  | _, _, _, 0 => .nil
  | _, _, .nil, _ + 1 => .nil
  | _, _, .cons h t, i + 1 => .cons h (RelAs.take t i)
theorem RelAs.cut {mg : Mg} {w : Wd} {as : List A} {vs : List V} (r : RelAs mg w as vs) (lo hi : Option Int) : RelAs mg w (cutA as lo hi) (cutV vs lo hi) := by
  unfold cutA cutV
  rw [r.length]
  exact (r.drop _).take _
def mSlc (cell : Bool) (mo : EI) (lo hi : Option EI) : EI := fun ρ h => match mo ρ h with
  | some (x, h1) => match partI lo ρ h1 with
    | some (l, h2) => match partI hi ρ h2 with
      | some (u, h3) => match x with
        | .d (.tup xs) => if HT.sIx xs.length 0 l = 0 ∧ HT.sIx xs.length xs.length u = xs.length then some (x, h3) else mkT ((cutA xs l u).map A.d) h3
        | .d (.tupN xs) => if HT.sIx xs.length 0 l = 0 ∧ HT.sIx xs.length xs.length u = xs.length then some (x, h3) else mkT ((cutA xs l u).map A.d) h3
        | .d (.scr ns) => mkL cell ((cutA ns l u).map fun n => .d (.int n)) h3
        | _ => match itemsL x h3 with
          | some xs => mkL cell (cutA xs l u) h3
          | none => none
      | none => none
    | none => none
  | none => none
theorem cutA_map {α β : Type} (f : α → β) (xs : List α) (lo hi : Option Int) : (cutA xs lo hi).map f = cutA (xs.map f) lo hi := by
  unfold cutA
  rw [List.length_map, List.map_take, List.map_drop]
theorem RelAs.ints {mg : Mg} {w : Wd} : ∀ (ns : List Int), RelAs mg w (ns.map fun n => .d (.int n)) (ns.map V.int)
  | [] => .nil
  | _ :: ns => .cons (.d (.int _)) (RelAs.ints ns)
theorem e_slc (cell : Bool) {e : Expr} {lo hi : Option Expr} {mo : EI} {ml mh : Option EI} {p2 pos : Pos} (he : PE X e (rE X.mg mo)) (hl : PO X lo (rP X.mg ml)) (hh : PO X hi (rP X.mg mh)) : PE X (.Subscript e (.Slice lo hi none p2) pos) (rE X.mg (mSlc cell mo ml mh)) :=
  PE.imp (pe_slice (sl_tupA.or sl_list) he hl hh) fun σ H Q ⟨w, ρ, h, a, h', S, E, e, b⟩ => by
    unfold mSlc at e
    split at e
    · rename_i x h1 e1
      split at e
      · rename_i l h2 e2
        split at e
        · rename_i u h3 e3
          refine ⟨w, ρ, h, x, h1, S, E, e1, fun w1 H1 v l1 S1 r1 => ⟨w1, ρ, h1, l, h2, S1, E.mono l1, e2, fun w2 H2 l2 S2 => ⟨w2, ρ, h2, u, h3, S2, (E.mono l1).mono l2, e3, fun w3 H3 l3 S3 => ?_⟩⟩⟩
          have r3 := r1.mono (l2.trans l3)
          have b3 := b.le ((l1.trans l2).trans l3)
          split at e
          · rename_i xs
            obtain ⟨p, us, rfl, hp, rp⟩ := itemsT_rel S3 r3 (xs := xs.map A.d) rfl
            have hlen := rp.length
            rw [List.length_map] at hlen
            refine .inl ⟨p, us, rfl, sqT_rd hp, fun hw => ?_, fun hw => ?_⟩
            · rw [← hlen] at hw
              rw [if_pos hw] at e
              cases e
              exact b3 w3 H3 _ .rfl S3 r3
            · rw [← hlen] at hw
              rw [if_neg hw, cutA_map] at e
              exact (mkT_ok S3 (rp.cut l u) e b3).2
          · rename_i xs
            obtain ⟨p, us, rfl, hp, rp⟩ := itemsT_rel S3 r3 (xs := xs.map A.d) rfl
            have hlen := rp.length
            rw [List.length_map] at hlen
            refine .inl ⟨p, us, rfl, sqT_rd hp, fun hw => ?_, fun hw => ?_⟩
            · rw [← hlen] at hw
              rw [if_pos hw] at e
              cases e
              exact b3 w3 H3 _ .rfl S3 r3
            · rw [← hlen] at hw
              rw [if_neg hw, cutA_map] at e
              exact (mkT_ok S3 (rp.cut l u) e b3).2
          · rename_i ns
            cases r3 with
            | d r3 =>
              cases r3 with
              | scr q =>
                rw [cutA_map] at e
                exact .inr ⟨_, _, rfl, .inl (.inr ⟨_, S3.st _ _ q True.intro⟩), (mkL_ok S3 ((RelAs.ints ns).cut l u) e b3).2⟩
          · split at e
            · rename_i xs ex
              obtain ⟨p, us, rfl, hp, rp⟩ := itemsL_rel S3 r3 ex
              exact .inr ⟨p, us, rfl, SqL.of hp, (mkL_ok S3 (rp.cut l u) e b3).2⟩
            · cases e
        · cases e
      · cases e
    · cases e
/-- xs[::-1] of a list -/
def fRev (cell : Bool) : A → Hh → Option (A × Hh) := fun x h => match itemsL x h with
  | some xs => mkL cell xs.reverse h
  | none => none
theorem RelAs.reverse {mg : Mg} {w : Wd} : ∀ {as : List A} {vs : List V}, RelAs mg w as vs → RelAs mg w as.reverse vs.reverse
  | _, _, .nil => .nil
  | _, _, .cons h t => by rw [List.reverse_cons, List.reverse_cons]; exact (RelAs.reverse t).append (.cons h .nil)
theorem e_rev (cell : Bool) {e : Expr} {m : EI} {k : Nat} {p1 p2 p3 pos : Pos} (he : PE X e (rE X.mg m)) : PE X (.Subscript e (.Slice none none (some (.UnaryOp .USub (.Constant (.int 1) k p1) p2)) p3) pos) (rE X.mg (mUn (fRev cell) m)) :=
  PE.imp (pe_revL he) fun σ H Q q => by
    obtain ⟨w, ρ, h, x, h1, S, E, e1, k⟩ := un_split (X := X) q
    refine ⟨w, ρ, h, x, h1, S, E, e1, fun w1 H1 v l1 S1 r1 => ?_⟩
    obtain ⟨w2, h2, y, a, h3, S2, r2, e2, b⟩ := k w1 H1 v l1 S1 r1
    unfold fRev at e2
    split at e2
    · rename_i xs ex
      obtain ⟨p, us, rfl, hp, rp⟩ := itemsL_rel S2 r2 ex
      exact ⟨p, us, rfl, SqL.of hp, (mkL_ok S2 rp.reverse e2 b).2⟩
    · cases e2
/-! ### instances -/
/-- the fields of an instance of the class c -/
def fieldsOf (c : Str) : A → Hh → Option (List (Str × A))
  | .d (.ins c' fs), _ => if c' = c then some (fs.map fun p => (p.1, A.d p.2)) else none
  | .ref l, h => match h[l]? with
    | some (.ins c' fs) => if c' = c then some fs else none
    | _ => none
  | _, _ => none
theorem fieldsOf_rel {mg : Mg} {w : Wd} {H : Hp} {h : Hh} (S : Sm mg w H h) {c : Str} {C : Addr} (hC : mg c = some (.ref C)) {x : A} {v : V} {fs : List (Str × A)} (r : RelA mg w x v) (e : fieldsOf c x h = some fs) :
    ∃ a dx gs, v = .ref a ∧ H a = some (.ins C dx gs) ∧ RelAf mg w fs gs := by
  cases r with
  | d r =>
    cases r with
    | ins hc q rf =>
      simp only [fieldsOf] at e
      split at e
      · rename_i ec
        subst ec
        cases e
        rw [hC] at hc; cases hc
        exact ⟨_, _, _, rfl, S.st _ _ q True.intro, rf.as⟩
      · cases e
    | _ => cases e
  | @ref l p hp =>
    simp only [fieldsOf] at e
    split at e
    · rename_i c' fs' q
      split at e
      · rename_i ec
        subst ec
        cases e
        cases S.cell l p _ hp q with
        | ins hc h1 h2 =>
          rw [hC] at hc; cases hc
          exact ⟨p, _, _, rfl, h1, h2⟩
      · cases e
    · cases e
  | tp _ _ => cases e
theorem lookup_rel {mg : Mg} {w : Wd} {f : Str} : ∀ {fs : List (Str × A)} {gs : List (Str × V)}, RelAf mg w fs gs → (fs.lookup f = none ∧ gs.lookup f = none) ∨ ∃ a v, fs.lookup f = some a ∧ gs.lookup f = some v ∧ RelA mg w a v
  | _, _, .nil => .inl ⟨rfl, rfl⟩
  | _, _, .cons (k := k) (d := d) (v := v) h t => by
    by_cases e : f = k
    · have hb : (f == k) = true := beq_iff_eq.mpr e
      exact .inr ⟨d, v, by simp only [List.lookup, hb], by simp only [List.lookup, hb], h⟩
    · have hb : (f == k) = false := beq_eq_false_iff_ne.mpr e
      simp only [List.lookup, hb]
      exact lookup_rel t
def fFld (c f : Str) : A → Hh → Option (A × Hh) := fun x h => match fieldsOf c x h with
  | some fs => (fs.lookup f).map fun a => (a, h)
  | none => none
theorem e_fld (c : Str) {C : Addr} {f : Str} {e : Expr} {m : EI} {pos : Pos} (hC : X.mg c = some (.ref C)) (cl : Cls X.K C) (na : NoAttr X.K C f) (he : PE X e (rE X.mg m)) (hb : attributeBase e f X.env (eval e X.env) = eval e X.env := by rfl) : PE X (.Attribute e f pos) (rE X.mg (mUn (fFld c f) m)) :=
  PE.imp (pe_fld he hb) fun σ H Q q => by
    obtain ⟨w, ρ, h, x, h1, S, E, e1, k⟩ := un_split (X := X) q
    refine ⟨w, ρ, h, x, h1, S, E, e1, fun w1 H1 v l1 S1 r1 => ?_⟩
    obtain ⟨w2, h2, y, a, h3, S2, r2, e2, b⟩ := k w1 H1 v l1 S1 r1
    unfold fFld at e2
    split at e2
    · rename_i fs ef
      obtain ⟨a', e3, z⟩ := Option.map_eq_some_iff.mp e2
      cases z
      obtain ⟨p, dx, gs, rfl, hp, rf⟩ := fieldsOf_rel S2 hC r2 ef
      rcases lookup_rel (f := f) rf with ⟨z, _⟩ | ⟨a2, v2, z1, z2, z3⟩
      · rw [z] at e3; cases e3
      · rw [e3] at z1; cases z1
        exact ⟨p, C, dx, gs, v2, rfl, hp, cl, na, z2, b w2 H1 _ .rfl S2 z3⟩
    · cases e2
def putFA (f : Str) (v : A) : List (Str × A) → List (Str × A)
  | [] => [(f, v)]
  | (g, x) :: r => if g = f then (g, v) :: r else (g, x) :: putFA f v r
theorem putF_rel {mg : Mg} {w : Wd} {f : Str} {a : A} {v : V} (r : RelA mg w a v) : ∀ {fs : List (Str × A)} {gs : List (Str × V)}, RelAf mg w fs gs → RelAf mg w (putFA f a fs) (putF f v gs)
  | _, _, .nil => .cons r .nil
  | _, _, .cons (k := k) h t => by
    unfold putFA putF
    by_cases e : k = f
    · rw [if_pos e, if_pos e]; exact .cons r t
    · rw [if_neg e, if_neg e]; exact .cons h (putF_rel r t)
/-- o.f = e: the value first -/
def mFldS (c f : Str) (mo m : EI) : SI := fun ρ h => match m ρ h with
  | some (v, h1) => match mo ρ h1 with
    | some (.ref l, h2) => match h2[l]? with
      | some (.ins c' fs) => if c' = c ∧ fs.length < 100 then some (.nx ρ (h2.set l (.ins c (putFA f v fs)))) else none
      | _ => none
    | _ => none
  | none => none
theorem s_fld (c : Str) {C : Addr} {f : Str} {o e : Expr} {mo m : EI} {pos pos' : Pos} (hC : X.mg c = some (.ref C)) (cl : Cls X.K C) (na : NoAttr X.K C f) (ho : PE X o (rE X.mg mo)) (he : PE X e (rE X.mg m)) (hs : swapsWith e (some (.Attribute o f pos')) pos.line X.env = pure false := by rfl) :
    PS X (.Assign [.Attribute o f pos'] e pos) (rS X.mg (mFldS c f mo m)) := PS.imp (ps_fld ho he hs) fun D σ H ⟨w, ρ, h, oo, S, E, e, bb⟩ => by
  unfold mFldS at e
  split at e
  · rename_i v h1 e1
    split at e
    · rename_i l h2 e2
      split at e
      · rename_i c' fs q
        split at e
        · rename_i cc
          obtain ⟨cc, hz⟩ := cc
          subst cc
          cases e
          refine ⟨w, ρ, h, v, h1, S, E, e1, fun w1 H1 vv l1 S1 r1 => ⟨w1, ρ, h1, _, h2, S1, E.mono l1, e2, fun w2 H2 vo l2 S2 r2 => ?_⟩⟩
          cases r2 with
          | @ref _ p hp =>
            cases S2.cell l p _ hp q with
            | @ins _ C' dx _ gs hc h3 h4 =>
              rw [hC] at hc; cases hc
              refine ⟨p, C, dx, gs, rfl, h3, cl, na, by rw [← RelAk.length h4]; omega, ?_⟩
              exact bb w2 _ σ (l1.trans l2) (S2.write hp (fun o z => by rw [q] at z; cases z; exact True.intro) (.ins hC upd_same (putF_rel (r1.mono l2) h4))) (E.mono (l1.trans l2))
        · cases e
      · cases e
    · cases e
  · cases e
/-- o.m(..) -/
def mMth (c mt : Str) (F : FnI) (mo : EI) (r : AI) : EI := fun ρ h => match mo ρ h with
  | some (x, h1) => match fieldsOf c x h1 with
    | some fs => if fs.lookup mt = none then match r ρ h1 with
      | some (xs, h2) => F (x :: xs) h2
      | none => none
      else none
    | none => none
  | none => none
theorem lookup_none {mg : Mg} {w : Wd} {f : Str} {fs : List (Str × A)} {gs : List (Str × V)} (r : RelAf mg w fs gs) (e : fs.lookup f = none) : gs.lookup f = none := by
  rcases lookup_rel (f := f) r with ⟨_, z⟩ | ⟨a, v, z, _⟩
  · exact z
  · rw [e] at z; cases z
theorem mth_split {c mt : Str} {C : Addr} {n : Nat} {F : FnI} {mo : EI} {r : AI} {σ : L2.St} {H : Hp} {Q : VK} {E0' : XK} (hC : X.mg c = some (.ref C)) (hn : ∀ xs h, (F xs h).isSome = true → xs.length = n) (q : rE X.mg (mMth c mt F mo r) σ H Q) :
    rE X.mg mo σ H fun x H1 => ∃ a dx fs, x = .ref a ∧ H1 a = some (.ins C dx fs) ∧ fs.lookup mt = none ∧ rA X.mg r σ H1 fun vs H2 => spI X.mg n F (x :: (vs ++ [])) H2 Q E0' := by
  obtain ⟨w, ρ, h, a, h', S, E, e, b⟩ := q
  unfold mMth at e
  split at e
  · rename_i x h1 e1
    split at e
    · rename_i fs ef
      split at e
      · rename_i hl
        split at e
        · rename_i xs h2 e2
          refine ⟨w, ρ, h, x, h1, S, E, e1, fun w1 H1 v l1 S1 r1 => ?_⟩
          obtain ⟨p, dx, gs, rfl, hp, rf⟩ := fieldsOf_rel S1 hC r1 ef
          refine ⟨p, dx, gs, rfl, hp, lookup_none rf hl, w1, ρ, h1, xs, h2, S1, E.mono l1, e2, fun w2 H2 vs l2 S2 r2 => ?_⟩
          show spI X.mg n F (V.ref p :: (vs ++ [])) H2 Q E0'
          rw [List.append_nil]
          have r3 : RelAs X.mg w2 (x :: xs) (V.ref p :: vs) := .cons (r1.mono l2) r2
          exact ⟨by rw [← r3.length]; exact hn _ _ (by rw [e]; rfl), w2, h2, x :: xs, a, h', S2, r3, e, b.le (l1.trans l2)⟩
        · cases e
      · cases e
    · cases e
  · cases e
theorem e_mth (c : Str) {C : Addr} {mt : Str} {k : Nat} {f : Addr} {fd : FuncData} {ps : List Str} {F : FnI} {o e : Expr} {es : List Expr} {mo : EI} {m : AI} {apos pos : Pos} {pl : Sem Bool} (hC : X.mg c = some (.ref C)) (cl : Cls X.K C) (hm : Meth X.K C mt f) (G : Ok X.prog X.w X.K X.mg X.base k f fd ps F) (hn : ∀ xs h, (F xs h).isSome = true → xs.length = ps.length) (hr : Room k X.A) (hb : Binds X.K fd ps [])
    (ho : PE X o (rE X.mg mo)) (ha : PA X (e :: es) (rA X.mg m)) (hst : starEach (e :: es) X.env = (false, eval e X.env) :: starEach es X.env := by rfl) (hpl : (backTo pos (starEach es X.env)).any (·.1) = false := by rfl)
    (ht : eval (.Call (.Attribute o mt apos) (e :: es) [] pos) X.env = (do
      let ov ← eval o X.env
      standAt apos.atName
      let (f, first) ← holding [ov] (getMethod ov mt pl)
      callWith pos f first (backTo pos (starEach (e :: es) X.env)) (backToKw pos (keywordEach [] X.env))) := by rfl) :
    PE X (.Call (.Attribute o mt apos) (e :: es) [] pos) (rE X.mg (mMth c mt F mo m)) := PE.imp (pe_meth (pl := pl) ho cl hm G hr hb .nil pass0 ha hst hpl ht) fun σ H Q q => mth_split hC hn q
/-- a property -/
def mPrp (c f : Str) (F : FnI) (mo : EI) : EI := fun ρ h => match mo ρ h with
  | some (x, h1) => match fieldsOf c x h1 with
    | some _ => F [x] h1
    | none => none
  | none => none
theorem e_prp (c : Str) {C : Addr} {f : Str} {k : Nat} {p g : Addr} {fd : FuncData} {ps : List Str} {F : FnI} {e : Expr} {mo : EI} {pos : Pos} (hC : X.mg c = some (.ref C)) (cl : Cls X.K C) (hp : PropOf X.K C f p g) (G : Ok X.prog X.w X.K X.mg X.base k g fd ps F) (h1 : ps.length = 1) (hr : Room (k + 1) X.A) (hb : Binds X.K fd ps [])
    (he : PE X e (rE X.mg mo)) (hab : attributeBase e f X.env (eval e X.env) = eval e X.env := by rfl) : PE X (.Attribute e f pos) (rE X.mg (mPrp c f F mo)) := PE.imp (pe_prop he cl hp G hr hb .nil pass0 hab) fun σ H Q ⟨w, ρ, h, a, h', S, E, e, b⟩ => by
  unfold mPrp at e
  split at e
  · rename_i x hh e1
    split at e
    · rename_i fs ef
      refine ⟨w, ρ, h, x, hh, S, E, e1, fun w1 H1 v l1 S1 r1 => ?_⟩
      obtain ⟨q, dx, gs, rfl, hq, rf⟩ := fieldsOf_rel S1 hC r1 ef
      exact ⟨q, dx, gs, rfl, hq, by rw [h1]; rfl, w1, hh, [x], a, h', S1, .cons r1 .nil, e, b.le l1⟩
    · cases e
  · cases e
end
end F2
set_option Elab.async false
set_option linter.all false
set_option maxRecDepth 100000
set_option maxHeartbeats 4000000
namespace F2
open PySem PySem.Spec PyProof.Rows L2
section
variable {X : Cx}
theorem mkFn_len {np ns : Nat} {m : SI} : ∀ xs h, (mkFn np ns m xs h).isSome = true → xs.length = np := fun xs h e => by
  unfold mkFn at e
  by_cases c : xs.length = np
  · exact c
  · rw [if_neg c] at e; cases e
/-- an address that nobody knows of -/
theorem Sm.frame {mg : Mg} {w : Wd} {H : Hp} {h : Hh} {p : Addr} {o : HO} (S : Sm mg w H h) (e : H p = none) : Sm mg w (upd H p o) h where
  fz := fun a u q => rd_upd (S.fz a u q) (S.toSim.fz_ne e q)
  len := S.len
  nd := S.nd
  th := fun i a q => by rw [upd_ne (S.toSim.phi__ne e q)]; exact S.th i a q
  nf := S.nf
  cell := fun i a u q r => (S.cell i a u q r).mono0 Wd.le.rfl.tole0 (upd_ne (S.toSim.phi__ne e q))
  ow := fun a u q => by
    obtain ⟨h1, h2⟩ := S.ow a u q
    exact ⟨by rw [upd_ne (fun z => by rw [z, e] at h1; cases h1)]; exact h1, h2⟩
  lk := fun a u q => by
    obtain ⟨h1, h2⟩ := S.lk a u q
    exact ⟨by rw [upd_ne (fun z => by rw [z, e] at h1; cases h1)]; exact h1, h2⟩
  st := fun a u q n => by rw [upd_ne (S.toSim.fz_ne e q)]; exact S.st a u q n
/-- C(..): a new instance, then __init__; kept as data where its fields are data -/
def allF : List (Str × A) → Option (List (Str × D))
  | [] => some []
  | (f, .d x) :: r => (allF r).map ((f, x) :: ·)
  | (_, .ref _) :: _ => none
  | (_, .tp _) :: _ => none
theorem allF_rel {mg : Mg} {w : Wd} : ∀ {as : List (Str × A)} {ds : List (Str × D)} {vs : List (Str × V)}, allF as = some ds → RelAf mg w as vs → RelDf mg w.fz ds vs
  | [], _, _, e, r => by cases e; cases r; exact .nil
  | (f, .d x) :: as, ds, _, e, r => by
    cases r with
    | cons hr t =>
      cases hr with
      | d hd =>
        simp only [allF, Option.map_eq_some_iff] at e
        obtain ⟨es, e, rfl⟩ := e
        exact .cons hd (allF_rel e t)
  | (_, .ref _) :: _, _, _, e, _ => by cases e
  | (_, .tp _) :: _, _, _, e, _ => by cases e
def mkObj (c : Str) (F : FnI) (as : List A) (h : Hh) : Option (A × Hh) := match F (.ref h.length :: as) (h ++ [.ins c []]) with
  | some (.d .non, h') => match h'[h.length]? with
    | some (.ins c' fs) => if c' = c then match allF fs with
      | some ds => if (h'.take h.length).all (lowO h.length) then some (.d (.ins c ds), h'.take h.length) else none
      | none => some (.ref h.length, h')
      else none
    | _ => none
  | _ => none
theorem mkObj_ok {n : Nat} {c : Str} {C : Addr} {F : FnI} {as : List A} {vs : List V} {h h' : Hh} {w : Wd} {H : Hp} {a : A} {Q : VK} {E : XK} (hC : X.mg c = some (.ref C)) (S : Sm X.mg w H h) (r : RelAs X.mg w as vs) (hl : as.length + 1 = n) (e : mkObj c F as h = some (a, h')) (b : Bh X.mg w h' a Q)
    {x dx : Addr} (hx : H x = none) (hdx : H dx = none) (ne : dx ≠ x) : spI X.mg n F (.ref x :: vs) (upd (upd H dx (.own x)) x (.ins C dx [])) (fun v H2 => v = .non ∧ Q (.ref x) H2) E := by
  have hx1 : upd H dx (.own x) x = none := by rw [upd_ne (Ne.symm ne)]; exact hx
  have S1 := S.frame (o := .own x) hdx
  have S2 := S1.new hx1 (x := .ins c []) (.ins hC upd_same .nil) (o := .ins C dx [])
  have l1 : w.le (w.cell x) := S.le_cell
  unfold mkObj at e
  split at e
  · rename_i h2 e2
    have hz : (w.cell x).phi_[h.length]? = some x := by show (w.phi_ ++ [x])[h.length]? = some x; rw [← S.len]; simp
    refine ⟨by rw [List.length_cons, ← r.length, hl], w.cell x, h ++ [.ins c []], .ref h.length :: as, .d .non, h2, S2, .cons (.ref hz) (r.mono l1), e2, fun w3 H3 v l3 S3 r3 => ?_⟩
    have ev : v = .non := by cases r3 with | d q => cases q; rfl
    refine ⟨ev, ?_⟩
    split at e
    · rename_i c' fs q
      split at e
      · rename_i ec
        subst ec
        have px := l3.phi_ _ _ hz
        cases S3.cell _ _ _ px q with
        | @ins _ C' dx' _ gs hc h4 h5 =>
          rw [hC] at hc; cases hc
          split at e
          · rename_i ds ed
            split at e
            · rename_i hlow
              cases e
              have S4 := S3.take hlow
              have npx : ∀ i : Nat, (w3.take h.length).phi_[i]? ≠ some x := fun i z => by
                obtain ⟨z1, z2⟩ := take_get z
                have := S3.nd _ _ _ z1 px
                omega
              have fn : w3.fz x = none := by
                rcases S3.nf _ _ _ px q with z | z
                · exact z
                · cases z
              -- x is data now
              have le0 : (w3.take h.length).le ((w3.take h.length).pure x (.ins C dx' gs)) := ⟨⟨fun d u z => by
                show (if d = x then _ else w3.fz d) = some u
                rw [if_neg (fun y => by rw [y] at z; have z' : w3.fz x = some u := z; rw [fn] at z'; cases z')]; exact z, Eq.refl _, fun _ _ z => z⟩, Eq.refl _⟩
              have S5 : Sm X.mg ((w3.take h.length).pure x (.ins C dx' gs)) H3 (h2.take h.length) := {
                fz := fun d u z => by
                  by_cases y : d = x
                  · subst y
                    have z' : (if d = d then some (HO.ins C dx' gs) else w3.fz d) = some u := z
                    rw [if_pos rfl] at z'; cases z'
                    exact .inl h4
                  · have z' : (if d = x then some (HO.ins C dx' gs) else w3.fz d) = some u := z
                    rw [if_neg y] at z'
                    exact S4.fz d u z'
                len := S4.len
                nd := S4.nd
                th := S4.th
                nf := fun i d u z1 z2 => by
                  rcases S4.nf i d u z1 z2 with z | z
                  · refine .inl ?_
                    show (if d = x then _ else w3.fz d) = none
                    rw [if_neg (fun y => npx i (by rw [← y]; exact z1))]; exact z
                  · exact .inr z
                cell := fun i d u z1 z2 => (S4.cell i d u z1 z2).mono0 le0.tole0 rfl
                ow := fun d u z => by
                  obtain ⟨z1, z2, z3⟩ := S4.ow d u z
                  refine ⟨z1, ?_, z3⟩
                  show (if d = x then _ else w3.fz d) = none
                  rw [if_neg (fun y => (S3.ow d u z).2.2 _ (by rw [y]; exact px))]; exact z2
                lk := S4.lk
                st := fun d u z n => by
                  by_cases y : d = x
                  · subst y
                    have z' : (if d = d then some (HO.ins C dx' gs) else w3.fz d) = some u := z
                    rw [if_pos rfl] at z'; cases z'
                    exact h4
                  · have z' : (if d = x then some (HO.ins C dx' gs) else w3.fz d) = some u := z
                    rw [if_neg y] at z'
                    exact S4.st d u z' n }
              have lt : w.le (w3.take h.length) := ⟨⟨(l1.trans l3).fz, (l1.trans l3).lk, fun i y z => by
                have hi : i < h.length := by rw [← S.len]; exact (List.getElem?_eq_some_iff.mp z).1
                show (w3.phi_.take h.length)[i]? = some y
                rw [List.getElem?_take_of_lt hi]; exact (l1.trans l3).phi_ i y z⟩, (l1.trans l3).ow⟩
              refine b _ H3 _ (lt.trans le0) S5 (.d (.ins hC (gs := gs) (dx := dx') ?_ ((allF_rel ed h5).mono le0.fz)))
              show (if x = x then _ else _) = _
              rw [if_pos rfl]
            · cases e
          · cases e
            exact b w3 H3 _ (l1.trans l3) S3 (.ref px)
      · cases e
    · cases e
  · cases e
theorem e_mk (c : Str) {C : Addr} {k : Nat} {f : Addr} {fd : FuncData} {ps : List Str} {F : FnI} {p pos : Pos} {e : Expr} {es : List Expr} {m : AI} (hC : X.mg c = some (.ref C)) (M : Mk X.K C f) (G : Ok X.prog X.w X.K X.mg X.base k f fd ps F) (hr : Room (k + 1) X.A) (hb : Binds X.K fd ps [])
    (ha : PA X (e :: es) (rA X.mg m)) (hg : Gl X c := by rfl) (hdb : (c == ("__debug__" : Str)) = false := by decide) (he : starEach (e :: es) X.env = (false, eval e X.env) :: starEach es X.env := by rfl) (hpl : (backTo pos (starEach es X.env)).any (·.1) = false := by rfl) :
    PE X (.Call (.Name c p) (e :: es) [] pos) (rE X.mg (mOn (fun as h => if as.length + 1 = ps.length then mkObj c F as h else none) m)) :=
  PE.imp (pe_make M G hr hg hC hb .nil pass0 ha hdb he hpl) fun σ H Q q => by
    obtain ⟨w, ρ, h, as, h', S, E, e1, k1⟩ := on_split (X := X) q
    refine ⟨w, ρ, h, as, h', S, E, e1, fun w1 H1 vs l1 S1 r1 => ?_⟩
    obtain ⟨w2, h2, xs, a, h3, S2, r2, e2, b⟩ := k1 w1 H1 vs l1 S1 r1
    split at e2
    · rename_i hl
      intro x dx hx hdx ne
      rw [List.append_nil]
      exact mkObj_ok hC S2 r2 hl e2 b hx hdx ne
    · cases e2
/-! ### displays with stars -/
def mStar (a : EI) (r : AI) : AI := fun ρ h => match a ρ h with
  | some (x, h1) => match (match itemsL x h1 with
      | some xs => some xs
      | none => itemsT x) with
    | some xs => match r ρ h1 with
      | some (ys, h2) => some (xs ++ ys, h2)
      | none => none
    | none => none
  | none => none
theorem a_star {e : Expr} {es : List Expr} {m : EI} {r : AI} {p : Pos} (ha : PE X e (rE X.mg m)) (hr : PA X es (rA X.mg r)) (hs : starEach (.Starred e p :: es) X.env = (true, eval e X.env) :: starEach es X.env := by rfl) : PA X (.Starred e p :: es) (rA X.mg (mStar m r)) :=
  PA.imp (StX.pa_star ha hr hs) fun σ H Q ⟨w, ρ, h, k, h', S, E, e, b⟩ => by
    unfold mStar at e
    split at e
    · rename_i x h1 e1
      split at e
      · rename_i xs ex
        split at e
        · rename_i ys h2 e2
          cases e
          refine ⟨w, ρ, h, x, h1, S, E, e1, fun w1 H1 v l1 S1 r1 => ?_⟩
          have key : ∃ p vs, v = .ref p ∧ (SqT X.K H1 p vs ∨ SqL X.K H1 p vs) ∧ RelAs X.mg w1 xs vs := by
            split at ex
            · rename_i zs ez
              cases ex
              obtain ⟨p, vs, ev, hp, rp⟩ := itemsL_rel S1 r1 ez
              exact ⟨p, vs, ev, .inr (SqL.of hp), rp⟩
            · obtain ⟨p, vs, ev, hp, rp⟩ := itemsT_rel S1 r1 ex
              exact ⟨p, vs, ev, .inl (sqT_rd hp), rp⟩
          obtain ⟨p, vs, rfl, hp, rp⟩ := key
          exact ⟨p, vs, rfl, hp, w1, ρ, h1, ys, h', S1, E.mono l1, e2, fun w2 H2 us l2 S2 r2 => b w2 H2 _ (l1.trans l2) S2 ((rp.mono l2).append r2)⟩
        · cases e
      · cases e
    · cases e
end
end F2
set_option Elab.async false
set_option linter.all false
set_option maxRecDepth 100000
set_option maxHeartbeats 4000000
namespace F2
open PySem PySem.Spec PyProof.Rows L2 PySem.W
section
variable {prog : Program} {w : World} {A : Around} {E : Value → Shared → Prop} {s : Shared} {T : String} {r d : Addr} {n : Nat} {P : Nat → Value → Prop} {OK : Heap → Prop}
/-- what the walk has made of the list at S -/
def Made (P : Nat → Value → Prop) (n : Nat) (s : Shared) (s' : Shared) : Prop := ∃ (h' : Heap) (tk : Nat) (acc : Array Value) (c' : Nat), s' = { s with heap := h', toks := tk } ∧ (∀ b o, s.heap.get? b = some o → h'.get? b = some o) ∧
  h'.get? s.heap.objs.size = some { cls := .type "list", dict := none, data := .seq acc c', slots := #[] } ∧ ItemsOf P acc n
/-- the values of anything that list(..) takes -/
theorem collectK {Q : List Value → Shared → Prop} (K : KdlSrc prog w T r d n P OK) (hh : A.handled = none) (hok : OK s.heap) (hn : n ≤ sizeLine)
    (hQ : ∀ (h' : Heap) (tk : Nat) (acc : Array Value), (∀ b o, s.heap.get? b = some o → h'.get? b = some o) → ItemsOf P acc n → Q acc.toList { s with heap := h', toks := tk }) : wpAny (model prog w) A (collect (.ref r)) Q E s := by
  have room := K.there _ hok
  have hS : (s.heap.push { cls := .type "list", data := .seq ([] : List Value).toArray }).get? s.heap.objs.size = some { cls := .type "list", data := .seq #[] 0 } := Heap.get?_push_size _ rfl
  have fin : ∀ s', Made P n s s' → wpAny (model prog w) A (load s.heap.objs.size >>= fun o => (match o.data with
      | .seq items _ => pure items.toList
      | _ => pure [])) Q E s' := fun s' ⟨h', tk, acc, c', e, hk, hS', hi⟩ => by
    subst e
    exact wpAny_bind (wpAny_load hS' (wpAny_pure (hQ h' tk acc hk hi)))
  have step := kdl_extend (A := A) (R := fun rr s' => rr = .ok (.ret (.ref s.heap.objs.size)) ∧ Made P n s s') (s := { s with heap := s.heap.push { cls := .type "list", data := .seq ([] : List Value).toArray } }) K hh
    (K.keep _ _ hok fun b _ o e => Heap.get?_push_of_some _ e) s.heap.objs.size (Nat.ne_of_gt room.1) (Nat.ne_of_gt room.2) (.ref s.heap.objs.size) 0 hS
    (fun h' tk acc c' hk e hi => ⟨rfl, h', tk, acc, c', rfl, fun b o q => hk b o (Nat.ne_of_lt (Heap.lt_size q)) (Heap.get?_push_of_some _ q), e, hi⟩) hn
  unfold collect
  refine wpAny_bind (wpAny_runValue (codeAny_builtin F.entry_proto_collect ?_)); rw [Around.under_plainId F.plain_proto_collect _]
  refine (show wpAny _ A.in1 (newList [] >>= fun l => again (.builtin "list.__iadd__" ⟨[l, .ref r], []⟩)) _ _ s from wpAny_bind (wpAny_newObj_type (wpAny_pure ⟨plainId_quiet F.plain_list_iadd _, codeAny_builtin F.entry_list_iadd ?_⟩)))
  rw [Around.under_plainId F.plain_list_iadd _]
  refine wpAny_mono step (fun f s' h => ?_) fun e s' h => absurd h.1 (by simp)
  cases f with
  | done f =>
    obtain ⟨e, m⟩ := h
    cases e
    obtain ⟨h', tk, acc, c', rfl, hk, hS', hi⟩ := m
    exact (show wpAny _ A (load s.heap.objs.size >>= _) _ _ _ from wpAny_bind (wpAny_load hS' (wpAny_pure (hQ h' tk acc hk hi))))
  | again c =>
    refine ⟨h.1, codeAny_mono h.2 fun rr s'' hr => ?_⟩
    obtain ⟨rfl, h', tk, acc, c', rfl, hk, hS', hi⟩ := hr
    exact (show wpAny _ A (load s.heap.objs.size >>= _) _ _ _ from wpAny_bind (wpAny_load hS' (wpAny_pure (hQ h' tk acc hk hi))))
theorem tupleK {Q : Value → Shared → Prop} (K : KdlSrc prog w T r d n P OK) (hh : A.handled = none) (hok : OK s.heap) (hn : n ≤ sizeLine)
    (hQ : ∀ (h' : Heap) (tk : Nat) (acc : Array Value), (∀ b o, s.heap.get? b = some o → h'.get? b = some o) → ItemsOf P acc n → Q (.ref h'.objs.size) { s with heap := h'.push { cls := .type "tuple", data := .seq acc }, toks := tk }) :
    wpAny (model prog w) A (call (.type "tuple") [.ref r]) Q E s := by
  have new : ∀ {Q₁ : Value → Shared → Prop}, (∀ (h' : Heap) (tk : Nat) (acc : Array Value), (∀ b o, s.heap.get? b = some o → h'.get? b = some o) → ItemsOf P acc n → Q₁ (.ref h'.objs.size) { s with heap := h'.push { cls := .type "tuple", data := .seq acc }, toks := tk }) →
      codeAny (model prog w) A.in1 (.call (.builtin "tuple.__new__") ⟨[.type "tuple", .ref r], []⟩) (wants Q₁ E) s := fun {Q₁} h => by
    refine codeAny_of_tree (show wpAny _ A.in1.in1 (do checkBuiltinCall "tuple.__new__" ⟨[.type "tuple", .ref r], []⟩; again (.builtin "tuple.__new__" ⟨[.type "tuple", .ref r], []⟩)) _ _ s from ?_)
    refine wpAny_bind (wpAny_of_eq (F.newCall_tuple_1 _) (wpAny_pure ⟨plainId_quiet F.plain_tuple_new _, codeAny_builtin F.entry_tuple_new ?_⟩)); rw [Around.under_plainId F.plain_tuple_new _]
    have hsub := sub_tuple_self; have hinit := init_tuple_lookup; have hmh := madeHere_tuple
    have hTI : s.TypeIs (.ref r) T := K.type s hok
    have nt := K.notTuple
    have hh1 : A.in1.in1.handled = none := hh
    wp_walk using wpAny_typeOf hTI, collectK (A := A.in1.in1) K hh1 hok hn
    intro h' tk acc hk hacc
    have ea : acc.toList.toArray = acc := by simp
    show wpAny _ _ (Builtin.Tuple.tupleExact acc.toList.toArray >>= fun v => ret v) _ _ _
    unfold Builtin.Tuple.tupleExact; rw [ea]
    exact wpAny_bind (wpAny_newObj_type (wpAny_pure (h h' tk acc hk hacc)) (by show acc.size ≤ sizeLine; rw [hacc.1]; exact hn))
  refine callType_codes (Q₁ := fun obj s₁ => s₁.TypeIs obj "tuple" ∧ Q obj s₁) F.called_tuple (F.typeCall_tuple_1 _) F.entry_object_init
    (new fun h' tk acc hk hacc => ⟨⟨_, Heap.get?_push_size _ rfl, rfl⟩, hQ h' tk acc hk hacc⟩) fun obj s₁ h₁ => ?_
  exact ⟨h₁.1, F.args_object_init_2 obj _, object_init_meets F.called_tuple.init.lookup F.called_tuple.made (by decide) prog w A.in1 _ s₁ ⟨h₁.1, rfl, h₁.2⟩⟩
end
section
variable {X : Cx}
/-- tuple(d), list(d) of a dict in a cell -/
def fTupD : List A → Hh → Option (A × Hh)
  | [.ref l], h => match h[l]? with
    | some (.dK kvs) => if kvs.length ≤ LIM then some (.d (.tupN (kvs.map fun p => keyD p.1)), h) else none
    | _ => none
  | _, _ => none
theorem RelAk.keysA {mg : Mg} {w : Wd} : ∀ {as : List (Key × A)} {vs : List (Key × V)}, RelAk mg w as vs → RelAs mg w (as.map fun p => .d (keyD p.1)) (vs.map fun p => kV p.1)
  | _, _, .nil => .nil
  | _, _, .cons (k := k) h t => .cons (.d (by cases k <;> first | exact .int _ | exact .str _)) (RelAk.keysA t)
theorem RelAk.keysD {mg : Mg} {w : Wd} : ∀ {as : List (Key × A)} {vs : List (Key × V)}, RelAk mg w as vs → RelDs mg w.fz (as.map fun p => keyD p.1) (vs.map fun p => kV p.1)
  | _, _, .nil => .nil
  | _, _, .cons (k := k) h t => .cons (by cases k <;> first | exact .int _ | exact .str _) (RelAk.keysD t)
theorem c_tupD (hc : X.calm = true) : CallI X (.type "tuple") fTupD := by
  intro pins s σ H vs us Q I rx ⟨w, hh, xs, a, h', S, r1, e, b⟩
  unfold fTupD at e
  split at e
  · rename_i l
    obtain ⟨v, rfl, rv⟩ := rel1 r1
    obtain ⟨u, rfl, ru⟩ := vals1 rx
    cases rv with
    | @ref _ p hp =>
      cases ru
      split at e
      · rename_i kvs q
        cases S.cell l p _ hp q with
        | @dK _ ks h1 h2 =>
          obtain ⟨z, lo, vs, rk, hd⟩ := (show ObjOk X.prog X.w H s.heap p (.dK ks) from I.hok p _ h1)
          obtain ⟨ep, hat⟩ := hd.dictAt
          have hl : ks.length = vs.length := Paired.length rk
          refine tupleK (kdl_dict (knd := mixKind X.prog X.w) (kvs := vs) (ep := ep) lo) (I.ok.hd hc) hat (by rw [← hl]; exact z) fun h2' tk acc hk hacc => ?_
          have nn : s.heap.get? h2'.objs.size = none := by
            cases y : s.heap.get? h2'.objs.size with
            | none => rfl
            | some o => exact absurd (Heap.lt_size (hk _ _ y)) (Nat.lt_irrefl _)
          have hn := I.hok.gone nn
          split at e
          · rename_i hz
            cases e
            have m1 : (ks.map fun kv => kV kv.1).length ≤ sizeLine := lim_size (by rw [List.length_map, ← RelAk.length h2]; exact hz)
            have fin := b (w.pure h2'.objs.size _) _ _ (S.le_pure hn) (S.pure hn) (.d (.tupN (ob := { cls := .type "tuple", data := .seq acc }) (vs := ks.map fun kv => kV kv.1) (by show (if h2'.objs.size = h2'.objs.size then _ else _) = _; rw [if_pos rfl]) rfl rfl (h2.keysD.mono (S.le_pure hn).fz)))
            refine ⟨.ref h2'.objs.size, upd H h2'.objs.size (.frz { cls := .type "tuple", data := .seq acc } (.tup (ks.map fun kv => kV kv.1))), I.laidN (fun b' o y => Heap.get?_push_of_some _ (hk b' o y)) nn hn ?_, rfl, fin⟩
            refine ⟨Heap.get?_push_size _ rfl, m1, acc.toList, vals_of_at ?_ fun j x y e1 e2 => ?_, ⟨_, Heap.get?_push_size _ rfl, rfl, 0, by simp⟩⟩
            · have el : acc.toList.length = acc.size := by simp
              rw [List.length_map, hl, el, hacc.1]
            · obtain ⟨k, y0, hky, hi⟩ := hacc.2 j y (by rw [← Array.getElem?_toList]; exact e2)
              have e3 : (ks.map (·.1))[j]? = some k := by rw [KV.keys rk, List.getElem?_map, hky]; rfl
              rw [List.getElem?_map] at e1 e3
              cases y1 : ks[j]? with
              | none => rw [y1] at e3; cases e3
              | some q1 =>
                rw [y1] at e1 e3
                cases e1; cases e3
                exact keyIs_rel hi
          · cases e
      · cases e
  · cases e
/-! ### locks -/
def Wd.lock (w : Wd) (d : Addr) (o : HO) : Wd := { w with lk := fun b => if b = d then some o else w.lk b }
/-- what is done while the dict in the slot i is locked -/
def mLock (i : Nat) (m : EI) : EI := fun ρ h => match ρ[i]? with
  | some (some (.ref l)) => match h[l]? with
    | some (.dK kvs) => match m ρ (h.set l (.lK kvs)) with
      | some (a, h2) => match h2[l]? with
        | some (.lK kvs2) => some (a, h2.set l (.dK kvs2))
        | _ => none
      | none => none
    | _ => none
  | _ => none
theorem Sm.lock {mg : Mg} {w : Wd} {H : Hp} {h : Hh} (S : Sm mg w H h) {l : Nat} {p : Addr} {kvs : List (Key × A)} {ks : List (Key × V)} (hp : w.phi_[l]? = some p) (q : h[l]? = some (.dK kvs)) (h1 : H p = some (.dK ks)) (r : RelAk mg w kvs ks) (od : Obj) :
    Sm mg (w.lock p (.frz od (.dK ks))) (upd H p (.frz od (.dK ks))) (h.set l (.lK kvs)) := by
  have hl : l < h.length := (List.getElem?_eq_some_iff.mp q).1
  have fn := S.live hp (fun o z => by rw [q] at z; cases z; exact True.intro)
  have le : w.le00 (w.lock p (.frz od (.dK ks))) := ⟨FzLe.rfl, fun _ _ z => z⟩
  have nlk : ∀ u, w.lk p ≠ some u := fun u z => by
    obtain ⟨o, e1, e2⟩ := (S.lk p u z).2 l hp
    rw [q] at e1; cases e1; exact e2
  have at_ : ∀ {j : Nat} {a : Addr}, w.phi_[j]? = some a → a ≠ p → j ≠ l := fun {j a} z ne y => by subst y; rw [hp] at z; exact ne (Option.some.inj z).symm
  have same : ∀ {j : Nat}, w.phi_[j]? = some p → j = l := fun {j} z => S.nd j l p z hp
  exact {
    fz := fun a u z => rd_upd (S.fz a u z) (fun y => by rw [y] at z; have z' : w.fz p = some u := z; rw [fn] at z'; cases z')
    len := by rw [List.length_set]; exact S.len
    nd := S.nd
    th := fun j a z => by
      by_cases y : a = p
      · rw [y, upd_same]; exact fun x => nomatch x
      · rw [upd_ne y]; exact S.th j a z
    nf := fun j a u z1 z2 => by
      by_cases y : a = p
      · subst y; exact .inl fn
      · rw [List.getElem?_set_ne (Ne.symm (at_ z1 y))] at z2
        exact S.nf j a u z1 z2
    cell := fun j a u z1 z2 => by
      by_cases y : a = p
      · subst y
        have := same z1
        subst this
        rw [List.getElem?_set_self hl] at z2; cases z2
        exact .lK (by show (if a = a then _ else _) = _; rw [if_pos rfl]) (r.mono00 le)
      · rw [List.getElem?_set_ne (Ne.symm (at_ z1 y))] at z2
        have c := S.cell j a u z1 z2
        cases c with
        | lst e1 e2 => exact .lst (by rw [upd_ne y]; exact e1) (e2.mono00 le)
        | dK e1 e2 => exact .dK (by rw [upd_ne y]; exact e1) (e2.mono00 le)
        | dT e1 e2 => exact .dT (by rw [upd_ne y]; exact e1) (e2.mono00 le)
        | lK e1 e2 => exact .lK (by show (if a = p then _ else w.lk a) = _; rw [if_neg y]; exact e1) (e2.mono00 le)
        | lT e1 e2 => exact .lT (by show (if a = p then _ else w.lk a) = _; rw [if_neg y]; exact e1) (e2.mono00 le)
        | ins e0 e1 e2 => exact .ins e0 (by rw [upd_ne y]; exact e1) (e2.mono00 le)
        | dead => exact .dead
    ow := fun a u z => by
      obtain ⟨e1, e2, e3⟩ := S.ow a u z
      exact ⟨by rw [upd_ne (fun y => e3 l (by rw [y]; exact hp))]; exact e1, e2, e3⟩
    lk := fun a u z => by
      by_cases y : a = p
      · subst y
        have z' : (if a = a then some (HO.frz od (.dK ks)) else w.lk a) = some u := z
        rw [if_pos rfl] at z'; cases z'
        refine ⟨upd_same, fun j y => ?_⟩
        have := same y
        subst this
        exact ⟨_, List.getElem?_set_self hl, True.intro⟩
      · have z' : (if a = p then some (HO.frz od (.dK ks)) else w.lk a) = some u := z
        rw [if_neg y] at z'
        obtain ⟨e1, e2⟩ := S.lk a u z'
        refine ⟨by rw [upd_ne y]; exact e1, fun j x => ?_⟩
        rw [List.getElem?_set_ne (Ne.symm (at_ x y))]
        exact e2 j x
    st := fun a u z n => by rw [upd_ne (fun y => by rw [y] at z; have z' : w.fz p = some u := z; rw [fn] at z'; cases z')]; exact S.st a u z n }
theorem Sm.unlock {mg : Mg} {w w0 : Wd} {H : Hp} {h : Hh} {l : Nat} {p : Addr} {kvs : List (Key × A)} {ks : List (Key × V)} {od : Obj} (S : Sm mg w H h) (lkp : w.lk = (w0.lock p (.frz od (.dK ks))).lk) (n0 : w0.lk p = none) (hp : w.phi_[l]? = some p) (q : h[l]? = some (.lK kvs)) :
    H p = some (.frz od (.dK ks)) ∧ Sm mg { w with lk := w0.lk } (upd H p (.dK ks)) (h.set l (.dK kvs)) := by
  have hl : l < h.length := (List.getElem?_eq_some_iff.mp q).1
  have wp : w.lk p = some (.frz od (.dK ks)) := by rw [lkp]; show (if p = p then _ else _) = _; rw [if_pos rfl]
  have wo : ∀ {a : Addr}, a ≠ p → w.lk a = w0.lk a := fun {a} y => by rw [lkp]; show (if a = p then _ else w0.lk a) = _; rw [if_neg y]
  obtain ⟨hH, _⟩ := S.lk p _ wp
  refine ⟨hH, ?_⟩
  have rk : RelAk mg w kvs ks := by
    cases S.cell l p _ hp q with
    | lK e1 e2 => rw [wp] at e1; cases e1; exact e2
  have fn : w.fz p = none := by
    rcases S.nf l p _ hp q with z | z
    · exact z
    · cases z
  have le : w.le00 { w with lk := w0.lk } := ⟨FzLe.rfl, fun _ _ z => z⟩
  have at_ : ∀ {j : Nat} {a : Addr}, w.phi_[j]? = some a → a ≠ p → j ≠ l := fun {j a} z ne y => by subst y; rw [hp] at z; exact ne (Option.some.inj z).symm
  have same : ∀ {j : Nat}, w.phi_[j]? = some p → j = l := fun {j} z => S.nd j l p z hp
  exact {
    fz := fun a u z => rd_upd (S.fz a u z) (fun y => by rw [y] at z; have z' : w.fz p = some u := z; rw [fn] at z'; cases z')
    len := by rw [List.length_set]; exact S.len
    nd := S.nd
    th := fun j a z => by
      by_cases y : a = p
      · rw [y, upd_same]; exact fun x => nomatch x
      · rw [upd_ne y]; exact S.th j a z
    nf := fun j a u z1 z2 => by
      by_cases y : a = p
      · subst y; exact .inl fn
      · rw [List.getElem?_set_ne (Ne.symm (at_ z1 y))] at z2
        exact S.nf j a u z1 z2
    cell := fun j a u z1 z2 => by
      by_cases y : a = p
      · subst y
        have := same z1
        subst this
        rw [List.getElem?_set_self hl] at z2; cases z2
        exact .dK upd_same (rk.mono00 le)
      · rw [List.getElem?_set_ne (Ne.symm (at_ z1 y))] at z2
        have c := S.cell j a u z1 z2
        cases c with
        | lst e1 e2 => exact .lst (by rw [upd_ne y]; exact e1) (e2.mono00 le)
        | dK e1 e2 => exact .dK (by rw [upd_ne y]; exact e1) (e2.mono00 le)
        | dT e1 e2 => exact .dT (by rw [upd_ne y]; exact e1) (e2.mono00 le)
        | lK e1 e2 => exact .lK (by show w0.lk a = _; rw [← wo y]; exact e1) (e2.mono00 le)
        | lT e1 e2 => exact .lT (by show w0.lk a = _; rw [← wo y]; exact e1) (e2.mono00 le)
        | ins e0 e1 e2 => exact .ins e0 (by rw [upd_ne y]; exact e1) (e2.mono00 le)
        | dead => exact .dead
    ow := fun a u z => by
      obtain ⟨e1, e2, e3⟩ := S.ow a u z
      exact ⟨by rw [upd_ne (fun y => e3 l (by rw [y]; exact hp))]; exact e1, e2, e3⟩
    lk := fun a u z => by
      have ne : a ≠ p := fun y => by rw [y] at z; have z' : w0.lk p = some u := z; rw [n0] at z'; cases z'
      obtain ⟨e1, e2⟩ := S.lk a u (by rw [wo ne]; exact z)
      refine ⟨by rw [upd_ne ne]; exact e1, fun j x => ?_⟩
      rw [List.getElem?_set_ne (Ne.symm (at_ x ne))]
      exact e2 j x
    st := fun a u z n => by rw [upd_ne (fun y => by rw [y] at z; have z' : w.fz p = some u := z; rw [fn] at z'; cases z')]; exact S.st a u z n }
theorem e_lock (i : Nat) {e : Expr} {m : EI} (p : PE X e (rE X.mg m)) : PE X e (rE X.mg (mLock i m)) := PE.imp (pe_lock p) fun σ H Q ⟨w, ρ, h, a, h', S, E, e, b⟩ => by
  unfold mLock at e
  split at e
  · rename_i l ei
    split at e
    · rename_i kvs q
      split at e
      · rename_i a2 h2 e2
        split at e
        · rename_i kvs2 q2
          cases e
          obtain ⟨v, hv, rv⟩ := E.get i _ ei
          cases rv with
          | @ref _ p hp =>
            cases S.cell l p _ hp q with
            | @dK _ ks h1 h3 =>
              have n0 : w.lk p = none := by
                cases z : w.lk p with
                | none => rfl
                | some u =>
                  obtain ⟨o, e1, e3⟩ := (S.lk p u z).2 l hp
                  rw [q] at e1; cases e1; exact e3.elim
              refine ⟨p, .dK ks, h1, True.intro, fun od => ⟨w.lock p (.frz od (.dK ks)), ρ, _, a, h2, S.lock hp q h1 h3 od, ⟨E.len, fun j x z => let ⟨y, hy, ry⟩ := E.get j x z; ⟨y, hy, RelA.mono00 (w' := w.lock p (.frz od (.dK ks))) (w := w) ⟨FzLe.rfl, fun _ _ z => z⟩ ry⟩⟩, e2, fun w2 H2 v2 l2 S2 r2 => ?_⟩⟩
              obtain ⟨k1, k2⟩ := S2.unlock (w0 := w) l2.lk n0 (l2.phi_ _ _ hp) q2
              exact ⟨k1, b { w2 with lk := w.lk } _ v2 ⟨⟨l2.fz, Eq.refl _, l2.phi_⟩, l2.ow⟩ k2 (RelA.mono00 (w := w2) (w' := { w2 with lk := w.lk }) ⟨FzLe.rfl, fun _ _ z => z⟩ r2)⟩
        · cases e
      · cases e
    · cases e
  · cases e
/-- the keys of a locked dict -/
def keysN (kvs : List (Key × A)) : Nat → Hh → Option (Option A) := fun i _ => some ((kvs[i]?).map fun p => .d (keyD p.1))
def srcK (m : EI) : SrcI := fun ρ h => match m ρ h with
  | some (.ref l, h1) => match h1[l]? with
    | some (.lK kvs) => some (⟨keysN kvs, kvs.length⟩, h1)
    | _ => none
  | _ => none
theorem i_keys {tg l : Expr} {m : EI} (hl : PE X l (rE X.mg m)) : PI X tg l (iS X.mg (srcK m)) := PI.imp (pi_keys hl) fun σ H R ⟨w, ρ, h, s, h', S, E, e, b⟩ => by
  unfold srcK at e
  split at e
  · rename_i l0 h1 e1
    split at e
    · rename_i kvs q
      cases e
      refine ⟨w, ρ, h, _, h', S, E, e1, fun w1 H1 v l1 S1 r1 => ?_⟩
      cases r1 with
      | @ref _ p hp =>
        cases S1.cell _ p _ hp q with
        | @lK _ ks ob h2 h3 =>
          refine ⟨p, ob, rfl, .inl ⟨ks, (S1.lk p _ h2).1, b w1 H1 _ l1 S1 fun i w' H' h'' l S' => ?_⟩⟩
          have hf := (S'.lk p _ (by rw [l.lk]; exact h2)).1
          have rl := RelAk.length h3
          refine ⟨fun e2 => ?_, fun a e2 => ?_⟩
          · have e3 := Option.map_eq_none_iff.mp (Option.some.inj e2)
            exact ⟨hf, by rw [← rl]; exact List.getElem?_eq_none_iff.mp e3⟩
          · obtain ⟨pr, e3, rfl⟩ := Option.map_eq_some_iff.mp (Option.some.inj e2)
            have hi : i < ks.length := by rw [← rl]; exact (List.getElem?_eq_some_iff.mp e3).1
            refine ⟨⟨hf, hi⟩, fun y H'' ⟨z1, k, v, z2, z3⟩ => ?_⟩
            subst z1 z3
            have key := h3.keysA.get (i := i) (a := .d (keyD pr.1)) (by rw [List.getElem?_map, e3]; rfl)
            obtain ⟨v', z4, z5⟩ := key
            rw [List.getElem?_map, z2] at z4
            cases z4
            exact ⟨w', .rfl, S', z5.mono0 l⟩
    · cases e
  · cases e
end
end F2
set_option Elab.async false
set_option linter.all false
set_option maxRecDepth 100000
set_option maxHeartbeats 4000000
namespace F2
open PySem PySem.Spec PyProof.Rows L2
section
variable {X : Cx} {tg : Expr}
def allK {κ : Type} : List (κ × A) → Option (List (κ × D))
  | [] => some []
  | (f, .d x) :: r => (allK r).map ((f, x) :: ·)
  | (_, .ref _) :: _ => none
  | (_, .tp _) :: _ => none
theorem allK_rel {mg : Mg} {w : Wd} : ∀ {as : List (Key × A)} {ds : List (Key × D)} {vs : List (Key × V)}, allK as = some ds → RelAk mg w as vs → RelDk mg w.fz ds vs
  | [], _, _, e, r => by cases e; cases r; exact .nil
  | (f, .d x) :: as, ds, _, e, r => by
    cases r with
    | cons hr t =>
      cases hr with
      | d hd =>
        simp only [allK, Option.map_eq_some_iff] at e
        obtain ⟨es, e, rfl⟩ := e
        exact .cons hd (allK_rel e t)
  | (_, .ref _) :: _, _, _, e, _ => by cases e
  | (_, .tp _) :: _, _, _, e, _ => by cases e
/-- the turns of a dict comprehension -/
def dcGo (s : Src) (g : GI) (t : TI') (mk mv : EI) (ρ : En) : Nat → Nat → List (Key × A) → Hh → Option (List (Key × A) × Hh)
  | 0, i, acc, h => match s.nxt i h with
    | some none => some (acc, h)
    | _ => none
  | n + 1, i, acc, h => match s.nxt i h with
    | some none => some (acc, h)
    | some (some a) => match g a ρ h with
      | some (ρ1, h1) => match t ρ1 h1 with
        | some (true, h2) => match mk ρ1 h2 with
          | some (.d y, h3) => match keyOf y with
            | some k => match mv ρ1 h3 with
              | some (z, h4) => if acc.length < LIM then dcGo s g t mk mv ρ n (i + 1) (putG acc k z) h4 else none
              | none => none
            | none => none
          | _ => none
        | some (false, h2) => dcGo s g t mk mv ρ n (i + 1) acc h2
        | none => none
      | none => none
    | none => none
def mDc (it : SrcI) (g : GI) (t : TI') (mk mv : EI) (vs : List Nat) : EI := fun ρ h => match it ρ h with
  | some (s, h1) => match dcGo s g t mk mv (wipeE ρ vs) s.fuel 0 [] h1 with
    | some (acc, h2) => (allK acc).map fun ds => (.d (.dK ds), h2)
    | none => none
  | none => none
theorem dc_core' {it : SrcI} {g : GI} {t : TI'} {mk mv : EI} {vs : List Nat} {σ : L2.St} {H : Hp} {Q : VK} (q : rE X.mg (mDc it g t mk mv vs) σ H Q) :
    tDc (iS X.mg it) (rGw X.mg vs g) (rT X.mg t) (rE X.mg mk) (rE X.mg mv) vs σ H Q := by
  obtain ⟨w, ρ, h, a, h', S, E, e, b⟩ := q
  unfold mDc at e
  split at e
  · rename_i s h1 e1
    split at e
    · rename_i acc h2 e2
      refine ⟨w, ρ, h, s, h1, S, E, e1, fun w1 H1 J l1 S1 k => ?_⟩
      intro D hD
      have hlk : ∀ u, w1.lk D ≠ some u := fun u z => by
        have := (S1.lk D u z).1
        rw [hD] at this; cases this
      have how : w1.ow D = none := by
        cases z : w1.ow D with
        | none => rfl
        | some u =>
          have := (S1.ow D u z).1
          rw [hD] at this; cases this
      refine ⟨fun i n H => ∃ w2 hh ac av, (w1.own D (.dK av)).le w2 ∧ Sm X.mg w2 H hh ∧ RelAk X.mg w2 ac av ∧ dcGo s g t mk mv (wipeE ρ vs) n i ac hh = some (acc, h2), ⟨s.fuel, w1.own D (.dK []), h1, [], [], .rfl, S1.own hD, .nil, e2⟩, ?_⟩
      rintro i n H2 ⟨w2, hh, ac, av, l2, S2, r2, e3⟩
      have l02 : w1.le0 w2 := own_le0' l2.tole0
      have wD : w2.ow D = some (.dK av) := by rw [l2.ow]; show (if D = D then _ else _) = _; rw [if_pos rfl]
      have dlk : ∀ u, w2.lk D ≠ some u := fun u z => hlk u (by rw [← l02.lk]; exact z)
      obtain ⟨k1, k2⟩ := k i w2 H2 hh l02 S2
      have fin : (acc, h2) = (ac, hh) → Q (.ref D) H2 := fun z => by
        cases z
        have hf : ∀ a u, w1.ow a = some u → a ≠ D ∧ w2.ow a = some u := fun a u z => by
          have ne : a ≠ D := fun y => by rw [y, how] at z; cases z
          refine ⟨ne, ?_⟩
          rw [l2.ow]
          show (if a = D then _ else w1.ow a) = _
          rw [if_neg ne]; exact z
        obtain ⟨ds, hd, z⟩ := Option.map_eq_some_iff.mp e
        cases z
        have le0 : w2.le0 (w2.give w1.ow D (.dK av)) := ⟨fun a u q => by
          show (if a = D then _ else w2.fz a) = some u
          rw [if_neg (fun z => by rw [z, (S2.ow D _ wD).2.1] at q; cases q)]; exact q, Eq.refl _, fun _ _ h => h⟩
        refine b (w2.give w1.ow D (.dK av)) H2 _ ⟨(l1.tole0.trans l02).trans le0, l1.ow⟩ (S2.give wD hf (.inr True.intro)) (.d (.dK (ks := av) ?_ ((allK_rel hd (r2.mono0 le0)))))
        show (if D = D then _ else _) = _
        rw [if_pos rfl]
      cases n with
      | zero =>
        unfold dcGo at e3
        split at e3
        · rename_i z
          exact .inl ⟨k1 z, fin (Option.some.inj e3).symm⟩
        · cases e3
      | succ n =>
        unfold dcGo at e3
        split at e3
        · rename_i z
          exact .inl ⟨k1 z, fin (Option.some.inj e3).symm⟩
        · rename_i x z
          obtain ⟨k3, k4⟩ := k2 x z
          refine .inr ⟨k3, fun H' => ∃ w2 hh ac av, (w1.own D (.dK av)).le w2 ∧ Sm X.mg w2 H' hh ∧ RelAk X.mg w2 ac av ∧ dcGo s g t mk mv (wipeE ρ vs) n (i + 1) ac hh = some (acc, h2), fun H' q' => ⟨n, Nat.lt_succ_self n, q'⟩, fun xv H' y => ?_⟩
          obtain ⟨w3, l3, S3, r3⟩ := k4 xv H' y
          split at e3
          · rename_i ρ1 hh1 e4
            split at e3
            · rename_i hh2 e5
              split at e3
              · rename_i yy hh3 e6
                split at e3
                · rename_i kk ek
                  split at e3
                  · rename_i zz hh4 e7
                    split at e3
                    · rename_i hz
                      refine ⟨w3, wipeE ρ vs, hh, x, ρ1, hh1, S3, (E.mono l1).mono0 (l02.trans l3.tole0) |>.wipe vs, r3, e4, fun w4 H4 σ4 l4 S4 E4 z4 => ⟨by rw [z4]; exact wipe_wipe, w4, ρ1, hh1, true, hh2, S4, E4, e5, fun w5 H5 l5 S5 => iteT ⟨w5, ρ1, hh2, _, hh3, S5, E4.mono l5, e6, fun w6 H6 v6 l6 S6 r6 => ⟨w6, ρ1, hh3, zz, hh4, S6, (E4.mono l5).mono l6, e7, fun w7 H7 v7 l7 S7 r7 => ?_⟩⟩⟩⟩
                      have l27 : w2.le w7 := (((l3.trans l4).trans l5).trans l6).trans l7
                      have w7D : w7.ow D = some (.dK av) := by rw [l27.ow]; exact wD
                      have d7 : ∀ u, w7.lk D ≠ some u := fun u z => dlk u (by rw [← l27.lk]; exact z)
                      have ey : v6 = kV kk := by cases r6 with | d r6 => exact keyOf_rel r6 ek
                      refine ⟨av, kk, ey, (S7.ow D _ w7D).1, ?_, w7.own D (.dK (putK av kk v7)), hh4, putG ac kk zz, putK av kk v7, ⟨own_le0' (l2.trans l27).tole0 |>.trans own_le0 |> own_lift, ?_⟩, S7.rewrite w7D d7, RelAk.put (r7.mono0 own_le0) (r2.mono0 (l27.tole0.trans own_le0)), e3⟩
                      · rw [← RelAk.length r2]; exact lim_size1 (Nat.le_of_lt hz)
                      · funext a
                        show (if a = D then _ else w7.ow a) = (if a = D then _ else w1.ow a)
                        by_cases za : a = D
                        · rw [if_pos za, if_pos za]
                        · rw [if_neg za, if_neg za, l27.ow, l2.ow]
                          show (if a = D then _ else w1.ow a) = _
                          rw [if_neg za]
                    · cases e3
                  · cases e3
                · cases e3
              · cases e3
            · rename_i hh2 e5
              refine ⟨w3, wipeE ρ vs, hh, x, ρ1, hh1, S3, (E.mono l1).mono0 (l02.trans l3.tole0) |>.wipe vs, r3, e4, fun w4 H4 σ4 l4 S4 E4 z4 => ⟨by rw [z4]; exact wipe_wipe, w4, ρ1, hh1, false, hh2, S4, E4, e5, fun w5 H5 l5 S5 => iteF ?_⟩⟩
              have l25 : w2.le w5 := (l3.trans l4).trans l5
              exact ⟨w5, hh2, ac, av, l2.trans l25, S5, r2.mono l25, e3⟩
            · cases e3
          · cases e3
        · cases e3
    · cases e
  · cases e
theorem e_dc {kx vx tg iter : Expr} {ifs : List Expr} {scope : Scope} {own : List (Str × Nat)} {pos : Pos} {it : SrcI} {g : GI} {t : TI'} {mk mv : EI} (hc : X.calm = true) (hN : X.N.Nodup) (hi : PI X tg iter (iS X.mg it)) (ok : BlkOk X.N X.env.scope scope own)
    (hg : ∀ (s : Shared) (H : Hp) (C : Addr) (cl : List (Str × Addr)) (fp : List Addr), PG (X.blk s H scope (compEnvC scope cl C X.env) fp) tg (rGw X.mg (own.map (·.2)) g)) (ht : ∀ (s : Shared) (H : Hp) (C : Addr) (cl : List (Str × Addr)) (fp : List Addr), PTs (X.blk s H scope (compEnvC scope cl C X.env) fp) ifs (rT X.mg t))
    (hk : ∀ (s : Shared) (H : Hp) (C : Addr) (cl : List (Str × Addr)) (fp : List Addr), PE (X.blk s H scope (compEnvC scope cl C X.env) fp) kx (rE X.mg mk)) (he : ∀ (s : Shared) (H : Hp) (C : Addr) (cl : List (Str × Addr)) (fp : List Addr), PE (X.blk s H scope (compEnvC scope cl C X.env) fp) vx (rE X.mg mv)) (hs : ∀ x, foldedSetIterable iter X.env x = pure x := by intro _; rfl) :
    PE X (.DictComp kx vx [⟨tg, iter, ifs, 0⟩] scope pos) (rE X.mg (mDc it g t mk mv (own.map (·.2)))) :=
  PE.imp (pe_dc hc hN hi ok hg ht hk he hs) fun σ H Q q => dc_core' q
end
end F2
set_option Elab.async false
set_option linter.all false
set_option maxRecDepth 100000
set_option maxHeartbeats 4000000
namespace F2
open PySem PySem.Spec PyProof.Rows L2
section
variable {X : Cx} {tg : Expr}
/-- the turns of a comprehension with two clauses: the outer one -/
def lc2Go (s : Src) (g : GI) (t : TI') (it1 : SrcI) (g1 : GI) (t1 : TI') (m : EI) (vs1 : List Nat) (ρ : En) : Nat → Nat → List A → Hh → Option (List A × Hh)
  | 0, i, acc, h => match s.nxt i h with
    | some none => some (acc, h)
    | _ => none
  | n + 1, i, acc, h => match s.nxt i h with
    | some none => some (acc, h)
    | some (some a) => match g a ρ h with
      | some (ρ1, h1) => match t ρ1 h1 with
        | some (true, h2) => match it1 ρ1 h2 with
          | some (s1, h3) => match lcGo s1 g1 t1 m (wipeE ρ1 vs1) s1.fuel 0 acc h3 with
            | some (acc', h4) => lc2Go s g t it1 g1 t1 m vs1 ρ n (i + 1) acc' h4
            | none => none
          | none => none
        | some (false, h2) => lc2Go s g t it1 g1 t1 m vs1 ρ n (i + 1) acc h2
        | none => none
      | none => none
    | none => none
def mLc2 (cell : Bool) (it : SrcI) (g : GI) (t : TI') (it1 : SrcI) (g1 : GI) (t1 : TI') (m : EI) (vs vs1 : List Nat) : EI := fun ρ h => match it ρ h with
  | some (s, h1) => match lc2Go s g t it1 g1 t1 m vs1 (wipeE ρ vs) s.fuel 0 [] h1 with
    | some (acc, h2) => mkL cell acc h2
    | none => none
  | none => none
/-- the list being made at D, so far -/
def Mk2 (mg : Mg) (w1 : Wd) (D : Addr) (H : Hp) (hh : Hh) (ac : List A) : Prop := ∃ w2 av, (w1.own D (.lst av)).le w2 ∧ Sm mg w2 H hh ∧ RelAs mg w2 ac av
theorem lc2_core' {it it1 : SrcI} {g g1 : GI} {t t1 : TI'} {m : EI} {vs vs1 : List Nat} {cell : Bool} {σ : L2.St} {H : Hp} {Q : VK} (q : rE X.mg (mLc2 cell it g t it1 g1 t1 m vs vs1) σ H Q) :
    tLc2 (iS X.mg it) (rGw X.mg vs g) (rT X.mg t) (iS X.mg it1) (rGw X.mg vs1 g1) (rT X.mg t1) (rE X.mg m) vs vs1 σ H Q := by
  obtain ⟨w, ρ, h, a, h', S, E, e, b⟩ := q
  unfold mLc2 at e
  split at e
  · rename_i s h1 e1
    split at e
    · rename_i acc h2 e2
      refine ⟨w, ρ, h, s, h1, S, E, e1, fun w1 H1 J l1 S1 k => ?_⟩
      intro D hD
      have hlk : ∀ u, w1.lk D ≠ some u := fun u z => by
        have := (S1.lk D u z).1
        rw [hD] at this; cases this
      have how : w1.ow D = none := by
        cases z : w1.ow D with
        | none => rfl
        | some u =>
          have := (S1.ow D u z).1
          rw [hD] at this; cases this
      -- one more item
      have more : ∀ {w2 w6 : Wd} {H6 : Hp} {hh3 : Hh} {ac : List A} {av : List V} {yy : A} {v6 : V}, (w1.own D (.lst av)).le w2 → w2.le w6 → Sm X.mg w6 H6 hh3 → RelAs X.mg w2 ac av → RelA X.mg w6 yy v6 → ac.length < LIM →
          H6 D = some (.lst av) ∧ av.length < sizeLine ∧ Mk2 X.mg w1 D (upd H6 D (.lst (av ++ [v6]))) hh3 (ac ++ [yy]) := fun {w2 w6 H6 hh3 ac av yy v6} l2 l26 S6 r2 r6 hz => by
        have w2D : w2.ow D = some (.lst av) := by rw [l2.ow]; show (if D = D then _ else _) = _; rw [if_pos rfl]
        have w6D : w6.ow D = some (.lst av) := by rw [l26.ow]; exact w2D
        have d6 : ∀ u, w6.lk D ≠ some u := fun u z => hlk u (by rw [← (own_le0' (l2.trans l26).tole0).lk]; exact z)
        refine ⟨(S6.ow D _ w6D).1, by rw [← r2.length]; exact lim_size1 (Nat.le_of_lt hz), w6.own D (.lst (av ++ [v6])), av ++ [v6], ⟨own_le0' (l2.trans l26).tole0 |>.trans own_le0 |> own_lift, ?_⟩, S6.rewrite w6D d6, RelAs.append (r2.mono0 (l26.tole0.trans own_le0)) (.cons (r6.mono0 own_le0) .nil)⟩
        funext a
        show (if a = D then _ else w6.ow a) = (if a = D then _ else w1.ow a)
        by_cases za : a = D
        · rw [if_pos za, if_pos za]
        · rw [if_neg za, if_neg za, l26.ow, l2.ow]
          show (if a = D then _ else w1.ow a) = _
          rw [if_neg za]
      refine ⟨fun i n H => ∃ hh ac, Mk2 X.mg w1 D H hh ac ∧ lc2Go s g t it1 g1 t1 m vs1 (wipeE ρ vs) n i ac hh = some (acc, h2), ⟨s.fuel, h1, [], ⟨w1.own D (.lst []), [], .rfl, S1.own hD, .nil⟩, e2⟩, ?_⟩
      rintro i n H2 ⟨hh, ac, ⟨w2, av, l2, S2, r2⟩, e3⟩
      have l02 : w1.le0 w2 := own_le0' l2.tole0
      have wD : w2.ow D = some (.lst av) := by rw [l2.ow]; show (if D = D then _ else _) = _; rw [if_pos rfl]
      have dlk : ∀ u, w2.lk D ≠ some u := fun u z => hlk u (by rw [← l02.lk]; exact z)
      obtain ⟨k1, k2⟩ := k i w2 H2 hh l02 S2
      have fin : (acc, h2) = (ac, hh) → Q (.ref D) H2 := fun z => by
        cases z
        have hf : ∀ a u, w1.ow a = some u → a ≠ D ∧ w2.ow a = some u := fun a u z => by
          have ne : a ≠ D := fun y => by rw [y, how] at z; cases z
          refine ⟨ne, ?_⟩
          rw [l2.ow]
          show (if a = D then _ else w1.ow a) = _
          rw [if_neg ne]; exact z
        unfold mkL at e
        split at e
        · cases cell with
          | true =>
            rw [if_pos rfl] at e
            cases e
            have le0 : w2.le0 (w2.giveC w1.ow D) := ⟨FzLe.rfl, Eq.refl _, fun i y q => by
              show (w2.phi_ ++ [D])[i]? = some y
              rw [List.getElem?_append_left (List.getElem?_eq_some_iff.mp q).1]; exact q⟩
            refine b (w2.giveC w1.ow D) H2 _ ⟨(l1.tole0.trans l02).trans le0, l1.ow⟩ (S2.giveC wD hf dlk (.lst (S2.ow D _ wD).1 (r2.mono0 le0))) (.ref ?_)
            show (w2.phi_ ++ [D])[h2.length]? = some D
            rw [← S2.len]; simp
          | false =>
            rw [if_neg Bool.false_ne_true] at e
            obtain ⟨ds, hd, z⟩ := Option.map_eq_some_iff.mp e
            cases z
            have le0 : w2.le0 (w2.give w1.ow D (.lst av)) := ⟨fun a u q => by
              show (if a = D then _ else w2.fz a) = some u
              rw [if_neg (fun z => by rw [z, (S2.ow D _ wD).2.1] at q; cases q)]; exact q, Eq.refl _, fun _ _ h => h⟩
            refine b (w2.give w1.ow D (.lst av)) H2 _ ⟨(l1.tole0.trans l02).trans le0, l1.ow⟩ (S2.give wD hf (.inr True.intro)) (.d (.lst (vs := av) ?_ ((allD_rel hd r2).mono le0.fz)))
            show (if D = D then _ else _) = _
            rw [if_pos rfl]
        · cases e
      cases n with
      | zero =>
        unfold lc2Go at e3
        split at e3
        · rename_i z
          exact .inl ⟨k1 z, fin (Option.some.inj e3).symm⟩
        · cases e3
      | succ n =>
        unfold lc2Go at e3
        split at e3
        · rename_i z
          exact .inl ⟨k1 z, fin (Option.some.inj e3).symm⟩
        · rename_i x z
          obtain ⟨k3, k4⟩ := k2 x z
          refine .inr ⟨k3, fun H' => ∃ hh ac, Mk2 X.mg w1 D H' hh ac ∧ lc2Go s g t it1 g1 t1 m vs1 (wipeE ρ vs) n (i + 1) ac hh = some (acc, h2), fun H' q' => ⟨n, Nat.lt_succ_self n, q'⟩, fun xv H' y => ?_⟩
          obtain ⟨w3, l3, S3, r3⟩ := k4 xv H' y
          split at e3
          · rename_i ρ1 hh1 e4
            split at e3
            · rename_i hh2 e5
              split at e3
              · rename_i s1 hh3 e6
                split at e3
                · rename_i acc' hh4 e7
                  refine ⟨w3, wipeE ρ vs, hh, x, ρ1, hh1, S3, (E.mono l1).mono0 (l02.trans l3.tole0) |>.wipe vs, r3, e4, fun w4 H4 σ4 l4 S4 E4 z4 => ⟨by rw [z4]; exact wipe_wipe, w4, ρ1, hh1, true, hh2, S4, E4, e5, fun w5 H5 l5 S5 => iteT ⟨w5, ρ1, hh2, s1, hh3, S5, E4.mono l5, e6, fun w6 H6 J1 l6 S6 k6 => ?_⟩⟩⟩
                  have l26 : w2.le w6 := ((l3.trans l4).trans l5).trans l6
                  -- the inner loop
                  refine ⟨fun j kk H => ∃ hj aj wj vj, (w1.own D (.lst vj)).le wj ∧ w6.le0 wj ∧ Sm X.mg wj H hj ∧ RelAs X.mg wj aj vj ∧ lcGo s1 g1 t1 m (wipeE ρ1 vs1) kk j aj hj = some (acc', hh4), ⟨s1.fuel, hh3, ac, w6, av, l2.trans l26, Wd.le.rfl.tole0, S6, r2.mono l26, e7⟩, ?_⟩
                  rintro j kk Hj ⟨hj, aj, wj, vj, lj, l6j, Sj, rj, ej⟩
                  obtain ⟨kj1, kj2⟩ := k6 j wj Hj hj l6j Sj
                  have out : (acc', hh4) = (aj, hj) → ∃ hh ac, Mk2 X.mg w1 D Hj hh ac ∧ lc2Go s g t it1 g1 t1 m vs1 (wipeE ρ vs) n (i + 1) ac hh = some (acc, h2) := fun z => by
                    cases z
                    exact ⟨hh4, acc', ⟨wj, vj, lj, Sj, rj⟩, e3⟩
                  cases kk with
                  | zero =>
                    unfold lcGo at ej
                    split at ej
                    · rename_i z
                      exact .inl ⟨kj1 z, out (Option.some.inj ej).symm⟩
                    · cases ej
                  | succ kk =>
                    unfold lcGo at ej
                    split at ej
                    · rename_i z
                      exact .inl ⟨kj1 z, out (Option.some.inj ej).symm⟩
                    · rename_i xj zj
                      obtain ⟨kj3, kj4⟩ := kj2 xj zj
                      refine .inr ⟨kj3, fun H' => ∃ hj aj wj vj, (w1.own D (.lst vj)).le wj ∧ w6.le0 wj ∧ Sm X.mg wj H' hj ∧ RelAs X.mg wj aj vj ∧ lcGo s1 g1 t1 m (wipeE ρ1 vs1) kk (j + 1) aj hj = some (acc', hh4), fun H' q' => ⟨kk, Nat.lt_succ_self kk, q'⟩, fun xv1 H'1 y1 => ?_⟩
                      obtain ⟨wa, la, Sa, ra⟩ := kj4 xv1 H'1 y1
                      have Ea : EnvOk X.mg wa ρ1 σ4 := E4.mono0 (((l5.trans l6).tole0.trans l6j).trans la.tole0)
                      split at ej
                      · rename_i ρb hb1 e8
                        split at ej
                        · rename_i hb2 e9
                          split at ej
                          · rename_i yy hb3 e10
                            split at ej
                            · rename_i hz
                              refine ⟨wa, wipeE ρ1 vs1, hj, xj, ρb, hb1, Sa, Ea.wipe vs1, ra, e8, fun wb Hb σb lb Sb Eb zb => ⟨by rw [zb]; exact wipe_wipe, wb, ρb, hb1, true, hb2, Sb, Eb, e9, fun wc Hc lc Sc => iteT ⟨wc, ρb, hb2, yy, hb3, Sc, Eb.mono lc, e10, fun wd Hd vd ld Sd rd => ?_⟩⟩⟩
                              have ljd : wj.le wd := ((la.trans lb).trans lc).trans ld
                              obtain ⟨m1, m2, we, ve, le, Se, re⟩ := more lj ljd Sd rj rd hz
                              have wjD : wj.ow D = some (.lst vj) := by rw [lj.ow]; show (if D = D then _ else _) = _; rw [if_pos rfl]
                              have wdD : wd.ow D = some (.lst vj) := by rw [ljd.ow]; exact wjD
                              have dd : ∀ u, wd.lk D ≠ some u := fun u z => hlk u (by rw [← (own_le0' (lj.trans ljd).tole0).lk]; exact z)
                              refine ⟨vj, m1, m2, hb3, aj ++ [yy], wd.own D (.lst (vj ++ [vd])), vj ++ [vd], ⟨own_le0' (lj.trans ljd).tole0 |>.trans own_le0 |> own_lift, ?_⟩, (l6j.trans ljd.tole0).trans own_le0, Sd.rewrite wdD dd, RelAs.append (rj.mono0 (ljd.tole0.trans own_le0)) (.cons (rd.mono0 own_le0) .nil), ej⟩
                              funext a
                              show (if a = D then _ else wd.ow a) = (if a = D then _ else w1.ow a)
                              by_cases za : a = D
                              · rw [if_pos za, if_pos za]
                              · rw [if_neg za, if_neg za, ljd.ow, lj.ow]
                                show (if a = D then _ else w1.ow a) = _
                                rw [if_neg za]
                            · cases ej
                          · cases ej
                        · rename_i hb2 e9
                          refine ⟨wa, wipeE ρ1 vs1, hj, xj, ρb, hb1, Sa, Ea.wipe vs1, ra, e8, fun wb Hb σb lb Sb Eb zb => ⟨by rw [zb]; exact wipe_wipe, wb, ρb, hb1, false, hb2, Sb, Eb, e9, fun wc Hc lc Sc => iteF ?_⟩⟩
                          have ljc : wj.le wc := (la.trans lb).trans lc
                          exact ⟨hb2, aj, wc, vj, lj.trans ljc, l6j.trans ljc.tole0, Sc, rj.mono ljc, ej⟩
                        · cases ej
                      · cases ej
                    · cases ej
                · cases e3
              · cases e3
            · rename_i hh2 e5
              refine ⟨w3, wipeE ρ vs, hh, x, ρ1, hh1, S3, (E.mono l1).mono0 (l02.trans l3.tole0) |>.wipe vs, r3, e4, fun w4 H4 σ4 l4 S4 E4 z4 => ⟨by rw [z4]; exact wipe_wipe, w4, ρ1, hh1, false, hh2, S4, E4, e5, fun w5 H5 l5 S5 => iteF ?_⟩⟩
              have l25 : w2.le w5 := (l3.trans l4).trans l5
              exact ⟨hh2, ac, ⟨w5, av, l2.trans l25, S5, r2.mono l25⟩, e3⟩
            · cases e3
          · cases e3
        · cases e3
    · cases e
  · cases e
theorem e_lc2 (cell : Bool) {elt tg iter tg1 iter1 : Expr} {ifs ifs1 : List Expr} {scope : Scope} {own : List (Str × Nat)} {vs1 : List Nat} {pos : Pos} {it it1 : SrcI} {g g1 : GI} {t t1 : TI'} {m : EI} (hc : X.calm = true) (hN : X.N.Nodup) (hi : PI X tg iter (iS X.mg it)) (ok : BlkOk X.N X.env.scope scope own) (hv : ∀ i ∈ vs1, i ∈ own.map (·.2))
    (hg : ∀ (s : Shared) (H : Hp) (C : Addr) (cl : List (Str × Addr)) (fp : List Addr), PG (X.blk s H scope (compEnvC scope cl C X.env) fp) tg (rGw X.mg (own.map (·.2)) g)) (ht : ∀ (s : Shared) (H : Hp) (C : Addr) (cl : List (Str × Addr)) (fp : List Addr), PTs (X.blk s H scope (compEnvC scope cl C X.env) fp) ifs (rT X.mg t))
    (hi1 : ∀ (s : Shared) (H : Hp) (C : Addr) (cl : List (Str × Addr)) (fp : List Addr), PI (X.blk s H scope (compEnvC scope cl C X.env) fp) tg1 iter1 (iS X.mg it1))
    (hg1 : ∀ (s : Shared) (H : Hp) (C : Addr) (cl : List (Str × Addr)) (fp : List Addr), PG (X.blk s H scope (compEnvC scope cl C X.env) fp) tg1 (rGw X.mg vs1 g1)) (ht1 : ∀ (s : Shared) (H : Hp) (C : Addr) (cl : List (Str × Addr)) (fp : List Addr), PTs (X.blk s H scope (compEnvC scope cl C X.env) fp) ifs1 (rT X.mg t1))
    (he : ∀ (s : Shared) (H : Hp) (C : Addr) (cl : List (Str × Addr)) (fp : List Addr), PE (X.blk s H scope (compEnvC scope cl C X.env) fp) elt (rE X.mg m)) (hs : ∀ x, foldedSetIterable iter X.env x = pure x := by intro _; rfl) (hs1 : ∀ env x, foldedSetIterable iter1 env x = pure x := by intro _ _; rfl) :
    PE X (.ListComp elt [⟨tg, iter, ifs, 0⟩, ⟨tg1, iter1, ifs1, 0⟩] scope pos) (rE X.mg (mLc2 cell it g t it1 g1 t1 m (own.map (·.2)) vs1)) :=
  PE.imp (pe_lc2 hc hN hi ok hv hg ht hi1 hg1 ht1 he hs hs1) fun σ H Q q => lc2_core' q
end
end F2
set_option Elab.async false
set_option linter.all false
set_option maxRecDepth 100000
set_option maxHeartbeats 4000000
namespace F2
open PySem PySem.Spec PyProof.Rows L2
section
variable {X : Cx} {pins : List (Addr × Obj)} {σ : L2.St} {H : Hp} {s : Shared}
/-- all but the frame stands as it stood, and one new object more -/
theorem Inv.newN {h' : Heap} {tk : Nat} {D : Addr} {o : HO} (I : L2.Inv X pins σ H s) (k : ∀ b u, b ≠ X.env.locals → s.heap.get? b = some u → h'.get? b = some u) (ns : ∀ m, s.heap.Ns X.env.locals m → h'.Ns X.env.locals m) (hD : s.heap.get? D = none) (hL : D ≠ X.env.locals) (hn : H D = none)
    (new : ObjOk X.prog X.w (upd H D o) h' D o) : L2.Inv X pins σ (upd H D o) { s with heap := h', toks := tk } := by
  have ne : ∀ b u, s.heap.get? b = some u → b ≠ D := fun b u e z => by rw [z, hD] at e; cases e
  have nL : ∀ b u, H b = some u → b ≠ X.env.locals := fun b u e z => by rw [z, I.free] at e; cases e
  have there : ∀ b u, s.heap.get? b = some u → ∃ u', h'.get? b = some u' := fun b u e => by
    by_cases z : b = X.env.locals
    · obtain ⟨m, hm, _⟩ := I.loc
      obtain ⟨o2, _, _, h2, _⟩ := ns m hm
      exact ⟨o2, by rw [z]; exact h2⟩
    · exact ⟨u, k b u z e⟩
  refine I.step (g' := s.gens) (d' := s.drawn) (ch := []) (fun _ z => nomatch z) (fun b u z _ _ e _ => k b u z e) (fun b u z _ _ e _ => ⟨u.slots, k b u z e⟩) (fun b u _ e n => by rw [upd_ne (ne b u e)]; exact n) (fun b u _ e => there b u e)
    (fun b xs e => by rw [upd_ne (ne_of_none e hn)]; exact e) (fun b u v e => by rw [upd_ne (ne_of_none e hn)]; exact e) (fun b ps e => ⟨#[], by rw [upd_ne (ne_of_none e hn), e]; simp⟩) ns (fun b u e => ?_) I.bare
  by_cases z : b = D
  · subst z
    rw [upd_same] at e; cases e
    exact new
  · rw [upd_ne z] at e
    refine (I.hok b u e).stay (fun c v hc q => k c v ?_ q) (fun c q => by rw [upd_ne (ne_of_none q hn)]; exact q) fun c xs q => by rw [upd_ne (ne_of_none q hn)]; exact q
    rcases hc with y | y
    · rw [y]; exact nL b u e
    · exact nL c _ y
end
section
variable {X : Cx}
/-- a, *b = a list: the first, a new list of the others -/
def gStar1 (g1 g2 : GI) : GI := fun a ρ h => match itemsL a h with
  | some (x :: xs) => if xs.length < 16384 then match g1 x ρ h with
    | some (ρ1, h1) => match mkL false xs h1 with
      | some (y, h2) => g2 y ρ1 h2
      | none => none
    | none => none
    else none
  | _ => none
theorem g_star1 {e1 e2 : Expr} {k : Nat} {p1 pos : Pos} {i j : Nat} (hc : X.calm = true) (h1 : PG X e1 (gName i)) (h2 : PG X e2 (gName j))
    (hlen : (assignEach [e1, .Starred e2 p1] X.env).length = 2 := by rfl) (hstar : (assignEach [e1, .Starred e2 p1] X.env).findIdx? (·.1) = some 1 := by rfl) (hs : (assignEach [e1, .Starred e2 p1] X.env).map (·.2) = [assign e1 X.env, assign e2 X.env] := by rfl) :
    PG X (.Tuple [e1, .Starred e2 p1] k pos) (rG X.mg (gStar1 (gN i) (gN j))) := by
  refine ⟨fun pins s σ H v u Q I r ⟨w, ρ, h, a, ρ', h', S, E, ra, e, b⟩ => ?_⟩
  unfold gStar1 at e
  split at e
  · rename_i x xs ex
    split at e
    · rename_i hz
      obtain ⟨p, vs, rfl, hp, rp⟩ := itemsL_rel S ra ex
      cases r
      obtain ⟨its, rv, pl, hsz⟩ := I.list (SqL.of hp)
      cases rp with
      | @cons _ vx _ vr rx rt =>
        cases rv with
        | @cons _ ux _ ur rvx rvt =>
          obtain ⟨m, F⟩ := I.fr
          have hu : ur.length < 16384 := by rw [← rvt.length, ← rt.length]; exact hz
          refine PySem.W.kun_assignL (first := [ux]) (mids := ur) (lasts := []) F news_all pl.isList (I.ok.hd hc) hlen hstar (by decide) (by simp) (by simp only [List.size_toArray, List.length_cons]; omega) (by simp) (by simp) (by simp) fun D h2' tk F' N' above => ?_
          have hL : D ≠ X.env.locals := (N' (D, _) List.mem_cons_self).2.1
          have gN' : ∀ b o, b ≠ X.env.locals → s.heap.get? b = some o → h2'.get? b = some o := fun b o z e => by
            cases q : X.base.get? b with
            | some y =>
              have := I.bk b y q
              rw [e] at this; cases this
              exact F'.keep b _ q
            | none => exact (N' (b, o) (List.mem_cons_of_mem _ (mem_allNews z q e))).1
          have hD : s.heap.get? D = none := by
            cases q : s.heap.get? D with
            | none => rfl
            | some o => exact absurd (above (D, o) (mem_allNews hL (N' (D, _) List.mem_cons_self).2.2 q)) (Nat.lt_irrefl _)
          have hn : H D = none := I.hok.gone hD
          have fit : vr.length ≤ sizeLine := by rw [rvt.length]; rw [sizeLine_eq]; omega
          have J : L2.Inv X pins σ (upd H D (.lst vr)) { s with heap := h2', toks := tk } := Inv.newN I gN' (fun m' hm => by
            rw [show m' = m from (Heap.Ns.eq_nsMap hm).trans (Heap.Ns.eq_nsMap F.ns).symm]; exact F'.ns) hD hL hn ⟨fit, ur, 0, rvt, (N' (D, _) List.mem_cons_self).1⟩
          rw [hs]
          show wpAny _ _ (assignInOrder [assign e1 X.env, assign e2 X.env] [ux, .ref D]) _ _ _
          dsimp only [gN] at e
          split at e
          · rename_i y h3 e3
            cases e
            have S2 : Bh X.mg w h' y (fun v2 H2 => Q ((σ.set i (some vx)).set j (some v2)) H2) := fun w3 H3 v3 l3 S3 r3 => b w3 H3 _ l3 S3 (((E.mono l3).set (rx.mono l3)).set r3)
            have q2 := (mkL_ok S rt e3 S2).2 D hn
            refine assignInOrder_cons (thn (h1.run pins _ σ (upd H D (.lst vr)) vx ux (fun σ1 H1 => σ1 = σ.set i (some vx) ∧ H1 = upd H D (.lst vr)) J rvx ⟨rfl, rfl⟩) fun _ s3 ⟨σ1, H1, I1, z1, z2⟩ => ?_)
            subst z1 z2
            refine assignInOrder_cons (thn (h2.run pins s3 _ (upd H D (.lst vr)) (.ref D) (.ref D) Q I1 rfl q2) fun _ s4 ⟨σ2, H2, I2, q3⟩ => ?_)
            exact assignInOrder_nil ⟨σ2, H2, I2, q3⟩
          · cases e
    · cases e
  · cases e
end
end F2
set_option Elab.async false
set_option linter.all false
set_option maxRecDepth 100000
set_option maxHeartbeats 4000000
namespace F2
open PySem PySem.Spec PyProof.Rows L2
/-! ### isinstance -/
/-- the built-in type of data, of a cell -/
def tyName : A → Hh → Option String
  | .d .non, _ => some "NoneType"
  | .d (.bl _), _ => some "bool"
  | .d (.int _), _ => some "int"
  | .d (.str _), _ => some "str"
  | .d (.tup _), _ => some "tuple"
  | .d (.tupN _), _ => some "tuple"
  | .tp _, _ => some "tuple"
  | .d (.lst _), _ => some "list"
  | .d (.dK _), _ => some "dict"
  | .ref l, h => match h[l]? with
    | some (.lst _) => some "list"
    | some (.dK _) => some "dict"
    | some (.dT _) => some "dict"
    | _ => none
  | _, _ => none
theorem tyName_rel {mg : Mg} {w : Wd} {H : Hp} {h : Hh} {K : PySem.W.Frag} (S : Sm mg w H h) {x : A} {v : V} {T : String} (r : RelA mg w x v) (e : tyName x h = some T) : TyX K H v (.type T) := by
  cases r with
  | d hd =>
    cases hd with
    | non => cases e; exact .base .non
    | bl b => cases e; exact .base (.bl b)
    | int i => cases e; exact .base (.int i)
    | str y => cases e; exact .base (.str y)
    | tup q _ => cases e; exact .base (.tup (S.st _ _ q True.intro))
    | tupN q _ _ _ => cases e; exact .fTuple (S.st _ _ q True.intro)
    | lst q _ => cases e; exact .base (.lst (S.st _ _ q True.intro))
    | dK q _ =>
      cases e
      rcases S.fz _ _ q with z | ⟨ob, z⟩
      · exact .base (.dK z)
      · exact .fDict z
    | _ => cases e
  | @ref l a hl =>
    simp only [tyName] at e
    split at e
    · rename_i ys q
      cases e
      cases S.cell l a _ hl q with
      | lst h1 _ => exact .base (.lst h1)
    · rename_i ys q
      cases e
      cases S.cell l a _ hl q with
      | dK h1 _ => exact .base (.dK h1)
    · rename_i ys q
      cases e
      cases S.cell l a _ hl q with
      | dT h1 _ => exact .base (.dT h1)
    · cases e
  | tp q _ => cases e; exact .base (.tup (S.st _ _ q True.intro))
/-- what a class must say, so that isinstance asks its instances rightly -/
structure InsT (K : PySem.W.Frag) (C : Addr) : Prop where
  cl : Cls K C
  ha : PySem.W.findIn K (.ref C) "__class__" = some (some (.builtin "object.__class__"))
  hn : PySem.W.specialIn K (.builtin "object.__class__") "__get__" = some (some (.builtin "getset_descriptor.__get__"))
  ht : PySem.W.takesIn K (.builtin "object.__class__") = some true
  hm : PySem.W.mroIn K C (.type "object") = some true
section
variable {X : Cx}
def mIsi (T : String) (m : EI) : EI := fun ρ h => match m ρ h with
  | some (x, h1) => match tyName x h1 with
    | some t => (kitB t T).map fun b => (.d (.bl b), h1)
    | none => none
  | none => none
/-- isinstance(e, T), T built-in -/
theorem e_isi (T : String) {e : Expr} {m : EI} {x : Str} {p p2 pos : Pos} (hm : X.mg "isinstance" = none) (hx : X.mg x = none) (he : PE X e (rE X.mg m)) (hv : bootBuiltins x = some (.type T) := by decide +kernel) (hg : Gl X "isinstance" := by rfl) (hgx : Gl X x := by rfl) (hn : x ≠ "__name__" := by decide) (hdb : (x == ("__debug__" : Str)) = false := by decide)
    (h1 : starEach [e, .Name x p2] X.env = (false, eval e X.env) :: starEach [.Name x p2] X.env := by rfl) (h2 : starEach [.Name x p2] X.env = (false, eval (.Name x p2) X.env) :: starEach [] X.env := by rfl) (hpl : (backTo pos (starEach [.Name x p2] X.env)).any (·.1) = false := by rfl) :
    PE X (.Call (.Name "isinstance" p) [e, .Name x p2] [] pos) (rE X.mg (mIsi T m)) :=
  PE.imp (pe_callB call_isi hg hm (by decide +kernel) (pa_cons he (pa_cons (pe_bltn (v := .ty T) hgx hx hv rfl hn hdb) pa_nil h2) h1) (he := h1) (hpl := hpl)) fun σ H Q ⟨w, ρ, h, a, h', S, E, e, b⟩ => by
    unfold mIsi at e
    split at e
    · rename_i y h1 e1
      split at e
      · rename_i t et
        obtain ⟨k, hk, z⟩ := Option.map_eq_some_iff.mp e
        cases z
        exact ⟨w, ρ, h, y, h', S, E, e1, fun w1 H1 v l1 S1 r1 => ⟨v, .ty T, .type t, .type T, k, rfl, .ty T, tyName_rel S1 r1 et, kit_ty hk, b w1 H1 _ l1 S1 (.d (.bl _))⟩⟩
      · cases e
    · cases e
def mIsC (c : Str) (m : EI) : EI := fun ρ h => match m ρ h with
  | some (x, h1) => match fieldsOf c x h1 with
    | some _ => some (.d (.bl true), h1)
    | none => match tyName x h1 with
      | some _ => some (.d (.bl false), h1)
      | none => none
  | none => none
/-- isinstance(e, C), C a class of the text -/
theorem e_isC (c : Str) {C : Addr} {e : Expr} {m : EI} {p p2 pos : Pos} (hC : X.mg c = some (.ref C)) (I : InsT X.K C) (hs : PySem.W.kitOne X.K (.ref C) (.ref C) = some true) (hno : ∀ T : String, PySem.W.kitOne X.K (.type T) (.ref C) = some false ∨ T ∉ ["NoneType", "bool", "int", "str", "tuple", "list", "dict"]) (hm : X.mg "isinstance" = none) (he : PE X e (rE X.mg m)) (hg : Gl X "isinstance" := by rfl) (hgx : Gl X c := by rfl) (hdb : (c == ("__debug__" : Str)) = false := by decide)
    (h1 : starEach [e, .Name c p2] X.env = (false, eval e X.env) :: starEach [.Name c p2] X.env := by rfl) (h2 : starEach [.Name c p2] X.env = (false, eval (.Name c p2) X.env) :: starEach [] X.env := by rfl) (hpl : (backTo pos (starEach [.Name c p2] X.env)).any (·.1) = false := by rfl) :
    PE X (.Call (.Name "isinstance" p) [e, .Name c p2] [] pos) (rE X.mg (mIsC c m)) :=
  PE.imp (pe_callB call_isi hg hm (by decide +kernel) (pa_cons he (pa_cons (pe_glob (v := .ref C) hgx hC rfl hdb) pa_nil h2) h1) (he := h1) (hpl := hpl)) fun σ H Q ⟨w, ρ, h, a, h', S, E, e, b⟩ => by
    unfold mIsC at e
    split at e
    · rename_i y h1 e1
      refine ⟨w, ρ, h, y, h1, S, E, e1, fun w1 H1 v l1 S1 r1 => ?_⟩
      split at e
      · rename_i fs ef
        cases e
        obtain ⟨q, dx, gs, rfl, hq, rf⟩ := fieldsOf_rel S1 hC r1 ef
        exact ⟨.ref q, .ref C, .ref C, .ref C, true, rfl, .own C, .base (.ins hq I.cl I.ha I.hn I.ht I.hm), hs, b w1 H1 _ l1 S1 (.d (.bl _))⟩
      · split at e
        · rename_i t et
          cases e
          have hk : PySem.W.kitOne X.K (.type t) (.ref C) = some false := by
            rcases hno t with z | z
            · exact z
            · refine absurd ?_ z
              unfold tyName at et
              split at et <;> first | (cases et; decide) | (split at et <;> first | (cases et; decide) | cases et) | cases et
          exact ⟨v, .ref C, .type t, .ref C, false, rfl, .own C, tyName_rel S1 r1 et, hk, b w1 H1 _ l1 S1 (.d (.bl _))⟩
        · cases e
    · cases e
/-! ### x != y, x == y of instances with an own == -/
structure EqNe (K : PySem.W.Frag) (C f : Addr) : Prop where
  lk : ∃ nm q N bs hdct sn sub ab col dd k0 k1 k2 k3 k5 newId of, K.lookup C = some (excClassObj nm q C N bs [.type "object"] hdct sn sub ab col dd k0 k1 k2 k3 k5 newId) ∧ PySem.W.nsOkIn K N = true ∧
    PySem.W.nsIn K N "__eq__" = some (some (.ref f)) ∧ PySem.W.nsIn K N "__ne__" = some none ∧ K.lookup f = some of ∧ of.cls = .type "function"
def fNeC (c : Str) (F : FnI) : A → A → Hh → Option (A × Hh) := fun x y h => match fieldsOf c x h, fieldsOf c y h with
  | some _, some _ => match F [x, y] h with
    | some (.d (.bl b), h') => some (.d (.bl !b), h')
    | _ => none
  | _, _ => none
theorem nsMap_of_in {K : PySem.W.Frag} {h : Heap} {N : Addr} {x : Str} {v : Value} (X : K.In h) (e : PySem.W.nsOkIn K N = true) (q : PySem.W.nsIn K N x = some (some v)) : h.nsMap N x = some v := by
  have G : h.Ns N (h.nsMap N) := .of_isNs (PySem.W.isNs_of_in X e)
  obtain ⟨o, es, n, ho, hd, hk, hf⟩ := G
  unfold PySem.W.nsIn at q
  split at q
  · rename_i o' hl
    have e2 := X _ _ hl
    rw [ho] at e2; cases e2
    rw [← hf]
    cases hd
    first
    | (split at q
       · rename_i y hy
         cases q
         unfold nsFind findBy
         rw [← Array.find?_toList, hy]
         rfl
       · split at q <;> cases q)
  · cases q
end
end F2
set_option Elab.async false
set_option linter.all false
set_option maxRecDepth 100000
set_option maxHeartbeats 4000000
namespace F2
open PySem PySem.Spec PyProof.Rows L2
section
variable {X : Cx}
/-- x != y by an own == -/
theorem o_neC (c : Str) {C f : Addr} {fd : FuncData} {ps : List Str} {F : FnI} {k : Nat} (hC : X.mg c = some (.ref C)) (Q0 : EqNe X.K C f) (G : Ok X.prog X.w X.K X.mg X.base k f fd ps F) (h2 : ps.length = 2) (hr : Room (k + 1) X.A) (hb : Binds X.K fd ps []) : OpI X (compareOp .NotEq) (fNeC c F) := by
  intro pins s σ H vx vy v u Q I rx ry ⟨w, h, x, y, a, h', S, r1, r2, e, b⟩
  unfold fNeC at e
  split at e
  · rename_i fs gs ef eg
    split at e
    · rename_i b0 h1 eF
      cases e
      obtain ⟨p, dx, us, rfl, hp, rf⟩ := fieldsOf_rel S hC r1 ef
      obtain ⟨q, dy, ws, rfl, hq, rg⟩ := fieldsOf_rel S hC r2 eg
      cases rx
      cases ry
      obtain ⟨mA, J, _⟩ := ins_get I.hok hp
      obtain ⟨mB, J', _⟩ := ins_get I.hok hq
      obtain ⟨nm, qq, N, bs, hdct, sn, sub, ab, col, dd, k0, k1, k2, k3, k5, newId, of, hl, hns, heq, hne, hlf, hft⟩ := Q0.lk
      have KI := I.kIn
      have XE : s.heap.OwnEqNoNe p C f "object" [.type "object"] :=
        ⟨_, of, nm, qq, N, bs, hdct, sn, sub, ab, col, dd, k0, k1, k2, k3, k5, newId, _, _, J.obj, rfl, KI _ _ hl, PySem.W.isNs_of_in KI hns |> Heap.Ns.of_isNs, nsMap_of_in KI hns heq, KI _ _ hlf, hft, PySem.F.mro_object, rfl, PySem.W.nsMap_none_of_in KI hns hne⟩
      have hsp : spI X.mg ps.length F [.ref p, .ref q] H (fun v H' => ∃ bb, v = .bl bb ∧ Q (.bl !bb) H') E0 := ⟨by rw [h2]; rfl, w, h, [x, y], .d (.bl b0), _, S, .cons r1 (.cons r2 .nil), eF, fun w1 H1 v1 l1 S1 r3 => ⟨b0, relbl r3, b w1 H1 _ l1 S1 (.d (.bl _))⟩⟩
      have e0 : Env0 X.prog X.w X.K X.mg X.base X.A.in1 X.stack s H := I.env0.in1
      have rr : Vals [V.ref p, V.ref q] [Value.ref p, Value.ref q] := .cons rfl (.cons rfl .nil)
      have hcall : wpAny (model X.prog X.w) X.A.in1 (call (.ref f) [.ref p, .ref q]) (fun v s' => ∃ bb, v = .bool bb ∧ EP X pins σ Q (.bool (!bb)) s') X.xe s := by
        refine wpAny_call (codeAny_mono (G.run X.A.in1 X.stack s H ⟨[.ref p, .ref q], []⟩ [.ref p, .ref q] [.ref p, .ref q] _ E0 hr.in1 e0 (by
          have := hb s [.ref p, .ref q] I.kIn (by simpa using h2.symm)
          simpa using this) rr hsp) fun r s' hq => ?_)
        cases r with
        | error e => exact pass0 pins σ H s e s' I hq
        | ok fl =>
          cases fl with
          | ret w =>
            obtain ⟨z, H', I', rz, bb, ez, qq⟩ := I.after hq
            subst ez
            cases rz
            exact ⟨bb, rfl, .bl (!bb), H', I', rfl, qq⟩
          | next => exact False.elim hq
          | brk => exact False.elim hq
          | cont => exact False.elim hq
      obtain ⟨hh, g, d, tk, os⟩ := s
      exact compareOp_ne_ownEq PySem.F.cmp_object XE J'.obj rfl (by have := hr.un; omega) hcall
    · cases e
  · cases e
/-- text * int -/
def fMulS : A → A → Hh → Option (A × Hh)
  | .d (.str x), .d (.int n), h => if 2 ≤ n ∧ n < 64 ∧ x.length ≠ 0 ∧ x.length ≤ 100000 then some (.d (.str ⟨(List.replicate n.toNat x.cps).foldl (· ++ ·) #[]⟩), h) else none
  | _, _, _ => none
theorem o_mulS : OpI X (binaryOp .Mult) fMulS := by
  intro pins s σ H vx vy v u Q I rx ry ⟨w, h, x, y, a, h', S, r1, r2, e, b⟩
  unfold fMulS at e
  split at e
  · rename_i z n
    split at e
    · rename_i c
      obtain ⟨c1, c2, c3, c4⟩ := c
      cases e
      have e1 := relstr r1
      have e2 := relint r2
      subst e1 e2
      obtain ⟨t, rfl⟩ := rx
      obtain ⟨t', rfl⟩ := ry
      have hm : z.length * n.toNat ≤ 100000 * 64 := Nat.mul_le_mul c4 (by omega)
      have c5 : ¬ n < 1 := by omega
      have c6 : (n == 1 || z.length == 0) = false := by
        rw [Bool.or_eq_false_iff]
        exact ⟨by simp; omega, by simpa using c3⟩
      refine PySem.P.mul_str (by rw [decide_eq_false (by omega), decide_eq_false (by omega)]; rfl) (fun _ _ => ?_) (fun _ _ => ?_) ?_
      · intro q
        have q0 : (2 ^ 63 - 1) / n < (z.length : Int) := q
        have q1 := (Int.ediv_lt_iff_lt_mul (by omega : 0 < n)).mp q0
        have q2 : (z.length : Int) ≤ 100000 := Int.ofNat_le.mpr c4
        have q3 : (z.length : Int) * n ≤ 100000 * 64 := Int.mul_le_mul q2 (by omega) (by omega) (by omega)
        omega
      · have q1 : ¬ z.length * n.toNat > 2 ^ 24 := by omega
        simpa [Builtin.Str.tooLong, sizeLine] using q1
      · rw [if_neg c5, if_neg (by rw [c6]; exact Bool.false_ne_true)]
        refine ⟨fits_reps ?_, ?_⟩
        · have q1 : ¬ z.length * n.toNat > 2 ^ 24 := by omega
          simpa [Builtin.Str.tooLong, sizeLine] using q1
        · exact ⟨.str _, H, I.tok _, ⟨_, rfl⟩, b w H _ .rfl S (.d (.str _))⟩
    · cases e
  · cases e
/-- del xs[i] -/
def mDelL (mo mi : EI) : SI := fun ρ h => match mo ρ h with
  | some (.ref l, h1) => match mi ρ h1 with
    | some (.d (.int i), h2) => match h2[l]? with
      | some (.lst xs) => if -(2 ^ 63) ≤ i ∧ i < 2 ^ 63 then match seqIndex? i xs.length with
        | some k => some (.nx ρ (h2.set l (.lst (xs.eraseIdx k))))
        | none => none
        else none
      | _ => none
    | _ => none
  | _ => none
theorem s_del {o i : Expr} {mo mi : EI} {tpos pos : Pos} (ho : PE X o (rE X.mg mo)) (hi : PE X i (rE X.mg mi)) : PS X (.Delete [.Subscript o i tpos] pos) (rS X.mg (mDelL mo mi)) := PS.imp (ps_delL ho hi) fun D σ H ⟨w, ρ, h, oo, S, E, e, bb⟩ => by
  unfold mDelL at e
  split at e
  · rename_i l h1 e1
    split at e
    · rename_i j h2 e2
      split at e
      · rename_i xs q
        split at e
        · rename_i hz
          split at e
          · rename_i k ek
            cases e
            refine ⟨w, ρ, h, _, h1, S, E, e1, fun w1 H1 vo l1 S1 r1 => ⟨w1, ρ, h1, _, h2, S1, E.mono l1, e2, fun w2 H2 vi l2 S2 r2 => ?_⟩⟩
            have r1' := r1.mono l2
            rw [relint r2]
            cases r1' with
            | @ref _ p hp =>
              cases S2.cell l p _ hp q with
              | @lst _ us h3 h4 =>
                refine ⟨p, us, j, k, rfl, rfl, h3, hz.1, hz.2, by rw [← h4.length]; exact ek, ?_⟩
                exact bb w2 _ σ (l1.trans l2) (S2.write hp (fun o z => by rw [q] at z; cases z; exact True.intro) (.lst upd_same (h4.erase k))) (E.mono (l1.trans l2))
          · cases e
        · cases e
      · cases e
    · cases e
  · cases e
/-- t.index(x) of a tuple of texts -/
def dtxts : List D → Option (List Str)
  | [] => some []
  | .str b :: r => (dtxts r).map (b :: ·)
  | _ => none
theorem dtxts_rel {mg : Mg} {f : Fz} : ∀ {as : List D} {vs : List V} {bs : List Str}, RelDs mg f as vs → dtxts as = some bs → vs = bs.map V.str
  | _, _, _, .nil, e => by cases e; rfl
  | a :: as, _, bs, .cons h t, e => by
    unfold dtxts at e
    split at e
    · rename_i q; cases q
    · rename_i b r q
      cases q
      obtain ⟨cs, h1, rfl⟩ := Option.map_eq_some_iff.mp e
      cases h
      rw [dtxts_rel t h1]; rfl
    · cases e
def fTIndex : A → List A → Hh → Option (A × Hh)
  | .d (.tupN xs), [.d (.str z)], h => match dtxts xs with
    | some ys => (ys.idxOf? z).map fun j => (.d (.int (j : Nat)), h)
    | none => none
  | _, _, _ => none
theorem m_tindex : MetI X "tuple.index" fTIndex := MetI.of mt_tup_index fun w H h x v xs vs a h' Q S r1 r2 e b => by
  unfold fTIndex at e
  split at e
  · rename_i ts z
    split at e
    · rename_i ys ey
      obtain ⟨j, hj, q⟩ := Option.map_eq_some_iff.mp e
      cases q
      obtain ⟨u, rfl, ru⟩ := rel1 r2
      cases r1 with
      | d r1 =>
        cases r1 with
        | @tupN p _ us _ q _ _ rs =>
          refine ⟨p, ys, z, j, rfl, by rw [relstr ru], by rw [← dtxts_rel rs ey]; exact .inl (.inr ⟨_, S.st _ _ q True.intro⟩), ?_, ?_, b w H _ .rfl S (.d (.int _))⟩
          · obtain ⟨hlt, q1, q2⟩ := List.idxOf?_eq_some_iff.mp hj
            rw [List.getElem?_eq_getElem hlt, q1]
          · intro m hm e3
            obtain ⟨hlt, q1, q2⟩ := List.idxOf?_eq_some_iff.mp hj
            obtain ⟨hlt2, q3⟩ := List.getElem?_eq_some_iff.mp e3
            exact q2 m hm q3
    · cases e
  · cases e
/-- a method of a tuple whose object is known -/
def mMetN (F : A → List A → Hh → Option (A × Hh)) (o : EI) (r : AI) : EI := fun ρ h => match o ρ h with
  | some (.d (.tupN ts), h1) => match r ρ h1 with
    | some (xs, h2) => F (.d (.tupN ts)) xs h2
    | none => none
  | _ => none
theorem e_metN {name id : String} {F : A → List A → Hh → Option (A × Hh)} {o e : Expr} {es : List Expr} {mo : EI} {m : AI} {apos cpos : Pos} (slot : Slot "tuple" name id) (hty : typeOf (.builtin id) = pure (.type "method_descriptor")) (hm : MetI X id F) (ho : PE X o (rE X.mg mo)) (ha : PA X (e :: es) (rA X.mg m))
    (hbase : attributeBase o name X.env (eval o X.env) = eval o X.env := by rfl)
    (hfew : ((backTo cpos (starEach (e :: es) X.env)).all (fun x => !x.1) && (backToKw cpos (keywordEach [] X.env)).all (fun x => x.1.isSome) && decide ((e :: es).length + ([] : List Keyword).length + (if ([] : List Keyword).isEmpty then 0 else 1) < 30)) = true := by rfl)
    (hline : (apos.endLine == cpos.line) = true := by rfl) (hs : starEach (e :: es) X.env = (false, eval e X.env) :: starEach es X.env := by rfl) (hplain : (backTo cpos (starEach es X.env)).any (·.1) = false := by rfl) :
    PE X (.Call (.Attribute o name apos) (e :: es) [] cpos) (rE X.mg (mMetN F mo m)) := by
  refine ⟨fun pins s σ H Q I ⟨w, ρ, h, a, h', S, E, e1, b⟩ => ?_⟩
  unfold mMetN at e1
  split at e1
  · rename_i ts h1 e2
    split at e1
    · rename_i xs h2 e3
      have q0 : rE X.mg mo σ H fun v H1 => (∃ p, v = .ref p ∧ ∃ ob vs, H1 p = some (.frz ob (.tup vs)) ∧ ob.cls = .type "tuple" ∧ ob.dict = none) ∧ rA X.mg m σ H1 fun vs H2 => ∃ w h x xs a h', Sm X.mg w H2 h ∧ RelA X.mg w x v ∧ RelAs X.mg w xs vs ∧ F x xs h = some (a, h') ∧ Bh X.mg w h' a Q := by
        refine ⟨w, ρ, h, _, h1, S, E, e2, fun w1 H1 v l1 S1 r1 => ⟨?_, w1, ρ, h1, xs, h2, S1, E.mono l1, e3, fun w2 H2 vs l2 S2 r2 => ⟨w2, h2, _, xs, a, h', S2, r1.mono l2, r2, e1, b.le (l1.trans l2)⟩⟩⟩
        cases r1 with
        | d r1 =>
          cases r1 with
          | tupN q hc hd _ => exact ⟨_, rfl, _, _, S1.st _ _ q True.intro, hc, hd⟩
      refine wpAny_Call_method_late hbase hfew hline rfl (thn (ho.run pins s σ H _ I q0) fun u s1 ⟨v, H1, I1, rv, ⟨p, ev, ob, us, hp, hc, hd⟩, q1⟩ => ?_)
      subst ev
      cases rv
      obtain ⟨hob, _⟩ := (show ObjOk X.prog X.w H1 s1.heap p (.frz ob (.tup us)) from I1.hok p _ hp)
      refine ⟨"tuple", id, PySem.F.plainAttrs_tuple, slot, hty, ⟨ob, hob, hc⟩, fun b2 eb => by cases eb; exact ⟨ob, hob, hd⟩, ?_⟩
      have hA := ha.run cpos pins s1 σ H1 _ I1 q1
      rw [hs] at hA ⊢
      refine Calls.callWith_builtin (by show (false || (backTo cpos (starEach es X.env)).any (·.1)) = false; rw [hplain] <;> rfl) (Calls.evalArgs_plain ?_)
      exact thn hA fun us2 s2 ⟨vs, H2, I2, r2, q2⟩ => hm pins s2 σ H2 (.ref p) vs _ us2 Q I2 rfl r2 q2
    · cases e1
  · cases e1
end
end F2
set_option Elab.async false
set_option linter.all false
set_option maxRecDepth 100000
set_option maxHeartbeats 4000000
namespace F2
open PySem PySem.Spec PyProof.Rows L2
section
variable {X : Cx}
def Out.heap : Out → Hh
  | .nx _ h => h
  | .rt _ h => h
  | .bk _ h => h
  | .ct _ h => h
def Out.to (o : Out) (h : Hh) : Out := match o with
  | .nx ρ _ => .nx ρ h
  | .rt a _ => .rt a h
  | .bk ρ _ => .bk ρ h
  | .ct ρ _ => .ct ρ h
/-- a statement done while the dict in the slot i is locked -/
def mLockS (i : Nat) (m : SI) : SI := fun ρ h => match ρ[i]? with
  | some (some (.ref l)) => match h[l]? with
    | some (.dK kvs) => match m ρ (h.set l (.lK kvs)) with
      | some o => match o.heap[l]? with
        | some (.lK kvs2) => some (o.to (o.heap.set l (.dK kvs2)))
        | _ => none
      | none => none
    | _ => none
  | _ => none
theorem EnvOk.mono00 {mg : Mg} {w w' : Wd} {ρ : En} {σ : L2.St} (l : w.le00 w') (E : EnvOk mg w ρ σ) : EnvOk mg w' ρ σ := ⟨E.len, fun j x z => let ⟨y, hy, ry⟩ := E.get j x z; ⟨y, hy, RelA.mono00 l ry⟩⟩
theorem s_lock (i : Nat) {st : Stmt} {m : SI} (p : PS X st (rS X.mg m)) : PS X st (rS X.mg (mLockS i m)) := PS.imp (ps_lock p) fun D σ H ⟨w, ρ, h, oo, S, E, e, b⟩ => by
  unfold mLockS at e
  split at e
  · rename_i l ei
    split at e
    · rename_i kvs q
      split at e
      · rename_i o e2
        split at e
        · rename_i kvs2 q2
          cases e
          obtain ⟨v, hv, rv⟩ := E.get i _ ei
          cases rv with
          | @ref _ p hp =>
            cases S.cell l p _ hp q with
            | @dK _ ks h1 h3 =>
              have n0 : w.lk p = none := by
                cases z : w.lk p with
                | none => rfl
                | some u =>
                  obtain ⟨o, e1, e3⟩ := (S.lk p u z).2 l hp
                  rw [q] at e1; cases e1; exact e3.elim
              refine ⟨p, .dK ks, h1, True.intro, fun od => ⟨w.lock p (.frz od (.dK ks)), ρ, _, o, S.lock hp q h1 h3 od, EnvOk.mono00 (w := w) ⟨FzLe.rfl, fun _ _ z => z⟩ E, e2, ?_⟩⟩
              have back : ∀ {w2 : Wd}, w2.le00 { w2 with lk := w.lk } := fun {w2} => ⟨FzLe.rfl, fun _ _ z => z⟩
              have up : ∀ {w2 : Wd}, (w.lock p (.frz od (.dK ks))).le w2 → w.le { w2 with lk := w.lk } := fun {w2} l2 => ⟨⟨l2.fz, Eq.refl _, l2.phi_⟩, l2.ow⟩
              cases o with
              | nx ρ2 h2 =>
                intro w2 H2 σ2 l2 S2 E2
                obtain ⟨k1, k2⟩ := S2.unlock (w0 := w) l2.lk n0 (l2.phi_ _ _ hp) q2
                exact ⟨k1, b { w2 with lk := w.lk } _ σ2 (up l2) k2 (E2.mono00 back)⟩
              | rt a h2 =>
                intro w2 H2 v2 l2 S2 r2
                obtain ⟨k1, k2⟩ := S2.unlock (w0 := w) l2.lk n0 (l2.phi_ _ _ hp) q2
                exact ⟨k1, b { w2 with lk := w.lk } _ v2 (up l2) k2 (r2.mono00 back)⟩
              | bk ρ2 h2 =>
                intro w2 H2 σ2 l2 S2 E2
                obtain ⟨k1, k2⟩ := S2.unlock (w0 := w) l2.lk n0 (l2.phi_ _ _ hp) q2
                exact ⟨k1, b { w2 with lk := w.lk } _ σ2 (up l2) k2 (E2.mono00 back)⟩
              | ct ρ2 h2 =>
                intro w2 H2 σ2 l2 S2 E2
                obtain ⟨k1, k2⟩ := S2.unlock (w0 := w) l2.lk n0 (l2.phi_ _ _ hp) q2
                exact ⟨k1, b { w2 with lk := w.lk } _ σ2 (up l2) k2 (E2.mono00 back)⟩
        · cases e
      · cases e
    · cases e
  · cases e
end
end F2
set_option Elab.async false
set_option linter.all false
set_option maxRecDepth 100000
set_option maxHeartbeats 4000000
namespace F2
open PySem PySem.Spec PyProof.Rows L2
open PySem.W (Frag)
/-- a def found by a path -/
structure DefP where
  at_ : Frag → Addr
  name : Str
  qual : Str
  st : Stmt
def fnP (K : Frag) (a : Addr) : He.FnW := match K.lookup a with
  | some ⟨_, _, .func fd, _⟩ => some (fd.name, fd.qualname, fd.params, fd.body, fd.scope, fd.globals, fd.closure, fd.builtins)
  | _ => none
def DefP.val (d : DefP) : He.FnW := some (d.name, d.qual, defArgs d.st, .stmts (defBody d.st), defScope d.st, mainGlobals, [], builtinsNs)
def DefP.ok (K : Frag) (d : DefP) : Bool := PySem.W.keepIn K (.ref (d.at_ K)) && (match K.lookup (d.at_ K) with
  | some ⟨_, _, .func fd, _⟩ => PySem.W.codeIn K fd.code d.qual && (He.dflB K fd.defaults [] && He.kwdB K fd.kwdefaults [])
  | _ => false)
/-- a def as it stands behind the top -/
abbrev FnP (K : Frag) (x qual : Str) (st : Stmt) (f : Addr) (fd : FuncData) : Prop := FunD K x qual (defArgs st) (defBody st) (defScope st) [] [] f fd
theorem DefP.funD {K : Frag} {d : DefP} (e : fnP K (d.at_ K) = d.val) (c : d.ok K = true) : ∃ fd, FnP K d.name d.qual d.st (d.at_ K) fd := by
  obtain ⟨kp, c2⟩ := He.ba c
  unfold fnP at e
  cases q : K.lookup (d.at_ K) with
  | none =>
    rw [q] at c2
    cases c2
  | some o =>
    obtain ⟨oc, od, dt, osl⟩ := o
    rw [q] at c2 e
    cases dt with
    | func fd =>
      obtain ⟨at_, nm, ql, st⟩ := d
      obtain ⟨n1, n2, n3, n4, n5, n6, n7, n8, n9, n10, n11, n12, n13, n14, n15⟩ := fd
      have e2 : (some (n1, n2, n3, n4, n5, n6, n7, n15) : He.FnW) = some (nm, ql, defArgs st, .stmts (defBody st), defScope st, mainGlobals, [], builtinsNs) := e
      simp only [Option.some.injEq, Prod.mk.injEq] at e2
      obtain ⟨h1, h2, h3, h4, h5, h6, h7, h8⟩ := e2
      subst h1 h2 h3 h4 h5 h6 h7 h8
      have c3 : (PySem.W.codeIn K n13 n2 && (He.dflB K n8 [] && He.kwdB K n9 [])) = true := c2
      obtain ⟨k1, k2⟩ := He.ba c3
      obtain ⟨k3, k4⟩ := He.ba k2
      exact ⟨_, ⟨oc, od, n8, n9, n10, n11, n12, n13, n14, osl, rfl, q, k1, He.dflB_ok k3, He.kwdB_ok k4⟩, kp⟩
    | _ => cases c2
/-! ### facts -/
abbrev Fct := Frag → Bool
def ga := He.ga
def ma := He.ma
/-- the property f of the class x, its getter -/
def pa (x f : Str) (K : Frag) : Addr := He.ma K (He.ga K x) f
def pg (x f : Str) (K : Frag) : Addr := match PySem.W.recIn K (pa x f K) "property" with
  | some (.ref g :: _) => g
  | _ => 0
def propB (x f : Str) : Fct := fun K => He.eqO (PySem.W.findIn K (.ref (He.ga K x)) f) (some (some (.ref (pa x f K)))) && (He.eqO (PySem.W.specialIn K (.ref (pa x f K)) "__get__") (some (some (.builtin "property.__get__"))) && (decide (PySem.W.takesIn K (.ref (pa x f K)) = some true) && (match PySem.W.recIn K (pa x f K) "property" with
  | some (.ref _ :: _) => true
  | _ => false)))
theorem prop_ok {K : Frag} {x f : Str} (c : propB x f K = true) : PropOf K (He.ga K x) f (pa x f K) (pg x f K) := by
  obtain ⟨c1, c⟩ := He.ba c
  obtain ⟨c2, c⟩ := He.ba c
  obtain ⟨c3, c4⟩ := He.ba c
  refine ⟨He.eqO_ok c1, He.eqO_ok c2, of_decide_eq_true c3, ?_⟩
  unfold pg
  split at c4
  · rename_i g rest q
    exact ⟨rest, by rw [q]⟩
  · cases c4
def eqneB (x : Str) : Fct := fun K => match K.lookup (He.ga K x) with
  | some ⟨.type "type", _, .cls cd, sl⟩ => (match cd.mro, sl.toList with
    | [.ref C', .type "object"], [_, _, _, _, some (.builtin n), _] => C' == He.ga K x && !cd.hasDel && PySem.W.nsOkIn K cd.ns && He.eqO (PySem.W.nsIn K cd.ns "__eq__") (some (some (.ref (He.ma K (He.ga K x) "__eq__")))) && He.eqO (PySem.W.nsIn K cd.ns "__ne__") (some none) &&
      (match K.lookup (He.ma K (He.ga K x) "__eq__") with
        | some o => decide (o.cls = .type "function")
        | none => false)
    | _, _ => false)
  | _ => false
theorem eqne_ok {K : Frag} {x : Str} (c : eqneB x K = true) : EqNe K (He.ga K x) (He.ma K (He.ga K x) "__eq__") := by
  unfold eqneB at c
  split at c
  · rename_i dd cd sl ho
    split at c
    · rename_i C' k0 k1 k2 k3 n k5 hm hs
      simp only [Bool.and_eq_true, beq_iff_eq, Bool.not_eq_true'] at c
      obtain ⟨⟨⟨⟨⟨e1, hdel⟩, hok⟩, h1⟩, h2⟩, h3⟩ := c
      split at h3
      · rename_i of hof
        obtain ⟨nm, bs, mro, ns, qn, hd, sn, sub, ab, col, del⟩ := cd
        dsimp only at hm hdel hok h1 h2
        subst hm hdel
        have hsl : sl = #[k0, k1, k2, k3, some (.builtin n), k5] := by
          obtain ⟨l⟩ := sl
          simp only at hs
          rw [hs]
        subst hsl
        subst e1
        exact ⟨nm, qn, ns, bs, hd, sn, sub, ab, col, dd, k0, k1, k2, k3, k5, n, of, ho, hok, He.eqO_ok h1, He.eqO_ok h2, hof, of_decide_eq_true h3⟩
      · cases h3
    · cases c
  · cases c
/-- isinstance's facts of a class -/
def instB (x : Str) : Fct := fun K => He.eqO (PySem.W.findIn K (.ref (He.ga K x)) "__class__") (some (some (.builtin "object.__class__"))) && (decide (PySem.W.mroIn K (He.ga K x) (.type "object") = some true) && (decide (PySem.W.kitOne K (.ref (He.ga K x)) (.ref (He.ga K x)) = some true) &&
  (["NoneType", "bool", "int", "str", "tuple", "list", "dict"].all fun T => decide (PySem.W.kitOne K (.type T) (.ref (He.ga K x)) = some false))))
def gsB : Fct := fun K => He.eqO (PySem.W.specialIn K (.builtin "object.__class__") "__get__") (some (some (.builtin "getset_descriptor.__get__"))) && decide (PySem.W.takesIn K (.builtin "object.__class__") = some true)
theorem inst_ok {K : Frag} {x : Str} (cl : Cls K (He.ga K x)) (c : instB x K = true) (d : gsB K = true) : InsT K (He.ga K x) ∧ PySem.W.kitOne K (.ref (He.ga K x)) (.ref (He.ga K x)) = some true ∧ ∀ T : String, PySem.W.kitOne K (.type T) (.ref (He.ga K x)) = some false ∨ T ∉ ["NoneType", "bool", "int", "str", "tuple", "list", "dict"] := by
  obtain ⟨c1, c⟩ := He.ba c
  obtain ⟨c2, c⟩ := He.ba c
  obtain ⟨c3, c4⟩ := He.ba c
  obtain ⟨d1, d2⟩ := He.ba d
  refine ⟨⟨cl, He.eqO_ok c1, He.eqO_ok d1, of_decide_eq_true d2, of_decide_eq_true c2⟩, of_decide_eq_true c3, fun T => ?_⟩
  by_cases h : T ∈ ["NoneType", "bool", "int", "str", "tuple", "list", "dict"]
  · exact .inl (of_decide_eq_true (List.all_eq_true.mp c4 T h))
  · exact .inr h
/-! ### the hook -/
abbrev AlP : Type := Bool × List He.FnW
def obsP (fa : List Fct) (fn : List DefP) (K : Frag) : AlP := ((fa.all fun f => f K) && fn.all fun d => d.ok K, fn.map fun d => fnP K (d.at_ K))
def valP (fn : List DefP) : AlP := (true, fn.map DefP.val)
def SaysP (fa : List Fct) (fn : List DefP) (K : Frag) : Prop := obsP fa fn K = valP fn
/-- a part of the heap, lists left out -/
def frL (g : Addr → Option Obj) (as : List Addr) : Frag := (He.frG g as).filter fun q => !decide (q.2.cls = .type "list")
def NoLst (K : Frag) : Prop := ∀ a o, K.lookup a = some o → o.cls ≠ .type "list"
theorem frL_mem {g : Addr → Option Obj} {as : List Addr} {a : Addr} {o : Obj} (h : (frL g as).lookup a = some o) : g a = some o ∧ o.cls ≠ .type "list" := by
  obtain ⟨h1, h2⟩ := List.mem_filter.mp (He.lookup_mem h)
  exact ⟨He.frG_mem h1, fun e => by simp [e] at h2⟩
def obsPG (n : Nat) (fa : List Fct) (fn : List DefP) (g : Addr → Option Obj) : AlP := obsP fa fn (frL g (He.asD g n))
def hookP (n : Nat) (fa : List Fct) (fn : List DefP) : PySem.W.Hook where
  α := AlP
  obs := fun s => obsPG n fa fn s.heap.get?
  val := fun _ => valP fn
  says := fun _ h => ∃ K : Frag, K.In h ∧ NoLst K ∧ SaysP fa fn K
  of := fun _ _ e => ⟨_, fun _ _ q => (frL_mem q).1, fun _ _ q => (frL_mem q).2, e⟩
  keeps := fun _ _ _ ⟨K, hK, nl, c⟩ k => ⟨K, PySem.W.Frag.In.keeps hK k, nl, c⟩
theorem obsPG_eq {n : Nat} {fa : List Fct} {fn : List DefP} {g : Addr → Option Obj} {s : Shared} (h : ∀ a, g a = s.heap.get? a) : obsPG n fa fn g = (hookP n fa fn).obs s := by
  have e : g = s.heap.get? := funext h
  rw [e] <;> rfl
section
variable {fa : List Fct} {fn : List DefP} {K : Frag}
theorem SaysP.fact (c : SaysP fa fn K) (i : Nat) {f : Fct} (h : fa[i]? = some f := by rfl) : f K = true := by
  have c1 := (He.ba (show ((fa.all fun f => f K) && fn.all fun d => d.ok K) = true from congrArg (fun z : AlP => z.1) c)).1
  exact List.all_eq_true.mp c1 f (List.mem_of_getElem? h)
theorem SaysP.def_ (c : SaysP fa fn K) (i : Nat) {d : DefP} (h : fn[i]? = some d := by rfl) : ∃ fd, FnP K d.name d.qual d.st (d.at_ K) fd := by
  have c2 := (He.ba (show ((fa.all fun f => f K) && fn.all fun d => d.ok K) = true from congrArg (fun z : AlP => z.1) c)).2
  have e : fn.map (fun d => fnP K (d.at_ K)) = fn.map DefP.val := congrArg (fun z : AlP => z.2) c
  have e2 : (fn.map fun d => fnP K (d.at_ K))[i]? = (fn.map DefP.val)[i]? := by rw [e]
  rw [List.getElem?_map, List.getElem?_map, h] at e2
  exact DefP.funD (Option.some.inj e2) (List.all_eq_true.mp c2 d (List.mem_of_getElem? h))
end
section
variable {P : Program} {w : World} {K : Frag} {mg : Str → Option Value} {base : Heap}
/-- the rule for a def of the text, found by a path -/
theorem fn_okP {x qual : Str} {st : Stmt} {f : Addr} {fd : FuncData} {N ps : List Str} {k : Nat} {m : SI} (np ns : Nat) (F : FnP K x qual st f fd) (S : FnScope N ps (defScope st)) (hp : ps.length = np) (hN : N.length = ns)
    (hbody : ∀ (cdv : Value) (A : Around) (outer : List Env) (s : Shared) (H : Hp) (E : XK), Room k (bx P w K mg base N qual (defScope st) f cdv A outer s H E).A → PSs (bx P w K mg base N qual (defScope st) f cdv A outer s H E) (defBody st) (rS mg m)) :
    Ok P w K mg base (k + 1) f fd ps (mkFn np ns m) := by
  refine F.ok S (fun vs H Q E q => q.1) fun cdv A outer s H vs Q E hr q => ⟨rS mg m, ?_, fn_body hp hN q⟩
  exact PSs.nox (hbody cdv A outer s H E hr)
end
end F2
set_option Elab.async false
set_option linter.all false
set_option maxRecDepth 100000
set_option maxHeartbeats 4000000
namespace F2
open PySem PySem.Spec PyProof.Rows L2
/-! ### a def that gives a list of its own away: the list becomes data -/
def cutF (n : Nat) (a : A) (h : Hh) : A × Hh := match a with
  | .ref l => if n ≤ l ∧ (h.take n).all (lowO n) = true then match h[l]? with
    | some (.lst xs) => match allD xs with
      | some ds => (.d (.lst ds), h.take n)
      | none => cut n a h
    | _ => cut n a h
    else cut n a h
  | _ => cut n a h
def Wd.froz (w : Wd) (n : Nat) (p : Addr) (o : HO) : Wd := { w with phi_ := w.phi_.take n, fz := fun b => if b = p then some o else w.fz b }
theorem Sm.froz {mg : Mg} {w : Wd} {H : Hp} {h : Hh} (S : Sm mg w H h) {n l : Nat} {p : Addr} {vs : List V} {xs : List A} (hn : n ≤ l) (hp : w.phi_[l]? = some p) (q : h[l]? = some (.lst xs)) (hv : H p = some (.lst vs)) (low : (h.take n).all (lowO n) = true) :
    Sm mg (w.froz n p (.lst vs)) H (h.take n) := by
  have T := S.take low
  have fn : w.fz p = none := by
    rcases S.nf l p _ hp q with z | z
    · exact z
    · cases z
  have le : (w.take n).le00 (w.froz n p (.lst vs)) := ⟨fun a o z => by
    have z' : w.fz a = some o := z
    show (if a = p then some (HO.lst vs) else w.fz a) = some o
    rw [if_neg (fun y => by rw [y, fn] at z'; cases z')]; exact z', fun _ _ z => z⟩
  have ne : ∀ {i : Nat} {a : Addr}, (w.phi_.take n)[i]? = some a → a ≠ p := fun {i a} z y => by
    subst y
    obtain ⟨z1, z2⟩ := take_get z
    have := S.nd i l a z1 hp
    omega
  exact {
    fz := fun a u z => by
      by_cases y : a = p
      · subst y
        have z' : (if a = a then some (HO.lst vs) else w.fz a) = some u := z
        rw [if_pos rfl] at z'; cases z'
        exact .inl hv
      · have z' : (if a = p then some (HO.lst vs) else w.fz a) = some u := z
        rw [if_neg y] at z'
        exact S.fz a u z'
    len := T.len
    nd := T.nd
    th := T.th
    nf := fun i a o z1 z2 => by
      rcases T.nf i a o z1 z2 with z | z
      · refine .inl ?_
        show (if a = p then some (HO.lst vs) else w.fz a) = none
        rw [if_neg (ne z1)]; exact z
      · exact .inr z
    cell := fun i a o z1 z2 => by
      have c := T.cell i a o z1 z2
      cases c with
      | lst e1 e2 => exact .lst e1 (e2.mono00 le)
      | dK e1 e2 => exact .dK e1 (e2.mono00 le)
      | dT e1 e2 => exact .dT e1 (e2.mono00 le)
      | lK e1 e2 => exact .lK e1 (e2.mono00 le)
      | lT e1 e2 => exact .lT e1 (e2.mono00 le)
      | ins e0 e1 e2 => exact .ins e0 e1 (e2.mono00 le)
      | dead => exact .dead
    ow := fun a o z => by
      obtain ⟨e1, e2, e3⟩ := T.ow a o z
      refine ⟨e1, ?_, e3⟩
      have e4 := (S.ow a o z).2.2 l
      show (if a = p then some (HO.lst vs) else w.fz a) = none
      rw [if_neg (fun y => e4 (by rw [y]; exact hp))]
      exact e2
    lk := T.lk
    st := fun a u z nd => by
      by_cases y : a = p
      · subst y
        have z' : (if a = a then some (HO.lst vs) else w.fz a) = some u := z
        rw [if_pos rfl] at z'; cases z'
        exact hv
      · have z' : (if a = p then some (HO.lst vs) else w.fz a) = some u := z
        rw [if_neg y] at z'
        exact S.st a u z' nd }
theorem cutF_ok {mg : Mg} {w : Wd} {h h' : Hh} {H : Hp} (S : Sm mg w H h) {a : A} {Q : VK} (b : Bh mg w (cutF h.length a h').2 (cutF h.length a h').1 Q) : Bh mg w h' a Q := by
  unfold cutF at b
  split at b
  · rename_i l
    split at b
    · rename_i c
      split at b
      · rename_i xs q
        split at b
        · rename_i ds ed
          intro w1 H1 v l1 S1 r1
          cases r1 with
          | @ref _ p hp =>
            cases S1.cell l p _ hp q with
            | @lst _ vs hv rv =>
              have rd := allD_rel ed rv
              have fn : w1.fz p = none := by
                rcases S1.nf l p _ hp q with z | z
                · exact z
                · cases z
              have fzle : FzLe w1.fz (w1.froz h.length p (.lst vs)).fz := fun a o z => by
                show (if a = p then some (HO.lst vs) else w1.fz a) = some o
                rw [if_neg (fun y => by rw [y, fn] at z; cases z)]; exact z
              refine b (w1.froz h.length p (.lst vs)) H1 _ ⟨⟨l1.fz.trans fzle, l1.lk, fun i x z => ?_⟩, l1.ow⟩ (S1.froz c.1 hp q hv c.2) (.d (.lst (vs := vs) ?_ (rd.mono fzle)))
              · have hi : i < h.length := by rw [← S.len]; exact (List.getElem?_eq_some_iff.mp z).1
                show (w1.phi_.take h.length)[i]? = some x
                rw [List.getElem?_take_of_lt hi]; exact l1.phi_ i x z
              · show (if p = p then _ else _) = _
                rw [if_pos rfl]
        · exact cut_ok S b
      · exact cut_ok S b
    · exact cut_ok S b
  · exact cut_ok S b
/-- a def whose result is made data -/
def mkFnF (np ns : Nat) (body : SI) : FnI := fun as h => if as.length = np then
    match body (as.map some ++ List.replicate (ns - np) none) h with
    | some (.nx _ h') => some (cutF h.length (.d .non) h')
    | some (.rt a h') => some (cutF h.length a h')
    | _ => none
  else none
theorem mkFnF_len {np ns : Nat} {m : SI} : ∀ xs h, (mkFnF np ns m xs h).isSome = true → xs.length = np := fun xs h e => by
  unfold mkFnF at e
  split at e
  · assumption
  · cases e
theorem fn_bodyF {mg : Mg} {np ns : Nat} {N ps : List Str} (hp : ps.length = np) (hN : N.length = ns) {m : SI} {vs : List V} {H : Hp} {Q : VK} {E : XK} (q : spI mg ps.length (mkFnF np ns m) vs H Q E) :
    rS mg m { nx := fun _ H' => Q .non H', rt := Q } (L2.start N vs) H := by
  obtain ⟨hl, w, h, as, a, h', S, r, e, b⟩ := q
  unfold mkFnF at e
  have hla : as.length = np := by rw [r.length, hl, hp]
  rw [if_pos hla] at e
  have Eo : EnvOk mg w (as.map some ++ List.replicate (ns - np) none) (L2.start N vs) := by
    unfold L2.start
    rw [hN, hl, hp]
    exact r.some_get
  split at e
  · rename_i ρ' h2 e2
    refine ⟨w, _, h, _, S, Eo, e2, fun w1 H1 σ1 l1 S1 E1 => ?_⟩
    have q : Bh mg w h2 (.d .non) Q := cutF_ok S (by injection e with e; rw [e]; exact b)
    exact q w1 H1 _ l1 S1 (.d .non)
  · rename_i a2 h2 e2
    refine ⟨w, _, h, _, S, Eo, e2, ?_⟩
    exact cutF_ok S (by injection e with e; rw [e]; exact b)
  · cases e
section
variable {P : Program} {w : World} {K : PySem.W.Frag} {mg : Str → Option Value} {base : Heap}
theorem fn_okPF {x qual : Str} {st : Stmt} {f : Addr} {fd : FuncData} {N ps : List Str} {k : Nat} {m : SI} (np ns : Nat) (F : FnP K x qual st f fd) (S : FnScope N ps (defScope st)) (hp : ps.length = np) (hN : N.length = ns)
    (hbody : ∀ (cdv : Value) (A : Around) (outer : List Env) (s : Shared) (H : Hp) (E : XK), Room k (bx P w K mg base N qual (defScope st) f cdv A outer s H E).A → PSs (bx P w K mg base N qual (defScope st) f cdv A outer s H E) (defBody st) (rS mg m)) :
    Ok P w K mg base (k + 1) f fd ps (mkFnF np ns m) := by
  refine F.ok S (fun vs H Q E q => q.1) fun cdv A outer s H vs Q E hr q => ⟨rS mg m, ?_, fn_bodyF hp hN q⟩
  exact PSs.nox (hbody cdv A outer s H E hr)
end
/-! ### words for what is generated -/
def mCall (n : Nat) (F : FnI) (m : AI) : EI := mOn (fun as h => if as.length = n then F as h else none) m
def mMake (c : Str) (n : Nat) (F : FnI) (m : AI) : EI := mOn (fun as h => if as.length + 1 = n then mkObj c F as h else none) m
theorem u1 {k : Nat} {A : Around} (r : Room k A) : A.units + 1 < cLine := by have := r.un; omega
theorem u64 {k : Nat} {A : Around} (r : Room k A) : A.units + 64 < cLine := by have := r.un; omega
theorem u65 {k : Nat} {A : Around} (r : Room k A) : A.units + 65 < cLine := by have := r.un; omega
end F2
set_option Elab.async false
set_option linter.all false
set_option maxRecDepth 100000
set_option maxHeartbeats 4000000
namespace F2
open PySem PySem.Spec PyProof.Rows L2
open PySem.W (Frag)
theorem int_ok2 {K : Frag} {mg : Str → Option Value} {x : Str} {i : Int} (k : ∃ h : Heap, K.In h ∧ h.Ns mainGlobals mg) (c : (He.Fa.int x i).ok K = true) : ∃ t, mg x = some (.int i t) := by
  obtain ⟨h, k1, k2⟩ := k
  exact He.int_ok k1 k2 c
section
variable {X : Cx}
theorem s_par2 (i j : Nat) {x y : Str} {a b : Expr} {m : AI} {px py pt : Pos} {kt k2 pt2} {pos : Pos} (hN : X.N.Nodup) (ha : PA X [a, b] (rA X.mg m)) (hc : X.calm = true := by rfl) (hi : X.N[i]? = some x := by rfl) (hj : X.N[j]? = some y := by rfl) (hij : i ≠ j := by decide)
    (hx : X.env.scope.names.lookup x = some .local := by rfl) (hy : X.env.scope.names.lookup y = some .local := by rfl)
    (hw : swappedStores [.Tuple [.Name x px, .Name y py] kt pt] (.Tuple [a, b] k2 pt2) X.env = pure (some [x, y]) := by rfl)
    (hs : swapsWithSole [.Tuple [.Name x px, .Name y py] kt pt] (.Tuple [a, b] k2 pt2) pos.line X.env = pure false := by rfl) :
    PS X (.Assign [.Tuple [.Name x px, .Name y py] kt pt] (.Tuple [a, b] k2 pt2) pos) (rS X.mg (mPar i j m)) :=
  s_par i j hc hN ha hi hj hij hx hy (ps_par hc hN hi hj hij hx hy ha hw hs)
end
end F2
set_option Elab.async false
set_option linter.all false
set_option maxRecDepth 100000
set_option maxHeartbeats 4000000
namespace F2
open PySem PySem.Spec PyProof.Rows L2
open PySem.W (Frag)
/-! ### a def's promise where nothing is being shown (repr is then to be had) -/
structure OkG (P : Program) (w : World) (K : Frag) (mg : Mg) (base : Heap) (k : Nat) (f : Addr) (fd : FuncData) (ps : List Str) (F : FnI) : Prop where
  run : ∀ (A : Around) (outer : List Env) (s : Shared) (H : Hp) (args : Args) (us : List Value) (vs : List V) (Q : VK) (E : XK), A.guards = some [] → Room k A → Env0 P w K mg base A outer s H → BindsTo s fd args (ps.zip us) → Vals vs us → spI mg ps.length F vs H Q E →
    codeAny (model P w) A (.call (.ref f) args) (CR CX0 outer P w H s Q E) s
section
variable {P : Program} {w : World} {K : Frag} {mg : Mg} {base : Heap} {k : Nat} {f : Addr} {fd : FuncData} {ps : List Str} {F : FnI}
theorem Ok.g (o : Ok P w K mg base k f fd ps F) : OkG P w K mg base k f fd ps F := ⟨fun A outer s H args us vs Q E _ hr => o.run A outer s H args us vs Q E hr⟩
theorem OkG.mono {j : Nat} (o : OkG P w K mg base j f fd ps F) (h : j ≤ k) : OkG P w K mg base k f fd ps F := ⟨fun A outer s H args us vs Q E hg hr => o.run A outer s H args us vs Q E hg (hr.mono h)⟩
theorem fn_okG {x qual : Str} {st : Stmt} {N : List Str} {m : SI} {G : FnI} (np ns : Nat) (FD : FnP K x qual st f fd) (S : FnScope N ps (defScope st)) (hp : ps.length = np) (hN : N.length = ns)
    (hG : ∀ {vs : List V} {H : Hp} {Q : VK} {E : XK}, spI mg ps.length G vs H Q E → rS mg m { nx := fun _ H' => Q .non H', rt := Q } (L2.start N vs) H)
    (hbody : ∀ (cdv : Value) (A : Around) (outer : List Env) (s : Shared) (H : Hp) (E : XK), (bx P w K mg base N qual (defScope st) f cdv A outer s H E).A.guards = some [] → Room k (bx P w K mg base N qual (defScope st) f cdv A outer s H E).A → PSs (bx P w K mg base N qual (defScope st) f cdv A outer s H E) (defBody st) (rS mg m)) :
    OkG P w K mg base (k + 1) f fd ps G := by
  obtain ⟨oc, od, dV, kV, doc, pm, an, cdv, ct, osl, rfl, lk, hcd, _, _⟩ := FD.ex
  refine ⟨fun A outer s H args us vs Q E hgd hr e0 hb rv hsp => ?_⟩
  have len := hsp.1
  have kin : K.In s.heap := e0.mod.kin.keeps fun b o q => (e0.bs b o q).1
  have nolim : s.heap.NoLimit := e0.mod.nolimit.keeps fun b o q => (e0.bs b o q).1
  refine codeAny_call_function hr.depth (kin _ _ lk) rfl S.co S.gen rfl (PySem.W.codeRec_of kin hcd) (hb _ _ _ _ ?_)
  refine wpAny_newFunctionEnv_cells S.kind (fun y hy => ?_) fun env eenv s1 call => ?_
  · obtain ⟨n, v⟩ := y
    rcases S.par n (List.of_mem_zip hy).1 with q | q
    · exact .inl q
    · exact .inr ⟨q, PySem.W.cellsFrom_some _ _ _ (.inl q)⟩
  subst eenv
  refine ⟨nolim.keeps call.toInCall.keep, codeAny_func ?_⟩
  have inv := inv_start (CX := CX0) (E := E) S hr.hd e0 len rv call
  refine wpAny_mono ((PSs.nox (hbody cdv A outer s H E hgd (hr.deeper _))).run [] s1 (L2.start N vs) H _ inv (hG hsp)) (fun fl s' hs => ?_) fun _ _ q => q
  have out : ∀ {σ' : L2.St} {H' : Hp} {v : V} {u : Value}, Inv (cxOf CX0 P w K mg base N qual (defScope st) f cdv A outer s H E) [] σ' H' s' → RelV v u → Q v H' → CE outer P w H s Q u s' := fun {_ H' v _} J r q => ⟨v, H', J.os, J.bare, J.base, J.hok, r, q⟩
  cases fl with
  | ret u => obtain ⟨v, σ', H', J, r, q⟩ := hs; exact out J r q
  | next => obtain ⟨σ', H', J, q⟩ := hs; exact out (v := V.non) (u := Value.none) J rfl q
  | brk => obtain ⟨_, _, _, q⟩ := hs; exact q.elim
  | cont => obtain ⟨_, _, _, q⟩ := hs; exact q.elim
end
section
variable {X : Cx}
/-- f(e, ..) -/
theorem e_callG {k : Nat} {f : Addr} {fd : FuncData} {ps : List Str} {F : FnI} {x : Str} {p pos : Pos} {e : Expr} {es : List Expr} {m : AI} (G : OkG X.prog X.w X.K X.mg X.base k f fd ps F) (hgd : X.A.guards = some []) (hr : Room k X.A) (hm : X.mg x = some (.ref f)) (hk : PySem.W.keepIn X.K (.ref f) = true) (hb : Binds X.K fd ps [])
    (ha : PA X (e :: es) (rA X.mg m)) (hg : Gl X x := by rfl) (hdb : (x == ("__debug__" : Str)) = false := by decide) (he : starEach (e :: es) X.env = (false, eval e X.env) :: starEach es X.env := by rfl) (hpl : (backTo pos (starEach es X.env)).any (·.1) = false := by rfl) :
    PE X (.Call (.Name x p) (e :: es) [] pos) (rE X.mg (mCall ps.length F m)) := by
  refine ⟨fun pins s σ H Q I h => ?_⟩
  refine wpAny_Call_Name_kw (ld_glob I hg hm ?_ hdb)
  obtain ⟨w, ρ, hh, as, h', S, E, e1, k1⟩ := on_split (X := X) (show rE X.mg (mOn (fun as h => if as.length = ps.length then F as h else none) m) σ H Q from h)
  refine PySem.W.callWith_K (h₀ := X.base) I.ok.mod.kin hk (thn (ha.run pos pins s σ H _ I ⟨w, ρ, hh, as, h', S, E, e1, k1⟩) fun us s1 ⟨vs, H1, I1, r, q⟩ => ⟨I1.kIn, ?_⟩) he hpl
  obtain ⟨w2, h2, xs, a, h3, S2, r2, e2, b⟩ := q
  split at e2
  · rename_i hl
    have hlv : vs.length = ps.length := by rw [← r2.length]; exact hl
    have hlu : us.length = ps.length := by rw [← r.length]; exact hlv
    have hbt : BindsTo s1 fd ⟨us, []⟩ (ps.zip us) := by
      have z := hb s1 us I1.kIn (by simpa using hlu)
      simpa using z
    refine wpAny_call (codeAny_mono (G.run X.A X.stack s1 H1 ⟨us, []⟩ us vs Q E0 hgd hr I1.env0 hbt r ⟨hlv, w2, h2, xs, a, h3, S2, r2, e2, b⟩) fun rr s' hq => ?_)
    cases rr with
    | error er => exact pass0 pins σ H1 s1 er s' I1 hq
    | ok fl =>
      cases fl with
      | ret u => exact I1.after hq
      | next => exact False.elim hq
      | brk => exact False.elim hq
      | cont => exact False.elim hq
  · cases e2
end
/-! ### the end -/
/-- the world of the call: the script alone -/
def w00 (a : Addr) (ob : Obj) (ns : List Int) : Wd := ⟨fun b => if b = a then some (.frz ob (.lst (ns.map V.int))) else none, [], fun _ => none, fun _ => none⟩
def H00 (a : Addr) (ob : Obj) (ns : List Int) : Hp := fun b => if b = a then some (.frz ob (.lst (ns.map V.int))) else none
theorem sm00 {mg : Mg} {a : Addr} {ob : Obj} {ns : List Int} : Sm mg (w00 a ob ns) (H00 a ob ns) [] where
  fz := fun b o q => .inl q
  len := rfl
  nd := fun i j b q => by simp [w00] at q
  th := fun i b q => by simp [w00] at q
  nf := fun i b o q => by simp [w00] at q
  cell := fun i b o q => by simp [w00] at q
  ow := fun b o q => by cases q
  lk := fun b o q => by cases q
  st := fun b o q _ => q
theorem walk_G {l : PySem.W.OpenLaw} {n k : Nat} {q : Program} {loose : List Str} {XP : (Str → Option Value) → Heap → Prop} {YP : World → Heap → Prop} {d : DefRec} {x : Str}
    (hn : l.most = some n) (hn2 : n ≤ sizeLine) (hdf : d.params.defaults = []) (hr : Room k callerA)
    (F : ∀ (w : World) (mg : Str → Option Value) (fa : Addr) (h : Heap), YP w h → h.Ns mainGlobals mg → mg d.name = some (.ref fa) →
      ∃ (K : Frag) (fd : FuncData) (Fn : FnI), K.In h ∧ NoLst K ∧ (∀ (s : Shared) (u : Value), BindsTo s fd ⟨[u], []⟩ [(x, u)]) ∧
        (∀ ns : List Int, ns.length ≤ n → ∃ h', Fn [.d (.scr ns)] [] = some (.d (.bl true), h')) ∧
        ∀ base : Heap, K.In base → base.Ns mainGlobals mg → OkG l.prog w K mg base k fa fd [x] Fn) :
    PySem.W.WalkO q loose XP YP l.row.toRowW d [] (fun f vs => PySem.call f vs) := by
  refine Att.attach_call hn hdf fun w s₀ s₁ mg mb fa o pm cd doc a vs ns G Y ho hd hcd hmg hobj hints hlen hgen => ?_
  obtain ⟨K, fd, Fn, kin, nol, hb, hsp, hF⟩ := F w mg fa _ Y G.T.g hmg
  have ka : K.lookup a = none := by
    cases e : K.lookup a with
    | none => rfl
    | some u =>
      have z := kin _ _ e
      rw [hobj] at z
      cases z
      exact absurd rfl (nol _ _ e)
  let ob : Obj := { cls := .type "list", data := .seq vs.toArray }
  have vals := vals_ints hints
  have hH : ∀ {b : Addr} {u : HO}, H00 a ob ns b = some u → b = a ∧ u = .frz ob (.lst (ns.map V.int)) := fun {b u} z => by
    unfold H00 at z
    split at z
    · rename_i e; cases z; exact ⟨e, rfl⟩
    · cases z
  have hHn : ∀ {b : Addr}, b ≠ a → H00 a ob ns b = none := fun {b} z => if_neg z
  have hHa : H00 a ob ns a = some (.frz ob (.lst (ns.map V.int))) := if_pos rfl
  have hok : HOk l.prog w (H00 a ob ns) s₁.heap := fun b u z => by
    obtain ⟨rfl, rfl⟩ := hH z
    exact ⟨hobj, by rw [List.length_map]; exact Nat.le_trans hlen hn2, vs, _, vals, hobj⟩
  have keep : ∀ {b : Addr} {u : Obj}, s₁.heap.get? b = some u → b ≠ a → (hidT s₁.heap (H00 a ob ns)).get? b = some u := fun e z => hidT_get e (hHn z)
  have nsk : ∀ {b : Addr} {m : Str → Option Value}, s₁.heap.Ns b m → (hidT s₁.heap (H00 a ob ns)).Ns b m := fun {b m} ⟨u, es, ep, e, dd, r⟩ => ⟨u, es, ep, keep e (fun z => by
    rw [z, hobj] at e; cases e
    have dd' : Data.seq vs.toArray _ = Data.dict es ep := dd
    cases dd'), dd, r⟩
  have kb : K.In (hidT s₁.heap (H00 a ob ns)) := fun b u e => keep (kin b u e) (fun z => by rw [z, ka] at e; cases e)
  have md : Mod K mg (hidT s₁.heap (H00 a ob ns)) := ⟨kb, nsk G.T.g, ⟨mb, nsk G.T.b, G.T.builtins⟩, let ⟨mc, h1, h2⟩ := G.T.nolimit; ⟨mc, nsk h1, h2⟩⟩
  have e0 : Env0 l.prog w K mg (hidT s₁.heap (H00 a ob ns)) callerA [] s₁ (H00 a ob ns) := ⟨rfl, md, fun b o e => of_hidT e, Nat.le_of_eq (hidT_size _ _), trivial, fun b z => (nomatch z), hok, .of_eq hgen⟩
  obtain ⟨h', hres⟩ := hsp ns hlen
  have rel : RelA mg (w00 a ob ns) (.d (.scr ns)) (.ref a) := .d (.scr (ob := ob) (if_pos rfl))
  refine codeAny_mono ((hF _ kb (nsk G.T.g)).run callerA [] s₁ (H00 a ob ns) ⟨[.ref a], []⟩ [.ref a] [.ref a] (fun v _ => v = .bl true) E0 rfl hr e0 (hb s₁ (.ref a)) (.cons rfl .nil) ⟨rfl, w00 a ob ns, [], [.d (.scr ns)], _, h', sm00, .cons rel .nil, hres, fun w1 H1 v1 l1 S1 r1 => relbl r1⟩) fun r s' z => ?_
  cases r with
  | error e => exact False.elim z
  | ok fl =>
    cases fl with
    | next => exact False.elim z
    | brk => exact False.elim z
    | cont => exact False.elim z
    | ret u =>
      obtain ⟨v, H', os, bare, un, hok', rv, q⟩ := z
      subst q
      obtain rfl : u = Value.bool true := rv
      refine ⟨rfl, OldK.of_keep fun b u e => ?_, os, bare⟩
      by_cases y : b = a
      · subst y
        have z2 := un.frzs b ob _ hHa
        obtain ⟨e2, _⟩ := hok' b _ z2
        rw [hobj] at e; cases e
        exact e2
      · exact un.keep b u e (hHn y) (fun z => nomatch z) (by simp)
end F2
set_option Elab.async false
set_option linter.all false
set_option maxRecDepth 100000
set_option maxHeartbeats 4000000
namespace F2
open PySem PySem.Spec PyProof.Rows L2
section
variable {X : Cx}
/-- a list times a small int -/
def fMulL (cell : Bool) : A → A → Hh → Option (A × Hh) := fun x y h => match y with
  | .d (.int k) => match itemsL x h with
    | some xs => if 0 ≤ k ∧ k < 2 ^ 20 ∧ xs.length * k.toNat ≤ LIM then mkL cell (List.replicate k.toNat xs).flatten h else none
    | none => none
  | _ => none
theorem RelAs.rep {mg : Mg} {w : Wd} {as : List A} {vs : List V} (r : RelAs mg w as vs) : ∀ n : Nat, RelAs mg w (List.replicate n as).flatten (List.replicate n vs).flatten
  | 0 => .nil
  | n + 1 => by
    rw [List.replicate_succ, List.replicate_succ, List.flatten_cons, List.flatten_cons]
    exact r.append (RelAs.rep r n)
theorem o_mulL {cell : Bool} : OpI X (binaryOp .Mult) (fMulL cell) := OpI.of op_rep fun w H h x y a vx vy h' Q S r1 r2 e b => by
  unfold fMulL at e
  split at e
  · rename_i k
    split at e
    · rename_i xs ex
      split at e
      · rename_i hz
        obtain ⟨p, vs, rfl, hp, rp⟩ := itemsL_rel S r1 ex
        rw [relint r2]
        exact ⟨p, k, vs, rfl, rfl, hp, by omega, by omega, lim_size (by rw [← rp.length]; exact hz.2.2), (mkL_ok S (rp.rep _) e b).2⟩
      · cases e
    · cases e
  · cases e
/-- enumerate of a list -/
def enumN (x : A) : Nat → Hh → Option (Option A) := fun i h => match itemsL x h with
  | some xs => match xs[i]? with
    | some (.d a) => some (some (.d (.tup [.int (i : Nat), a])))
    | none => some none
    | _ => none
  | none => none
def srcE (m : AI) : SrcI := fun ρ h => match m ρ h with
  | some ([x], h1) => match itemsL x h1 with
    | some xs => some (⟨enumN x, xs.length⟩, h1)
    | none => none
  | _ => none
theorem i_enum {e : Expr} {m : AI} {p pos tpos : Pos} {elts : List Expr} {kk : Nat} (hm : X.mg "enumerate" = none) (ha : PA X [e] (rA X.mg m)) (hg : Gl X "enumerate" := by rfl) (hs : starEach [e] X.env = [(false, eval e X.env)] := by rfl) :
    PI X (.Tuple elts kk tpos) (.Call (.Name "enumerate" p) [e] [] pos) (iS X.mg (srcE m)) :=
  PI.imp (pi_enum hg hm ha hs) fun σ H R ⟨w, ρ, h, s, h', S, E, e, b⟩ => by
    unfold srcE at e
    split at e
    · rename_i x h1 q1
      split at e
      · rename_i xs ex
        cases e
        refine ⟨w, ρ, h, _, h', S, E, q1, fun w1 H1 vs l1 S1 r1 => ?_⟩
        obtain ⟨v, rfl, rx⟩ := rel1 r1
        obtain ⟨a, us, rfl, ha, ra⟩ := itemsL_rel S1 rx ex
        refine ⟨a, us, rfl, SqL.of ha, b w1 H1 _ l1 S1 fun i w' H' h'' l S' => ⟨fun e2 => ?_, fun z e2 => ?_⟩⟩
        · simp only [enumN] at e2
          split at e2
          · rename_i xs' ex'
            obtain ⟨a', us', ea, ha', ra'⟩ := itemsL_rel S' (rx.mono0 l) ex'
            cases ea
            refine ⟨us', SqL.of ha', ?_⟩
            split at e2
            · cases e2
            · rename_i z1
              rw [← ra'.length]; exact List.getElem?_eq_none_iff.mp z1
            · cases e2
          · cases e2
        · simp only [enumN] at e2
          split at e2
          · rename_i xs' ex'
            obtain ⟨a', us', ea, ha', ra'⟩ := itemsL_rel S' (rx.mono0 l) ex'
            cases ea
            split at e2
            · rename_i d1 q1
              cases e2
              obtain ⟨v1, hv1, r1⟩ := ra'.get q1
              refine ⟨⟨us', v1, SqL.of ha', hv1⟩, fun y H'' ⟨T, x1, e3, hT, e4, k1⟩ => ?_⟩
              subst e3 e4
              have z1 := k1 _ (SqL.of ha')
              rw [hv1] at z1; cases z1
              cases r1 with
              | d r1 => exact pair_new S' (.int _) r1 hT
            · cases e2
            · cases e2
          · cases e2
      · cases e
    · cases e
/-! ### while -/
def FUEL : Nat := 1000000
def whileGo (c : TI') (b : SI) : Nat → En → Hh → Option Out
  | 0, _, _ => none
  | n + 1, ρ, h => match c ρ h with
    | some (true, h1) => match b ρ h1 with
      | some (.nx ρ2 h2) => whileGo c b n ρ2 h2
      | some (.ct ρ2 h2) => whileGo c b n ρ2 h2
      | some (.bk ρ2 h2) => some (.nx ρ2 h2)
      | some (.rt a h2) => some (.rt a h2)
      | none => none
    | some (false, h1) => some (.nx ρ h1)
    | none => none
def mWhile (c : TI') (b : SI) : SI := whileGo c b FUEL
theorem s_while {c : Expr} {body : List Stmt} {mc : TI'} {b : SI} {pos : Pos} (hp : PassesOwn (model X.prog X.w) X.A X.env X.xe) (hc : PT X c (rT X.mg mc)) (hb : PSs X body (rS X.mg b)) : PS X (.While c body [] pos) (rS X.mg (mWhile mc b)) :=
  PS.imp (ps_while hp hc hb) fun D σ H ⟨w, ρ, h, o, S, E, e, bb⟩ => by
    refine ⟨fun m σ H => ∃ w2 ρ2 h2, w.le w2 ∧ Sm X.mg w2 H h2 ∧ EnvOk X.mg w2 ρ2 σ ∧ whileGo mc b m ρ2 h2 = some o, ⟨FUEL, w, ρ, h, .rfl, S, E, e⟩, ?_⟩
    rintro m σ2 H2 ⟨w2, ρ2, h2, l2, S2, E2, e2⟩
    cases m with
    | zero => cases e2
    | succ m =>
      unfold whileGo at e2
      split at e2
      · rename_i h3 e3
        refine ⟨w2, ρ2, h2, true, h3, S2, E2, e3, fun w3 H3 l3 S3 => iteT ⟨fun σ' H' => ∃ w4 ρ4 h4, w.le w4 ∧ Sm X.mg w4 H' h4 ∧ EnvOk X.mg w4 ρ4 σ' ∧ whileGo mc b m ρ4 h4 = some o, fun σ' H' q' => ⟨m, Nat.lt_succ_self m, q'⟩, ?_⟩⟩
        split at e2
        · rename_i ρ4 h4 e4
          exact ⟨w3, ρ2, h3, _, S3, E2.mono l3, e4, fun w5 H5 σ5 l5 S5 E5 => ⟨w5, ρ4, h4, (l2.trans l3).trans l5, S5, E5, e2⟩⟩
        · rename_i ρ4 h4 e4
          exact ⟨w3, ρ2, h3, _, S3, E2.mono l3, e4, fun w5 H5 σ5 l5 S5 E5 => ⟨w5, ρ4, h4, (l2.trans l3).trans l5, S5, E5, e2⟩⟩
        · rename_i ρ4 h4 e4
          cases e2
          exact ⟨w3, ρ2, h3, _, S3, E2.mono l3, e4, fun w5 H5 σ5 l5 S5 E5 => bb w5 H5 σ5 ((l2.trans l3).trans l5) S5 E5⟩
        · rename_i a4 h4 e4
          cases e2
          exact ⟨w3, ρ2, h3, _, S3, E2.mono l3, e4, fun w5 H5 v5 l5 S5 r5 => bb w5 H5 v5 ((l2.trans l3).trans l5) S5 r5⟩
        · cases e2
      · rename_i h3 e3
        cases e2
        exact ⟨w2, ρ2, h2, false, h3, S2, E2, e3, fun w3 H3 l3 S3 => iteF (bb w3 H3 σ2 (l2.trans l3) S3 (E2.mono l3))⟩
      · cases e2
end
end F2
set_option Elab.async false
set_option linter.all false
set_option maxRecDepth 100000
set_option maxHeartbeats 4000000
namespace F2
open PySem PySem.Spec PyProof.Rows L2
section
variable {X : Cx}
def isSeq : PyData → Bool
  | .list _ => true
  | .tuple _ => true
  | _ => false
/-- repr of a list, a tuple -/
def fRepr : List A → Hh → Option (A × Hh)
  | [x], h => match pyOf x h with
    | some p => if isSeq p && p.showable && !p.hasDict && decide (p.depth ≤ 100) && decide (p.shown.length ≤ LIM) then some (.d (.str p.shown), h) else none
    | none => none
  | _, _ => none
theorem c_repr {k : Nat} (hr : Room k X.A) (hg : X.A.guards = some []) : CallI X (.builtin "repr") fRepr := by
  intro pins s σ H vs us Q I rv ⟨w, h, xs, a, h', S, r, e, b⟩
  unfold fRepr at e
  split at e
  · rename_i x
    split at e
    · rename_i p ep
      split at e
      · rename_i c
        simp only [Bool.and_eq_true, Bool.not_eq_true', decide_eq_true_eq] at c
        obtain ⟨⟨⟨⟨c1, c2⟩, c3⟩, c4⟩, c5⟩ := c
        cases e
        obtain ⟨v, rfl, rx⟩ := rel1 r
        obtain ⟨u, rfl, ru⟩ := Vals.one rv
        obtain ⟨as, rd⟩ := Dp.reads I p v u (pyOf_dp S rx ep) ru
        have hv : ∃ l, u = .ref l := by cases rd <;> first | exact ⟨_, rfl⟩ | (simp [isSeq] at c1)
        obtain ⟨l, rfl⟩ := hv
        have hun := hr.un
        exact repr_of_reads' rd c2 (fun z => by rw [c3] at z; cases z) hg (by omega) (fun _ _ q => q) (fun h2 tk1 tk2 hk => ⟨.str p.shown, H, I.kept hk, ⟨_, rfl⟩, b w H _ .rfl S (.d (.str _))⟩) (lim_size c5)
      · cases e
    · cases e
  · cases e
end
end F2
set_option Elab.async false
set_option linter.all false
set_option maxRecDepth 100000
set_option maxHeartbeats 4000000
namespace F2
open PySem PySem.Spec PyProof.Rows L2
section
variable {X : Cx}
/-- a list or a tuple -/
def srcQ (m : EI) : SrcI := fun ρ h => match srcL m ρ h with
  | some r => some r
  | none => srcT m ρ h
theorem PI.or {tg e : Expr} {t t' : TI} (p : PI X tg e t) (q : PI X tg e t') : PI X tg e (fun σ H R => t σ H R ∨ t' σ H R) := ⟨fun pins s σ H R I z => z.elim (p.run pins s σ H R I) (q.run pins s σ H R I)⟩
theorem i_seq {tg l : Expr} {m : EI} (hl : PE X l (rE X.mg m)) : PI X tg l (iS X.mg (srcQ m)) := PI.imp (PI.or (i_list hl) (i_tup hl)) fun σ H R ⟨w, ρ, h, s, h', S, E, e, b⟩ => by
  unfold srcQ at e
  split at e
  · rename_i r q
    cases e
    exact .inl ⟨w, ρ, h, s, h', S, E, q, b⟩
  · exact .inr ⟨w, ρ, h, s, h', S, E, e, b⟩
end
end F2
set_option Elab.async false
set_option linter.all false
set_option maxRecDepth 100000
set_option maxHeartbeats 4000000
namespace F2
open PySem PySem.Spec PyProof.Rows L2
/-! ### calls by names -/
/-- the ones at these places -/
def perm {α : Type} (ix : List Nat) (xs : List α) : List α := ix.filterMap fun i => xs[i]?
theorem vals_at : ∀ {vs : List V} {us : List Value}, Vals vs us → ∀ i : Nat, (vs[i]? = none ∧ us[i]? = none) ∨ ∃ v u, vs[i]? = some v ∧ us[i]? = some u ∧ RelV v u
  | _, _, .nil, i => .inl ⟨rfl, rfl⟩
  | _, _, .cons h t, 0 => .inr ⟨_, _, rfl, rfl, h⟩
  | _, _, .cons h t, i + 1 => by simpa using vals_at t i
theorem Vals.perm' {vs : List V} {us : List Value} (r : Vals vs us) : ∀ ix : List Nat, Vals (perm ix vs) (perm ix us)
  | [] => .nil
  | i :: ix => by
    have ih := Vals.perm' r ix
    unfold perm at ih ⊢
    rcases vals_at r i with ⟨a, b⟩ | ⟨v, u, a, b, h⟩
    · simp only [List.filterMap_cons, a, b]; exact ih
    · simp only [List.filterMap_cons, a, b]; exact .cons h ih
theorem RelAs.at' {mg : Mg} {w : Wd} : ∀ {as : List A} {vs : List V}, RelAs mg w as vs → ∀ i : Nat, (as[i]? = none ∧ vs[i]? = none) ∨ ∃ a v, as[i]? = some a ∧ vs[i]? = some v ∧ RelA mg w a v
  | _, _, .nil, i => .inl ⟨rfl, rfl⟩
  | _, _, .cons h t, 0 => .inr ⟨_, _, rfl, rfl, h⟩
  | _, _, .cons h t, i + 1 => by simpa using RelAs.at' t i
theorem RelAs.perm {mg : Mg} {w : Wd} {as : List A} {vs : List V} (r : RelAs mg w as vs) : ∀ ix : List Nat, RelAs mg w (F2.perm ix as) (F2.perm ix vs)
  | [] => .nil
  | i :: ix => by
    have ih := RelAs.perm r ix
    unfold F2.perm at ih ⊢
    rcases RelAs.at' r i with ⟨a, b⟩ | ⟨v, u, a, b, h⟩
    · simp only [List.filterMap_cons, a, b]; exact ih
    · simp only [List.filterMap_cons, a, b]; exact .cons h ih
/-- a def without defaults, n values by place, the others by names, whose values stand at the places ix -/
theorem kplain {K : PySem.W.Frag} {x qual : Str} {params : Arguments} {body : List Stmt} {scope : Scope} {f : Addr} {fd : FuncData} {ps : List Str} (F : FunD K x qual params body scope [] [] f fd) (n : Nat) (ks : List Str) (ix : List Nat)
    (h : ∀ (kV doc pm : Value) (an : Option Addr) (cdv ct : Value) (us ws : List Value), us.length = n → ws.length = ks.length → bindArgs (PySem.W.fnOf x qual params body scope .none kV doc pm an cdv ct) ⟨us, ks.zip ws⟩ = pure (ps.zip (us ++ perm ix ws))) :
    KBn K fd ps n ks (fun us ws => us ++ perm ix ws) (fun vs zs => vs ++ perm ix zs) := by
  obtain ⟨oc, od, dV, kV, doc, pm, an, cdv, ct, osl, rfl, lk, hcd, hD, hK⟩ := F.ex
  rcases hD with ⟨_, rfl⟩ | ⟨e, _⟩
  · exact ⟨fun s us ws X l1 l2 => .of_eq (h kV doc pm an cdv ct us ws l1 l2), fun r1 r2 => r1.append (Vals.perm' r2 ix)⟩
  · exact absurd rfl e
section
variable {X : Cx} {CX : CXT} {k : Nat} {f C : Addr} {fd : FuncData} {ps ks : List Str} {sp : Sp} {E : XK} {x mt : Str} {p pos apos kpos : Pos} {o e : Expr} {kws : List Keyword} {ta : TE} {tk : TA} {g : List Value → List Value → List Value} {gV : List V → List V → List V} {nm : Option Str}
theorem k_nil : PK X [] (rA X.mg mNil) := ⟨fun pos pins s σ H Q I ⟨w, ρ, h, as, h', S, E, e, b⟩ => by
  cases e
  exact pk_nil.run pos pins s σ H Q I (b w H [] .rfl S .nil)⟩
theorem k_cons (nk : Str) {m : EI} {r : AI} (ha : PE X e (rE X.mg m)) (hr : PK X kws (rA X.mg r)) : PK X (⟨some nk, e, kpos⟩ :: kws) (rA X.mg (mCons m r)) := ⟨fun pos pins s σ H Q I ⟨w, ρ, h, k, h', S, E, e, b⟩ => by
  refine (pk_cons ha hr).run pos pins s σ H Q I ?_
  unfold mCons at e
  split at e
  · rename_i x h1 e1
    split at e
    · rename_i xs h2 e2
      cases e
      exact ⟨w, ρ, h, x, h1, S, E, e1, fun w1 H1 v l1 S1 r1 => ⟨w1, ρ, h1, xs, h', S1, E.mono l1, e2, fun w2 H2 vs l2 S2 r2 => b w2 H2 _ (l1.trans l2) S2 (.cons (r1.mono l2) r2)⟩⟩
    · cases e
  · cases e⟩
theorem pe_callK0 (F : FnOk X.prog X.w X.K X.mg X.base CX k f fd ps sp) (hr : Room k X.A) (hg : Gl X x) (hm : X.mg x = some (.ref f)) (hk : PySem.W.keepIn X.K (.ref f) = true) (hb : KBn X.K fd ps 0 ks g gV) (hx : Passes CX X E)
    (hkw : PK X kws tk) (hall : (backToKw pos (keywordEach kws X.env)).all (·.1.isSome) = true := by rfl) (hks : (backToKw pos (keywordEach kws X.env)).filterMap (·.1) = ks := by rfl) (hdb : (x == ("__debug__" : Str)) = false := by decide)
    (hpl : ((backTo pos (starEach [] X.env)).any (·.1) || (backToKw pos (keywordEach kws X.env)).any (·.1.isNone)) = false := by rfl) :
    PE X (.Call (.Name x p) [] kws pos) (tCallN 0 ks.length sp gV E tNil tk) := by
  refine ⟨fun pins s σ H Q I h => ?_⟩
  refine wpAny_Call_Name_kw (ld_glob I hg hm ?_ hdb)
  refine PySem.W.callWith_KW0 (h₀ := X.base) I.ok.mod.kin hk hall ?_ hpl
  refine thn (hkw.run pos pins s σ H _ I h) fun ws s2 ⟨zs, H2, I2, rz, l1, l2, q2⟩ => ⟨I2.kIn, ?_⟩
  rw [hks]
  exact run_fnN (us := []) (vs := []) F hr hb hx I2 .nil rz rfl l2 q2
def tMethK (C : Addr) (m : Str) (n : Nat) (sp : Sp) (gV : List V → List V → List V) (E : XK) (ta : TE) (tk : TA) : TE := fun σ H Q => ta σ H fun x H1 => ∃ a dx fs, x = .ref a ∧ H1 a = some (.ins C dx fs) ∧ fs.lookup m = none ∧ tk σ H1 fun zs H2 => zs.length = n ∧ sp (gV [.ref a] zs) H2 Q E
theorem pe_methK0 {pl : Sem Bool} (he : PE X o ta) (c : Cls X.K C) (hm : Meth X.K C mt f) (F : FnOk X.prog X.w X.K X.mg X.base CX k f fd ps sp) (hr : Room k X.A) (hb : KBn X.K fd ps 1 ks g gV) (hx : Passes CX X E) (hkw : PK X kws tk)
    (hall : (backToKw pos (keywordEach kws X.env)).all (·.1.isSome) = true := by rfl) (hks : (backToKw pos (keywordEach kws X.env)).filterMap (·.1) = ks := by rfl)
    (hpl : ((backTo pos (starEach [] X.env)).any (·.1) || (backToKw pos (keywordEach kws X.env)).any (·.1.isNone)) = false := by rfl)
    (ht : eval (.Call (.Attribute o mt apos) [] kws pos) X.env = (do
      let ov ← eval o X.env
      standAt apos.atName
      let (f, first) ← holding [ov] (getMethod ov mt pl)
      callWith pos f first (backTo pos (starEach [] X.env)) (backToKw pos (keywordEach kws X.env))) := by rfl) :
    PE X (.Call (.Attribute o mt apos) [] kws pos) (tMethK C mt ks.length sp gV E ta tk) := by
  refine ⟨fun pins s σ H Q I h => ?_⟩
  refine PySem.W.methodCall_KW (pl := pl) (thn (he.run pins s σ H _ I h) fun u s1 ⟨x, H1, I1, rx, a, dx, fs, ex, ea, l, q⟩ => ?_) ht
  subst ex
  obtain rfl : u = Value.ref a := rx
  refine getmeth_ok I1 ea c hm l ?_
  refine PySem.W.callWith_KW0 (first := [.ref a]) (h₀ := X.base) I1.ok.mod.kin hm.kp hall ?_ hpl
  refine thn (hkw.run pos pins s1 σ H1 _ I1 q) fun ws s2 ⟨zs, H2, I2, rz, l2, q2⟩ => ⟨I2.kIn, ?_⟩
  rw [hks]
  exact run_fnN (us := [.ref a]) (vs := [.ref a]) F hr hb hx I2 (.cons rfl .nil) rz rfl l2 q2
end
section
variable {X : Cx} {k : Nat} {f C : Addr} {fd : FuncData} {ps ks : List Str} {F : FnI} {x mt : Str} {p pos apos : Pos} {o : Expr} {kws : List Keyword} {mo : EI} {m : AI}
def mCallK (n : Nat) (ix : List Nat) (F : FnI) (m : AI) : EI := mOn (fun as h => if as.length = n then F (perm ix as) h else none) m
/-- f(k = v, ..) -/
theorem e_callK (ix : List Nat) (G : Ok X.prog X.w X.K X.mg X.base k f fd ps F) (hn : ∀ xs h, (F xs h).isSome = true → xs.length = ps.length) (hr : Room k X.A) (hm : X.mg x = some (.ref f)) (hk : PySem.W.keepIn X.K (.ref f) = true) (hb : KBn X.K fd ps 0 ks (fun us ws => us ++ perm ix ws) (fun vs zs => vs ++ perm ix zs))
    (hkw : PK X kws (rA X.mg m)) (hg : Gl X x := by rfl) (hall : (backToKw pos (keywordEach kws X.env)).all (·.1.isSome) = true := by rfl) (hks : (backToKw pos (keywordEach kws X.env)).filterMap (·.1) = ks := by rfl) (hdb : (x == ("__debug__" : Str)) = false := by decide)
    (hpl : ((backTo pos (starEach [] X.env)).any (·.1) || (backToKw pos (keywordEach kws X.env)).any (·.1.isNone)) = false := by rfl) :
    PE X (.Call (.Name x p) [] kws pos) (rE X.mg (mCallK ks.length ix F m)) :=
  PE.imp (pe_callK0 G hr hg hm hk hb pass0 hkw hall hks hdb hpl) fun σ H Q q => by
    obtain ⟨w, ρ, h, as, h', S, E, e1, k1⟩ := on_split (X := X) q
    refine ⟨w, ρ, h, as, h', S, E, e1, fun w1 H1 vs l1 S1 r1 => ?_⟩
    obtain ⟨w2, h2, xs, a, h3, S2, r2, e2, b⟩ := k1 w1 H1 vs l1 S1 r1
    split at e2
    · rename_i hl
      have rp := RelAs.perm r2 ix
      exact ⟨rfl, by rw [← r2.length]; exact hl, by show (F2.perm ix vs).length = _; rw [← rp.length]; exact hn _ _ (by rw [e2]; rfl), w2, h2, _, a, h3, S2, rp, e2, b⟩
    · cases e2
def mMakeK (c : Str) (n : Nat) (ix : List Nat) (F : FnI) (m : AI) : EI := mOn (fun as h => if as.length = n ∧ (perm ix as).length = n then mkObj c F (perm ix as) h else none) m
/-- C(k = v, ..) -/
theorem e_mkK (c : Str) (ix : List Nat) (hps : ks.length + 1 = ps.length) (hC : X.mg c = some (.ref C)) (M : Mk X.K C f) (G : Ok X.prog X.w X.K X.mg X.base k f fd ps F) (hr : Room (k + 1) X.A) (hb : KBn X.K fd ps 1 ks (fun us ws => us ++ perm ix ws) (fun vs zs => vs ++ perm ix zs))
    (hkw : PK X kws (rA X.mg m)) (hg : Gl X c := by rfl) (hall : (backToKw pos (keywordEach kws X.env)).all (·.1.isSome) = true := by rfl) (hks : (backToKw pos (keywordEach kws X.env)).filterMap (·.1) = ks := by rfl) (hdb : (c == ("__debug__" : Str)) = false := by decide)
    (hpl : ((backTo pos (starEach [] X.env)).any (·.1) || (backToKw pos (keywordEach kws X.env)).any (·.1.isNone)) = false := by rfl) :
    PE X (.Call (.Name c p) [] kws pos) (rE X.mg (mMakeK c ks.length ix F m)) :=
  PE.imp (pe_makeK0 M G hr hg hC hb pass0 hkw hall hks hdb hpl) fun σ H Q q => by
    obtain ⟨w, ρ, h, as, h', S, E, e1, k1⟩ := on_split (X := X) q
    refine ⟨w, ρ, h, as, h', S, E, e1, fun w1 H1 vs l1 S1 r1 => ?_⟩
    obtain ⟨w2, h2, xs, a, h3, S2, r2, e2, b⟩ := k1 w1 H1 vs l1 S1 r1
    split at e2
    · rename_i hl
      refine ⟨rfl, by rw [← r2.length]; exact hl.1, fun x dx hx hdx ne => ?_⟩
      exact mkObj_ok hC S2 (RelAs.perm r2 ix) (by rw [hl.2]; exact hps) e2 b hx hdx ne
    · cases e2
def mMthK (c mt : Str) (n : Nat) (ix : List Nat) (F : FnI) (mo : EI) (r : AI) : EI := fun ρ h => match mo ρ h with
  | some (x, h1) => match fieldsOf c x h1 with
    | some fs => if fs.lookup mt = none then match r ρ h1 with
      | some (xs, h2) => if xs.length = n then F (x :: perm ix xs) h2 else none
      | none => none
      else none
    | none => none
  | none => none
/-- o.m(k = v, ..) -/
theorem e_mthK (c : Str) (ix : List Nat) {pl : Sem Bool} (hC : X.mg c = some (.ref C)) (cl : Cls X.K C) (hm : Meth X.K C mt f) (G : Ok X.prog X.w X.K X.mg X.base k f fd ps F) (hn : ∀ xs h, (F xs h).isSome = true → xs.length = ps.length) (hr : Room k X.A) (hb : KBn X.K fd ps 1 ks (fun us ws => us ++ perm ix ws) (fun vs zs => vs ++ perm ix zs))
    (ho : PE X o (rE X.mg mo)) (hkw : PK X kws (rA X.mg m)) (hall : (backToKw pos (keywordEach kws X.env)).all (·.1.isSome) = true := by rfl) (hks : (backToKw pos (keywordEach kws X.env)).filterMap (·.1) = ks := by rfl)
    (hpl : ((backTo pos (starEach [] X.env)).any (·.1) || (backToKw pos (keywordEach kws X.env)).any (·.1.isNone)) = false := by rfl)
    (ht : eval (.Call (.Attribute o mt apos) [] kws pos) X.env = (do
      let ov ← eval o X.env
      standAt apos.atName
      let (f, first) ← holding [ov] (getMethod ov mt pl)
      callWith pos f first (backTo pos (starEach [] X.env)) (backToKw pos (keywordEach kws X.env))) := by rfl) :
    PE X (.Call (.Attribute o mt apos) [] kws pos) (rE X.mg (mMthK c mt ks.length ix F mo m)) :=
  PE.imp (pe_methK0 (pl := pl) ho cl hm G hr hb pass0 hkw hall hks hpl ht) fun σ H Q ⟨w, ρ, h, a, h', S, E, e, b⟩ => by
    unfold mMthK at e
    split at e
    · rename_i x h1 e1
      split at e
      · rename_i fs ef
        split at e
        · rename_i hl
          split at e
          · rename_i xs h2 e2
            split at e
            · rename_i hx
              refine ⟨w, ρ, h, x, h1, S, E, e1, fun w1 H1 v l1 S1 r1 => ?_⟩
              obtain ⟨p, dx, gs, rfl, hp, rf⟩ := fieldsOf_rel S1 hC r1 ef
              refine ⟨p, dx, gs, rfl, hp, lookup_none rf hl, w1, ρ, h1, xs, h2, S1, E.mono l1, e2, fun w2 H2 vs l2 S2 r2 => ?_⟩
              have r3 : RelAs X.mg w2 (x :: F2.perm ix xs) (V.ref p :: F2.perm ix vs) := .cons (r1.mono l2) (RelAs.perm r2 ix)
              exact ⟨by rw [← r2.length]; exact hx, by show (V.ref p :: F2.perm ix vs).length = _; rw [← r3.length]; exact hn _ _ (by rw [e]; rfl), w2, h2, x :: F2.perm ix xs, a, h', S2, r3, e, b.le (l1.trans l2)⟩
            · cases e
          · cases e
        · cases e
      · cases e
    · cases e
end
end F2
set_option Elab.async false
set_option linter.all false
set_option maxRecDepth 100000
set_option maxHeartbeats 4000000
namespace F2
open PySem PySem.Spec PyProof.Rows L2
/-! ### own str, repr, ==, truth -/
section
variable {X : Cx} {pins : List (Addr × Obj)} {σ : L2.St} {H : Hp} {s : Shared}
/-- an own def called from within -/
theorem own_call {k : Nat} {f : Addr} {fd : FuncData} {ps : List Str} {F : FnI} {A1 : Around} {w : Wd} {h h1 : Hh} {xs : List A} {vs : List V} {us : List Value} {a : A} {Q : VK} (G : Ok X.prog X.w X.K X.mg X.base k f fd ps F) (hr : Room k A1) (e0 : Env0 X.prog X.w X.K X.mg X.base A1 X.stack s H) (hb : Binds X.K fd ps [])
    (I : Inv X pins σ H s) (S : Sm X.mg w H h) (r : RelAs X.mg w xs vs) (rv : Vals vs us) (hl : xs.length = ps.length) (e : F xs h = some (a, h1)) (b : Bh X.mg w h1 a Q) : wpAny (model X.prog X.w) A1 (call (.ref f) us) (EP X pins σ Q) X.xe s := by
  have hsp : spI X.mg ps.length F vs H Q E0 := ⟨by rw [← r.length]; exact hl, w, h, xs, a, h1, S, r, e, b⟩
  have hlu : us.length = ps.length := by rw [← rv.length, ← r.length]; exact hl
  refine wpAny_call (codeAny_mono (G.run A1 X.stack s H ⟨us, []⟩ us vs Q E0 hr e0 (by
    have := hb s us I.kIn (by simpa using hlu)
    simpa using this) rv hsp) fun r s' hq => ?_)
  cases r with
  | error e => exact pass0 pins σ H s e s' I hq
  | ok fl =>
    cases fl with
    | ret w => exact I.after hq
    | next => exact False.elim hq
    | brk => exact False.elim hq
    | cont => exact False.elim hq
def fStrC (c : Str) (F : FnI) : List A → Hh → Option (A × Hh)
  | [x], h => match fieldsOf c x h with
    | some _ => match F [x] h with
      | some (.d (.str y), h1) => some (.d (.str y), h1)
      | _ => none
    | none => none
  | _, _ => none
theorem relstrV {mg : Mg} {w : Wd} {i : Str} {v : V} (r : RelA mg w (.d (.str i)) v) : v = .str i := relstr r
theorem c_strC (c : Str) {C f : Addr} {k : Nat} {fd : FuncData} {ps : List Str} {F : FnI} (hC : X.mg c = some (.ref C)) (M : Meth X.K C "__str__" f) (G : Ok X.prog X.w X.K X.mg X.base k f fd ps F) (h1 : ps.length = 1) (hr : Room (k + 2) X.A) (hb : Binds X.K fd ps []) : CallI X (.type "str") (fStrC c F) := by
  intro pins s σ H vs us Q I rv ⟨w, h, xs, a, h', S, r, e, b⟩
  unfold fStrC at e
  split at e
  · rename_i x
    split at e
    · rename_i fs ef
      split at e
      · rename_i y g eF
        cases e
        obtain ⟨v, rfl, rx⟩ := rel1 r
        obtain ⟨p, dx, gs, rfl, hp, rf⟩ := fieldsOf_rel S hC rx ef
        obtain ⟨u, rfl, ru⟩ := Vals.one rv
        cases ru
        obtain ⟨mA, J, _⟩ := ins_get I.hok hp
        obtain ⟨od, J2, _⟩ := J.look
        have hu := hr.in1.in1.un
        refine PySem.W.kso_call (by omega) I.kIn J2 M.at_ M.fn ?_
        refine wpAny_mono (own_call (Q := fun v H' => v = .str y ∧ Q (.str y) H') G hr.in1.in1 I.env0.in1.in1 hb I S r (.cons rfl .nil) (by rw [h1]; rfl) eF (fun w1 H1 v1 l1 S1 r3 => ?_)) (fun v s' hv => ?_) fun _ _ z => z
        · cases relstrV r3
          exact ⟨rfl, b w1 H1 _ l1 S1 (.d (.str _))⟩
        · obtain ⟨z, H', I', rz, ez, qq⟩ := hv
          subst ez
          obtain ⟨t, q⟩ := (show ∃ t, v = Value.str y t from rz)
          subst q
          exact ⟨.str y, H', I', ⟨_, rfl⟩, qq⟩
      · cases e
    · cases e
  · cases e
theorem c_reprC (c : Str) {C f : Addr} {k : Nat} {fd : FuncData} {ps : List Str} {F : FnI} (hC : X.mg c = some (.ref C)) (M : Meth X.K C "__repr__" f) (G : Ok X.prog X.w X.K X.mg X.base k f fd ps F) (h1 : ps.length = 1) (hr : Room (k + 1) X.A) (hb : Binds X.K fd ps []) : CallI X (.builtin "repr") (fStrC c F) := by
  intro pins s σ H vs us Q I rv ⟨w, h, xs, a, h', S, r, e, b⟩
  unfold fStrC at e
  split at e
  · rename_i x
    split at e
    · rename_i fs ef
      split at e
      · rename_i y g eF
        cases e
        obtain ⟨v, rfl, rx⟩ := rel1 r
        obtain ⟨p, dx, gs, rfl, hp, rf⟩ := fieldsOf_rel S hC rx ef
        obtain ⟨u, rfl, ru⟩ := Vals.one rv
        cases ru
        obtain ⟨mA, J, _⟩ := ins_get I.hok hp
        obtain ⟨od, J2, _⟩ := J.look
        obtain ⟨m, FR⟩ := I.fr
        have hu := hr.in1.un
        refine PySem.W.repr_K (by omega) FR I.ok.mod.kin J2 M.at_ M.fn ?_
        refine wpAny_mono (own_call (Q := fun v H' => v = .str y ∧ Q (.str y) H') G hr.in1 I.env0.in1 hb I S r (.cons rfl .nil) (by rw [h1]; rfl) eF (fun w1 H1 v1 l1 S1 r3 => ?_)) (fun v s' hv => ?_) fun _ _ z => z
        · cases relstrV r3
          exact ⟨rfl, b w1 H1 _ l1 S1 (.d (.str _))⟩
        · obtain ⟨z, H', I', rz, ez, qq⟩ := hv
          subst ez
          obtain ⟨t, q⟩ := (show ∃ t, v = Value.str y t from rz)
          subst q
          exact ⟨.str y, H', I', ⟨_, rfl⟩, qq⟩
      · cases e
    · cases e
  · cases e
end
end F2
set_option Elab.async false
set_option linter.all false
set_option maxRecDepth 100000
set_option maxHeartbeats 4000000
namespace F2
open PySem PySem.Spec PyProof.Rows L2
/-! ### bool of an instance without a truth of its own -/
structure NoTruth (K : PySem.W.Frag) (C : Addr) : Prop where
  hb : PySem.W.findIn K (.ref C) "__bool__" = some none
  hl : PySem.W.findIn K (.ref C) "__len__" = some none
open PySem.Sem (wp) in
theorem meets_bool_own {K : PySem.W.Frag} {p C : Addr} {ox : Obj} {od : Option Obj} (N : NoTruth K C) :
    Meets (Builtin.«bool.__new__» ⟨[.type "bool", .ref p], []⟩) (fun _ R s => (K.In s.heap ∧ PySem.W.InstAt s.heap p ox C od ∧ ∃ h0 L m, PyProof.Rows.Fr h0 L s.heap m ∧ K.In h0) ∧ R (.ok (.ret (.bool true))) s) :=
  Meets.of_wp fun prog w A R s hs => by
    obtain ⟨⟨KI, J, h0, L, m, FR, K0⟩, hs⟩ := hs
    obtain ⟨hp, g, d, tk, os⟩ := s
    have f1 := F.conv_sub_bool
    repeat (any_goals (first | assumption | (with_reducible refine PySem.W.truthy_K0 FR K0 J N.hb N.hl ?_) | wp_step))
    all_goals first | exact ⟨_, rfl, hs⟩ | exact hs | skip
section
variable {X : Cx} {pins : List (Addr × Obj)} {σ : L2.St} {H : Hp} {s : Shared}
def fBoolC (c : Str) : List A → Hh → Option (A × Hh)
  | [x], h => match fieldsOf c x h with
    | some _ => some (.d (.bl true), h)
    | none => none
  | _, _ => none
theorem c_boolC (c : Str) {C : Addr} (hC : X.mg c = some (.ref C)) (N : NoTruth X.K C) : CallI X (.type "bool") (fBoolC c) := by
  intro pins s σ H vs us Q I rv ⟨w, h, xs, a, h', S, r, e, b⟩
  unfold fBoolC at e
  split at e
  · rename_i x
    split at e
    · rename_i fs ef
      cases e
      obtain ⟨v, rfl, rx⟩ := rel1 r
      obtain ⟨p, dx, gs, rfl, hp, rf⟩ := fieldsOf_rel S hC rx ef
      obtain ⟨u, rfl, ru⟩ := Vals.one rv
      cases ru
      obtain ⟨mA, J, _⟩ := ins_get I.hok hp
      obtain ⟨od, J2, _⟩ := J.look
      obtain ⟨m, FR⟩ := I.fr
      exact call_bool_1 (meets_bool_own N) ⟨⟨I.kIn, J2, _, _, _, FR, I.ok.mod.kin⟩, rfl, ⟨.bl true, H, I, rfl, b w H _ .rfl S (.d (.bl _))⟩⟩
    · cases e
  · cases e
/-! ### own == against any value -/
def NF (K : PySem.W.Frag) (C : Addr) : Prop := ∀ T ∈ ["NoneType", "bool", "int", "str", "tuple", "list", "dict"], PySem.W.notFirst K C (.type T) = true
theorem looks_cls {M : Model} {h : Heap} {a : Addr} {o : Obj} {t : Value} (e : h.get? a = some o) (c : o.cls = t) : PySem.W.Looks M h (typeOf (.ref a)) t := by
  rw [← c]
  exact (PySem.W.Looks.ld e).andThen .now
theorem looks_ty {M : Model} {x : V} {u : Value} {T : String} (I : Inv X pins σ H s) (rx : RelV x u) (ty : TyX X.K H x (.type T)) (hT : T ∈ ["NoneType", "bool", "int", "str", "tuple", "list", "dict"]) : PySem.W.Looks M s.heap (typeOf u) (.type T) := by
  cases ty with
  | base b =>
    cases b with
    | non => cases (show u = Value.none from rx); exact .now
    | bl y => cases (show u = Value.bool y from rx); exact .now
    | int i => obtain ⟨t, q⟩ := (show ∃ t, u = Value.int i t from rx); cases q; exact .now
    | str y => obtain ⟨t, q⟩ := (show ∃ t, u = Value.str y t from rx); cases q; exact .now
    | flt y => simp at hT
    | @lst a xs ea =>
      cases (show u = Value.ref a from rx)
      obtain ⟨_, _, n, _, h1⟩ := (show ObjOk X.prog X.w H s.heap a (.lst xs) from I.hok a _ ea)
      exact looks_cls h1 rfl
    | @frz a ob xs ea =>
      cases (show u = Value.ref a from rx)
      obtain ⟨_, _, _, n, _, h1⟩ := (show ObjOk X.prog X.w H s.heap a (.frz ob (.lst xs)) from I.hok a _ ea)
      exact looks_cls h1 rfl
    | @tup a xs ea =>
      cases (show u = Value.ref a from rx)
      obtain ⟨_, _, _, o, h1, h2, _⟩ := (show ObjOk X.prog X.w H s.heap a (.tup xs) from I.hok a _ ea)
      exact looks_cls h1 h2
    | @dK a kvs ea =>
      cases (show u = Value.ref a from rx)
      obtain ⟨_, _, vs, _, o, es, ep, h1, h2, _⟩ := (show ObjOk X.prog X.w H s.heap a (.dK kvs) from I.hok a _ ea)
      exact looks_cls h1 h2.1
    | @dT a kvs ea =>
      cases (show u = Value.ref a from rx)
      obtain ⟨_, _, xs, _, o, es, ep, h1, h2, _⟩ := (show ObjOk X.prog X.w H s.heap a (.dT kvs) from I.hok a _ ea)
      exact looks_cls h1 h2.1
  | byt b => simp at hT
  | set e => simp at hT
  | @kList a o e c =>
    cases (show u = Value.ref a from rx)
    exact looks_cls (I.kIn _ _ e) c
  | @kTuple a o e c =>
    cases (show u = Value.ref a from rx)
    exact looks_cls (I.kIn _ _ e) c
  | @kDict a o e c =>
    cases (show u = Value.ref a from rx)
    exact looks_cls (I.kIn _ _ e) c
  | @fTuple a o xs e =>
    cases (show u = Value.ref a from rx)
    obtain ⟨_, _, _, _, o2, h1, h2, _⟩ := (show ObjOk X.prog X.w H s.heap a (.frz o (.tup xs)) from I.hok a _ e)
    exact looks_cls h1 h2
  | @fDict a o kvs e =>
    cases (show u = Value.ref a from rx)
    obtain ⟨_, _, _, vs, _, o2, es, ep, h1, h2, _⟩ := (show ObjOk X.prog X.w H s.heap a (.frz o (.dK kvs)) from I.hok a _ e)
    exact looks_cls h1 h2.1
theorem tyName_in {x : A} {h : Hh} {T : String} (e : tyName x h = some T) : T ∈ ["NoneType", "bool", "int", "str", "tuple", "list", "dict"] := by
  unfold tyName at e
  split at e <;> first | (cases e; decide) | (split at e <;> first | (cases e; decide) | cases e) | cases e
/-- what stands on the right -/
def isRt (c : Str) (y : A) (h : Hh) : Bool := (fieldsOf c y h).isSome || (tyName y h).isSome
theorem right_ty {M : Model} {c : Str} {C : Addr} {w : Wd} {h : Hh} {y : A} {v : V} {u : Value} (I : Inv X pins σ H s) (hC : X.mg c = some (.ref C)) (nf : NF X.K C) (S : Sm X.mg w H h) (r : RelA X.mg w y v) (ru : RelV v u) (e : isRt c y h = true) :
    ∃ tb, PySem.W.Looks M s.heap (typeOf u) tb ∧ PySem.W.notFirst X.K C tb = true := by
  unfold isRt at e
  rw [Bool.or_eq_true] at e
  rcases e with e | e
  · obtain ⟨fs, ef⟩ := Option.isSome_iff_exists.mp e
    obtain ⟨q, dy, ws, rfl, hq, rg⟩ := fieldsOf_rel S hC r ef
    cases ru
    obtain ⟨mB, J, _⟩ := ins_get I.hok hq
    obtain ⟨od, J2, _⟩ := J.look
    exact ⟨.ref C, J2.type, by simp [PySem.W.notFirst]⟩
  · obtain ⟨T, et⟩ := Option.isSome_iff_exists.mp e
    exact ⟨.type T, looks_ty I ru (tyName_rel S r et) (tyName_in et), nf T (tyName_in et)⟩
def fEqC (neg : Bool) (c : Str) (F : FnI) : A → A → Hh → Option (A × Hh) := fun x y h => match fieldsOf c x h with
  | some _ => if isRt c y h then match F [x, y] h with
    | some (.d (.bl b), h1) => some (.d (.bl (neg ^^ b)), h1)
    | _ => none
    else none
  | none => none
theorem o_eqC (c : Str) {C f : Addr} {fd : FuncData} {ps : List Str} {F : FnI} {k : Nat} (hC : X.mg c = some (.ref C)) (M : Meth X.K C "__eq__" f) (nf : NF X.K C) (G : Ok X.prog X.w X.K X.mg X.base k f fd ps F) (h2 : ps.length = 2) (hr : Room k X.A) (hb : Binds X.K fd ps []) : OpI X (compareOp .Eq) (fEqC false c F) := by
  intro pins s σ H vx vy v u Q I rx ry ⟨w, h, x, y, a, h', S, r1, r2, e, b⟩
  unfold fEqC at e
  split at e
  · rename_i fs ef
    split at e
    · rename_i hy
      split at e
      · rename_i b0 g eF
        cases e
        obtain ⟨p, dx, us, rfl, hp, rf⟩ := fieldsOf_rel S hC r1 ef
        cases rx
        obtain ⟨mA, J, _⟩ := ins_get I.hok hp
        obtain ⟨od, J2, _⟩ := J.look
        obtain ⟨m, FR⟩ := I.fr
        obtain ⟨tb, lt, nt⟩ := right_ty I hC nf S r2 ry hy
        have hu := hr.un
        refine PySem.W.cmp_ofEq (PySem.W.cmp_K (op := .Eq) (by omega) FR I.ok.mod.kin J2 lt nt M.at_ M.fn ?_)
        refine wpAny_mono (own_call (Q := fun v H' => v = .bl b0 ∧ Q (.bl b0) H') G hr I.env0 hb I S (.cons r1 (.cons r2 .nil)) (.cons rfl (.cons ry .nil)) (by rw [h2]; rfl) eF (fun w1 H1 v1 l1 S1 r3 => ?_)) (fun v s' hv => ?_) fun _ _ z => z
        · cases relbl r3
          exact ⟨rfl, by have := b w1 H1 _ l1 S1 (.d (.bl _)); simpa using this⟩
        · obtain ⟨z, H', I', rz, ez, qq⟩ := hv
          subst ez
          cases rz
          exact ⟨.bl b0, H', I', rfl, qq⟩
      · cases e
    · cases e
  · cases e
end
section
variable {prog : Program} {w : World} {A : Around} {E : Value → Shared → Prop} {h : Heap} {g : Array GenState} {d : Drawn} {t : Nat} {os : OsState} {C x f : Addr} {y : Value} {B : String} {bm : List Value}
theorem ne_entry (X : h.OwnEqNoNe x C f B bm) (hu : A.units < cLine) {Q : Fin → Shared → Prop}
    (hcall : wpAny (model prog w) A (call (.ref f) [.ref x, y]) (fun v s' => ∃ b, v = .bool b ∧ Q (.done (.ret (.bool (!b)))) s') E ⟨h, g, d, t, os⟩) :
    wpAny (model prog w) A (Builtin.«object.__ne__» ⟨[.ref x, y], []⟩) Q E ⟨h, g, d, t, os⟩ := by
  unfold Builtin.«object.__ne__»
  repeat (first
    | with_reducible refine wpAny_cRoomFor hu ?_
    | (refine wpAny_bind (m := callSpecialIfBound? (.ref x) (Str.ofString "__eq__") [y])
        (wpAny_callSpecialIfBound?_own X.ownEq (wpAny_mono hcall (fun r s2 hr2 => by
          obtain ⟨b, rfl, hq2⟩ := hr2
          repeat (first | exact hq2 | exact wpAny_pure hq2 | exact wpAny_truthy_bool hq2 | (refine wpAny_bind (m := truthy (.bool _)) (wpAny_truthy_bool ?_)) | wp_step)) fun _ _ e2 => e2)))
    | wp_step)
theorem ne_try (FB : CmpFacts B bm) (X : h.OwnEqNoNe x C f B bm) (hu : A.units + 1 < cLine) {Q : Option Value → Shared → Prop}
    (hcall : wpAny (model prog w) A.in1 (call (.ref f) [.ref x, y]) (fun v s' => ∃ b, v = .bool b ∧ Q (some (.bool (!b))) s') E ⟨h, g, d, t, os⟩) :
    wpAny (model prog w) A (tryCompare (.ref x) "__ne__" y) Q E ⟨h, g, d, t, os⟩ := by
  obtain ⟨ob, fo, n1, q1, N1, b1, hd1, s1, s2, a1, c1, d1, k0, k1, k2, k3, k5, i1, mN, yv, hx, hc, hC, hn, _, _, _, _, _, hne⟩ := id X
  simp only [tryCompare]
  refine wpAny_bind (wpAny_callSpecialIfBound?_inst hx hc hC hn hne FB.mro FB.ne (wpAny_call (codeAny_call_builtin FB.ne.plain F.cmpEntry_ne (wpAny_check_slot_inst F.cmpKind_ne F.cmpSplit_ne (F.cmpArgs_ne _ _) FB.hasObject hx hc hC
    (ne_entry (A := A.in1) X hu (wpAny_mono hcall (fun v s2 hv => ?_) fun _ _ e2 => e2))))))
  obtain ⟨b, rfl, hq⟩ := hv
  first | exact ⟨b, rfl, wpAny_pure hq⟩ | exact ⟨b, rfl, wpAny_pure (wpAny_pure hq)⟩ | exact ⟨b, rfl, hq⟩
theorem ne_rich {K : PySem.W.Frag} {ox : Obj} {od : Option Obj} {tb : Value} (FB : CmpFacts B bm) (X : h.OwnEqNoNe x C f B bm) (KI : K.In h) (I : PySem.W.InstAt h x ox C od) (lt : PySem.W.Looks (model prog w) h (typeOf y) tb) (nt : PySem.W.notFirst K C tb = true) (hu : A.units + 1 < cLine) {Q : Value → Shared → Prop}
    (hcall : wpAny (model prog w) A.in1 (call (.ref f) [.ref x, y]) (fun v s' => ∃ b, v = .bool b ∧ Q (.bool (!b)) s') E ⟨h, g, d, t, os⟩) :
    wpAny (model prog w) A (richCompare .NotEq (.ref x) y) Q E ⟨h, g, d, t, os⟩ := by
  have one : wpAny (model prog w) A (tryCompare (.ref x) "__ne__" y) (fun r s2 => ∃ v, r = some v ∧ Q v s2) E ⟨h, g, d, t, os⟩ := ne_try FB X hu (wpAny_mono hcall (fun v s2 ⟨b, e1, q1⟩ => ⟨b, e1, _, rfl, q1⟩) fun _ _ z => z)
  unfold richCompare
  simp only [oneThing_ref]
  refine wpAny_holding (wpAny_bind (wpAny_cRoomFor (by omega) ?_))
  rw [cmpInfo_NotEq]
  dsimp only
  refine wpAny_bind (I.type.here (wpAny_bind (lt.here ?_)))
  split
  · rename_i q
    have e1 : PySem.W.subIn K tb (.ref C) = some false := by
      rcases Bool.or_eq_true_iff.mp nt with e2 | e2
      · rw [beq_iff_eq.mp e2] at q; simp at q
      · exact beq_iff_eq.mp e2
    refine wpAny_bind ((PySem.W.looks_subIn KI e1).here ?_)
    simp only [Bool.false_eq_true, if_false]
    refine wpAny_bind (wpAny_mono one (fun r s2 z => ?_) fun _ _ z => z)
    obtain ⟨v, rfl, hq⟩ := z
    exact wpAny_pure hq
  · refine wpAny_bind (wpAny_pure ?_)
    simp only [Bool.false_eq_true, if_false]
    refine wpAny_bind (wpAny_mono one (fun r s2 z => ?_) fun _ _ z => z)
    obtain ⟨v, rfl, hq⟩ := z
    exact wpAny_pure hq
end
end F2
set_option Elab.async false
set_option linter.all false
set_option maxRecDepth 100000
set_option maxHeartbeats 4000000
namespace F2
open PySem PySem.Spec PyProof.Rows L2
section
variable {X : Cx}
/-- x != y by an own ==, y any value -/
theorem o_neC2 (c : Str) {C f : Addr} {fd : FuncData} {ps : List Str} {F : FnI} {k : Nat} (hC : X.mg c = some (.ref C)) (Q0 : EqNe X.K C f) (nf : NF X.K C) (G : Ok X.prog X.w X.K X.mg X.base k f fd ps F) (h2 : ps.length = 2) (hr : Room (k + 1) X.A) (hb : Binds X.K fd ps []) : OpI X (compareOp .NotEq) (fEqC true c F) := by
  intro pins s σ H vx vy v u Q I rx ry ⟨w, h, x, y, a, h', S, r1, r2, e, b⟩
  unfold fEqC at e
  split at e
  · rename_i fs ef
    split at e
    · rename_i hy
      split at e
      · rename_i b0 g eF
        cases e
        obtain ⟨p, dx, us, rfl, hp, rf⟩ := fieldsOf_rel S hC r1 ef
        cases rx
        obtain ⟨mA, J, _⟩ := ins_get I.hok hp
        obtain ⟨od, J2, _⟩ := J.look
        have right := right_ty (M := model X.prog X.w) I hC nf S r2 ry hy
        obtain ⟨tb, lt, nt⟩ := right
        obtain ⟨nm, qq, N, bs, hdct, sn, sub, ab, col, dd, k0, k1, k2, k3, k5, newId, of, hl, hns, heq, hne, hlf, hft⟩ := Q0.lk
        have KI := I.kIn
        have XE : s.heap.OwnEqNoNe p C f "object" [.type "object"] :=
          ⟨_, of, nm, qq, N, bs, hdct, sn, sub, ab, col, dd, k0, k1, k2, k3, k5, newId, _, _, J.obj, rfl, KI _ _ hl, PySem.W.isNs_of_in KI hns |> Heap.Ns.of_isNs, nsMap_of_in KI hns heq, KI _ _ hlf, hft, PySem.F.mro_object, rfl, PySem.W.nsMap_none_of_in KI hns hne⟩
        have hcall := own_call (Q := fun v H' => v = .bl b0 ∧ Q (.bl (!b0)) H') G hr.in1 I.env0.in1 hb I S (.cons r1 (.cons r2 .nil)) (.cons rfl (.cons ry .nil)) (by rw [h2]; rfl) eF (fun w1 H1 v1 l1 S1 r3 => by
          cases relbl r3
          have := b w1 H1 _ l1 S1 (.d (.bl _))
          exact ⟨rfl, by simpa using this⟩)
        have hu := hr.un
        have mono : ∀ {A1 : Around}, wpAny (model X.prog X.w) A1 (call (.ref f) [.ref p, u]) (EP X pins σ fun v H' => v = .bl b0 ∧ Q (.bl (!b0)) H') X.xe s → wpAny (model X.prog X.w) A1 (call (.ref f) [.ref p, u]) (fun v s' => ∃ b, v = .bool b ∧ EP X pins σ Q (.bool (!b)) s') X.xe s := fun q => wpAny_mono q (fun v s' ⟨z, H', I', rz, ez, qq⟩ => by
          subst ez
          cases rz
          exact ⟨b0, rfl, .bl (!b0), H', I', rfl, qq⟩) fun _ _ z => z
        have hcall2 := mono hcall
        obtain ⟨hh, g2, d, tk, os⟩ := s
        refine PySem.W.cmp_ofNotEq ?_
        exact ne_rich PySem.F.cmp_object XE KI J2 lt nt (by omega) hcall2
      · cases e
    · cases e
  · cases e
end
end F2
set_option Elab.async false
set_option linter.all false
set_option maxRecDepth 100000
set_option maxHeartbeats 4000000
namespace F2
open PySem PySem.Spec PyProof.Rows L2
section
variable {X : Cx}
/-! ### texts with parts in braces -/
def mFmt (m : EI) : EI := fun ρ h => match m ρ h with
  | some (.d (.str y), h1) => if y.length ≤ LIM then some (.d (.str y), h1) else none
  | some (.d (.int i), h1) => if i.natAbs.log2 < 1920 then some (.d (.str (toString i)), h1) else none
  | _ => none
theorem e_fmt {e : Expr} {m : EI} {pos : Pos} (he : PE X e (rE X.mg m)) : PE X (.FormattedValue e (-1) none pos) (rE X.mg (mFmt m)) := PE.imp (pe_fmt he) fun σ H Q ⟨w, ρ, h, a, h', S, E, e, b⟩ => by
  unfold mFmt at e
  split at e
  · rename_i y h1 e1
    split at e
    · rename_i hz
      cases e
      exact ⟨w, ρ, h, _, _, S, E, e1, fun w1 H1 v l1 S1 r1 => .inl ⟨y, relstr r1, lim_size hz, b w1 H1 _ l1 S1 (.d (.str _))⟩⟩
    · cases e
  · rename_i i h1 e1
    split at e
    · rename_i hz
      cases e
      exact ⟨w, ρ, h, _, _, S, E, e1, fun w1 H1 v l1 S1 r1 => .inr ⟨i, relint r1, hz, b w1 H1 _ l1 S1 (.d (.str _))⟩⟩
    · cases e
  · cases e
def mJs : List EI → Str → EI
  | [], acc => fun _ h => some (.d (.str acc), h)
  | m :: ms, acc => fun ρ h => match m ρ h with
    | some (.d (.str y), h1) => if (acc ++ y).length ≤ LIM then mJs ms (acc ++ y) ρ h1 else none
    | _ => none
theorem js_ok : ∀ (ms : List EI) (acc : Str) {σ : L2.St} {H : Hp} {Q : VK}, rE X.mg (mJs ms acc) σ H Q → tJs (ms.map (rE X.mg)) acc σ H fun out H1 => Q (.str out) H1
  | [], acc, σ, H, Q, ⟨w, ρ, h, a, h', S, E, e, b⟩ => by
    cases e
    exact b w H _ .rfl S (.d (.str _))
  | m :: ms, acc, σ, H, Q, ⟨w, ρ, h, a, h', S, E, e, b⟩ => by
    unfold mJs at e
    split at e
    · rename_i y h1 e1
      split at e
      · rename_i hz
        exact ⟨w, ρ, h, _, _, S, E, e1, fun w1 H1 v l1 S1 r1 => ⟨y, relstr r1, lim_size hz, js_ok ms (acc ++ y) ⟨w1, ρ, h1, a, h', S1, E.mono l1, e, b.le l1⟩⟩⟩
      · cases e
    · cases e
theorem j_nil : PJ X [] (([] : List EI).map (rE X.mg)) := .nil
theorem j_cons {e : Expr} {m : EI} {es : List Expr} {ms : List EI} (h : PE X e (rE X.mg m)) (r : PJ X es (ms.map (rE X.mg))) : PJ X (e :: es) ((m :: ms).map (rE X.mg)) := .cons h r
theorem e_js {v1 v2 : Expr} {rest : List Expr} {ms : List EI} {pos : Pos} (h : PJ X (v1 :: v2 :: rest) (ms.map (rE X.mg))) : PE X (.JoinedStr (v1 :: v2 :: rest) pos) (rE X.mg (mJs ms Str.empty)) := PE.imp (pe_joined h) fun σ H Q q => js_ok ms Str.empty q
end
/-! ### facts -/
def nfB (x : Str) : Fct := fun K => ["NoneType", "bool", "int", "str", "tuple", "list", "dict"].all fun T => PySem.W.notFirst K (He.ga K x) (.type T)
theorem nf_ok {K : PySem.W.Frag} {x : Str} (c : nfB x K = true) : NF K (He.ga K x) := fun T hT => List.all_eq_true.mp c T hT
def ntB (x : Str) : Fct := fun K => He.eqO (PySem.W.findIn K (.ref (He.ga K x)) "__bool__") (some none) && He.eqO (PySem.W.findIn K (.ref (He.ga K x)) "__len__") (some none)
theorem nt_ok {K : PySem.W.Frag} {x : Str} (c : ntB x K = true) : NoTruth K (He.ga K x) := by
  obtain ⟨c1, c2⟩ := He.ba c
  exact ⟨He.eqO_ok c1, He.eqO_ok c2⟩
end F2
set_option Elab.async false
set_option linter.all false
set_option maxRecDepth 100000
set_option maxHeartbeats 4000000
namespace F2
open PySem PySem.Spec PyProof.Rows L2
/-! ### zip of three lists -/
def Itz3 (K : PySem.W.Frag) (a b c : Addr) : It :=
  ⟨fun i H => ∃ (xs ys us : List V) (x y u : V), (SqL K H a xs ∧ SqL K H b ys ∧ SqL K H c us) ∧ xs[i]? = some x ∧ ys[i]? = some y ∧ us[i]? = some u,
    fun i H v H1 => ∃ T x y u, v = .ref T ∧ H T = none ∧ H1 = upd H T (.tup [x, y, u]) ∧ (∀ l, SqL K H a l → l[i]? = some x) ∧ (∀ l, SqL K H b l → l[i]? = some y) ∧ ∀ l, SqL K H c l → l[i]? = some u,
    fun i H => ∃ xs ys us : List V, (SqL K H a xs ∧ SqL K H b ys ∧ SqL K H c us) ∧ (i ≤ xs.length ∧ i ≤ ys.length ∧ i ≤ us.length) ∧ (i = xs.length ∨ i = ys.length ∨ i = us.length)⟩
structure Far3 (z TI TO i1 i2 i3 a b c : Addr) : Prop where
  sep : ZipSep3 z TI TO i1 i2 i3 [i1, a] [i2, b] [i3, c]
  n1 : a ≠ i1
  n2 : b ≠ i2
  n3 : c ≠ i3
theorem far_of (n a b c : Nat) (la : a < n) (lb : b < n) (lc : c < n) : Far3 (n + 5) (n + 3) (n + 4) n (n + 1) (n + 2) a b c := by
  have d : ∀ x y : Nat, x < y ∨ y < x → x ≠ y := fun x y h => by omega
  have ni : ∀ x y u : Nat, (x < y ∨ y < x) → (x < u ∨ u < x) → x ∉ [y, u] := fun x y u h1 h2 z => by
    rcases List.mem_cons.mp z with z | z
    · omega
    · have := List.mem_singleton.mp z
      omega
  have S : ZipSep3 (n + 5) (n + 3) (n + 4) n (n + 1) (n + 2) [n, a] [n + 1, b] [n + 2, c] := {
    TIz := d (n + 3) (n + 5) (by omega)
    TOz := d (n + 4) (n + 5) (by omega)
    TITO := d (n + 3) (n + 4) (by omega)
    TIi1 := d (n + 3) n (by omega)
    mem1 := by simp
    zf1 := ni (n + 5) n a (by omega) (by omega)
    Tf1 := ni (n + 4) n a (by omega) (by omega)
    TIi2 := d (n + 3) (n + 1) (by omega)
    mem2 := by simp
    zf2 := ni (n + 5) (n + 1) b (by omega) (by omega)
    Tf2 := ni (n + 4) (n + 1) b (by omega) (by omega)
    TIi3 := d (n + 3) (n + 2) (by omega)
    mem3 := by simp
    zf3 := ni (n + 5) (n + 2) c (by omega) (by omega)
    Tf3 := ni (n + 4) (n + 2) c (by omega) (by omega)
    sep1_2 := ni n (n + 1) b (by omega) (by omega)
    sep1_3 := ni n (n + 2) c (by omega) (by omega)
    sep2_1 := ni (n + 1) n a (by omega) (by omega)
    sep2_3 := ni (n + 1) (n + 2) c (by omega) (by omega)
    sep3_1 := ni (n + 2) n a (by omega) (by omega)
    sep3_2 := ni (n + 2) (n + 1) b (by omega) (by omega) }
  exact ⟨S, d a n (by omega), d b (n + 1) (by omega), d c (n + 2) (by omega)⟩
theorem turn_zip3 {P : Program} {w : World} {K : PySem.W.Frag} {elts : List Expr} {kk : Nat} {tpos : Pos} {a b c z TI TO i1 i2 i3 : Addr} (D : Far3 z TI TO i1 i2 i3 a b c) :
    Turn P w K (.Tuple elts kk tpos) (Itz3 K a b c) [z, TI, TO, i1, i2, i3] z (fun i h => IsZip h z TI TO .none ∧ IsTupOf3 h TI (.ref i1) (.ref i2) (.ref i3) ∧ (∃ x y u, IsTupOf3 h TO x y u) ∧ h.IsListIter i1 a i ∧ h.IsListIter i2 b i ∧ h.IsListIter i3 c i) where
  mem := by simp
  obj := fun i h st q hq => by
    obtain ⟨hz, hTI, ⟨x, y, u, hTO⟩, ⟨p1, e1, _, d1⟩, ⟨p2, e2, _, d2⟩, ⟨p3, e3, _, d3⟩⟩ := st
    have e' : q = z ∨ q = TI ∨ q = TO ∨ q = i1 ∨ q = i2 ∨ q = i3 := by simpa using hq
    rcases e' with r | r | r | r | r | r
    · rw [r]; exact ⟨_, hz, fun v q => nomatch q⟩
    · rw [r]; exact ⟨_, hTI, fun v q => nomatch q⟩
    · rw [r]; exact ⟨_, hTO, fun v q => nomatch q⟩
    · rw [r]; exact ⟨p1, e1, fun v q => by rw [d1] at q; cases q⟩
    · rw [r]; exact ⟨p2, e2, fun v q => by rw [d2] at q; cases q⟩
    · rw [r]; exact ⟨p3, e3, fun v q => by rw [d3] at q; cases q⟩
  keep := fun i h g st k => by
    obtain ⟨hz, hTI, ⟨x, y, u, hTO⟩, h1, h2, h3⟩ := st
    exact ⟨k z (by simp) _ hz, k TI (by simp) _ hTI, ⟨x, y, u, k TO (by simp) _ hTO⟩, h1.at fun o q => k i1 (by simp) o q, h2.at fun o q => k i2 (by simp) o q, h3.at fun o q => k i3 (by simp) o q⟩
  item := by
    intro X hP hw hK hc i pins s σ H E I hf st hg
    subst hP hw hK
    obtain ⟨hz, hTI, ⟨x0, y0, u0, hTO⟩, h1, h2, h3⟩ := st
    obtain ⟨xs, ys, us, x, y, u, ⟨hqx, hqy, hqu⟩, hx, hy, hu⟩ := hg
    obtain ⟨its, rv, p, _⟩ := I.list hqx
    obtain ⟨its2, rv2, p2, _⟩ := I.list hqy
    obtain ⟨its3, rv3, p3, _⟩ := I.list hqu
    obtain ⟨v1, hv1, rx⟩ := rv.get hx
    obtain ⟨v2, hv2, ry⟩ := rv2.get hy
    obtain ⟨v3, hv3, ru⟩ := rv3.get hu
    have hzl : z < s.heap.objs.size := Heap.lt_size hz
    have hd : X.A.in1.handled = none := I.ok.hd hc
    have D1 := Draws.list (prog := X.prog) (w := X.w) hd i1 a D.n1 its.toArray
    have D2 := Draws.list (prog := X.prog) (w := X.w) hd i2 b D.n2 its2.toArray
    have D3 := Draws.list (prog := X.prog) (w := X.w) hd i3 c D.n3 its3.toArray
    have g1 : its.toArray[i]? = some v1 := by simpa using hv1
    have g2 : its2.toArray[i]? = some v2 := by simpa using hv2
    have g3 : its3.toArray[i]? = some v3 := by simpa using hv3
    refine wpAny_pyNext_zipD3_item D.sep D1 D2 D3 hz hTI hTO ⟨h1, p.isList⟩ ⟨h2, p2.isList⟩ ⟨h3, p3.isList⟩ (Array.getElem?_eq_some_iff.mp g1).1 (Array.getElem?_eq_some_iff.mp g2).1 (Array.getElem?_eq_some_iff.mp g3).1 fun w1 w2 w3 h' tk q1 q2 q3 z' TO' s1 s2 s3 hT hsz hk => ?_
    rw [g1] at q1; cases q1
    rw [g2] at q2; cases q2
    rw [g3] at q3; cases q3
    refine ⟨_, rfl, wpAny_letOwnedTupleGo_zip (s := { s with heap := h', toks := tk }) z' fun h'' z'' sb => ?_⟩
    have hT2 : h''.get? s.heap.objs.size = some { cls := .type "tuple", data := .seq #[v1, v2, v3] } := (sb.2 _ (Nat.ne_of_gt hzl)).trans hT
    have new : ObjOk X.prog X.w (upd H s.heap.objs.size (.tup [x, y, u])) h'' s.heap.objs.size (.tup [x, y, u]) :=
      ⟨by show 3 ≤ sizeLine; decide, [v1, v2, v3], .cons rx (.cons ry (.cons ru .nil)), ⟨_, hT2, rfl, _, rfl⟩⟩
    have I1 : Inv X pins σ (upd H s.heap.objs.size (.tup [x, y, u])) { s with heap := h'', toks := tk } :=
      I.turnedNew (t' := tk) (ch := [z, TI, TO, i1, i2, i3]) (fun o1 o hb q => (sb.2 o1 (fun e => hb (by simp [e]))).trans (hk o1 o (fun e => hb (by simp [e])) (fun e => hb (by simp [e])) (fun e => hb (by simp [e])) (fun e => hb (by simp [e])) (fun e => hb (by simp [e])) q)) hf (Nat.le_refl _) new
    have S := D.sep
    have ni1 : i1 ≠ z := fun e => S.zf1 (by rw [e]; simp)
    have ni2 : i2 ≠ z := fun e => S.zf2 (by rw [e]; simp)
    have ni3 : i3 ≠ z := fun e => S.zf3 (by rw [e]; simp)
    refine ⟨.ref s.heap.objs.size, _, I1, rfl, ⟨_, x, y, u, rfl, I.hok.fresh (Nat.le_refl _), rfl, fun l hl => by rw [I.list_inj hl hqx]; exact hx, fun l hl => by rw [I.list_inj hl hqy]; exact hy, fun l hl => by rw [I.list_inj hl hqu]; exact hu⟩, ⟨z'', ?_, ⟨v1, v2, v3, ?_⟩, ?_, ?_, ?_⟩, fun o1 hcm => ?_⟩
    · exact (sb.2 _ S.TIz).trans (hk _ _ S.TIz S.TITO S.TIi1 S.TIi2 S.TIi3 hTI)
    · exact (sb.2 _ S.TOz).trans TO'
    · exact s1.1.at fun o q => (sb.2 _ ni1).trans q
    · exact s2.1.at fun o q => (sb.2 _ ni2).trans q
    · exact s3.1.at fun o q => (sb.2 _ ni3).trans q
    · have hlt : o1 < s.heap.objs.size := by
        have e' : o1 = z ∨ o1 = TI ∨ o1 = TO ∨ o1 = i1 ∨ o1 = i2 ∨ o1 = i3 := by simpa using hcm
        rcases e' with q | q | q | q | q | q
        · rw [q]; exact hzl
        · rw [q]; exact Heap.lt_size hTI
        · rw [q]; exact Heap.lt_size hTO
        · rw [q]; obtain ⟨_, e1, _⟩ := h1; exact Heap.lt_size e1
        · rw [q]; obtain ⟨_, e2, _⟩ := h2; exact Heap.lt_size e2
        · rw [q]; obtain ⟨_, e3, _⟩ := h3; exact Heap.lt_size e3
      rw [upd_ne (Nat.ne_of_lt hlt)]
      exact (hf o1 hcm).1
  done := by
    intro X hP hw hK hc i pins s σ H E I hf st hg
    subst hP hw hK
    obtain ⟨hz, hTI, ⟨x0, y0, u0, hTO⟩, h1, h2, h3⟩ := st
    obtain ⟨xs, ys, us, ⟨hqx, hqy, hqu⟩, ⟨m1, m2, m3⟩, hend⟩ := hg
    obtain ⟨its, rv, p, _⟩ := I.list hqx
    obtain ⟨its2, rv2, p2, _⟩ := I.list hqy
    obtain ⟨its3, rv3, p3, _⟩ := I.list hqu
    have l1 := rv.length
    have l2 := rv2.length
    have l3 := rv3.length
    have hd : X.A.in1.handled = none := I.ok.hd hc
    have D1 := Draws.list (prog := X.prog) (w := X.w) hd i1 a D.n1 its.toArray
    have D2 := Draws.list (prog := X.prog) (w := X.w) hd i2 b D.n2 its2.toArray
    have D3 := Draws.list (prog := X.prog) (w := X.w) hd i3 c D.n3 its3.toArray
    exact wpAny_pyNext_zipD3_end D.sep D1 D2 D3 hz hTI hTO ⟨h1, p.isList⟩ ⟨h2, p2.isList⟩ ⟨h3, p3.isList⟩ (by simp; omega) (by simp; omega) (by simp; omega) (by simp; omega) fun h' tk hk => ⟨rfl, I.turnedL (t' := tk) (ch := [z, TI, TO, i1, i2, i3]) (fun o1 o hb q =>
      hk o1 o (fun e => hb (by simp [e])) (fun e => hb (by simp [e])) (fun e => hb (by simp [e])) (fun e => hb (by simp [e])) (fun e => hb (by simp [e])) q) hf⟩
  self := fun A i s Q E st h => wpAny_pyIter_zip st.1 h
def iZip3 (K : PySem.W.Frag) (ta : TA) : TI := fun σ H R => ta σ H fun vs H1 => ∃ a b c xs ys us, vs = [.ref a, .ref b, .ref c] ∧ (SqL K H1 a xs ∧ SqL K H1 b ys ∧ SqL K H1 c us) ∧ R (Itz3 K a b c) H1
theorem pi_zip3 {X : Cx} {e e2 e3 : Expr} {ta : TA} {p pos tpos : Pos} {elts : List Expr} {kk : Nat} (hg : Gl X "zip") (hm : X.mg "zip" = none) (ha : PA X [e, e2, e3] ta)
    (hs : starEach [e, e2, e3] X.env = (false, eval e X.env) :: starEach [e2, e3] X.env := by rfl) (hpl : (backTo pos (starEach [e2, e3] X.env)).any (·.1) = false := by rfl) :
    PI X (.Tuple elts kk tpos) (.Call (.Name "zip" p) [e, e2, e3] [] pos) (iZip3 X.K ta) := by
  refine ⟨fun pins s σ H R I h => ?_⟩
  refine Call_ (ld_blt I hg hm PyProof.Rows.boot_zip (PyProof.Rows.callWith_type1 (thn (ha.run pos pins s σ H _ I h) fun us s1 ⟨vs, H1, I1, r1, q1⟩ => ?_) hs hpl))
  obtain ⟨a, b, c, xs, ys, us', ex, ⟨hqx, hqy, hqu⟩, q⟩ := q1
  subst ex
  cases r1 with
  | cons r rr =>
    cases rr with
    | cons r' rr =>
      cases rr with
      | cons r'' rr =>
        cases rr
        cases r
        cases r'
        cases r''
        obtain ⟨its, rv, p1, _⟩ := I1.list hqx
        obtain ⟨its2, rv2, p2, _⟩ := I1.list hqy
        obtain ⟨its3, rv3, p3, _⟩ := I1.list hqu
        have la : a < s1.heap.objs.size := p1.lt
        have lb : b < s1.heap.objs.size := p2.lt
        have lc : c < s1.heap.objs.size := p3.lt
        refine zip_begins3 (begins_list a its.toArray) (begins_list b its2.toArray) (begins_list c its3.toArray) p1.isList p2.isList p3.isList fun h' hz hTI hTO h1 h2 h3 hsz hk => wpAny_pyIter_zip hz ?_
        have I2 : Inv X pins σ H1 { s1 with heap := h' } := I1.kept (t' := s1.toks) hk
        have far := far_of s1.heap.objs.size a b c la lb lc
        refine ⟨s1.heap.objs.size + 5, [s1.heap.objs.size + 5, s1.heap.objs.size + 3, s1.heap.objs.size + 4, s1.heap.objs.size, s1.heap.objs.size + 1, s1.heap.objs.size + 2], _, _, H1, rfl, I2, turn_zip3 far, ⟨hz, hTI, ⟨_, _, _, hTO⟩, ⟨_, h1, rfl, rfl⟩, ⟨_, h2, rfl, rfl⟩, ⟨_, h3, rfl, rfl⟩⟩, fun o1 hcm => ?_, q⟩
        have hle : s1.heap.objs.size ≤ o1 := by
          have big : ∀ k, k ∈ [s1.heap.objs.size + 5, s1.heap.objs.size + 3, s1.heap.objs.size + 4, s1.heap.objs.size, s1.heap.objs.size + 1, s1.heap.objs.size + 2] → s1.heap.objs.size ≤ k := fun k hk => by
            simp only [List.mem_cons, List.not_mem_nil, or_false] at hk
            rcases hk with r | r | r | r | r | r <;> rw [r] <;> first | exact Nat.le_refl _ | exact Nat.le_add_right _ _
          exact big o1 hcm
        exact I1.fpOk hle (I1.hok.fresh hle)
section
variable {X : Cx}
def zip3N (x y u : A) : Nat → Hh → Option (Option A) := fun i h => match itemsL x h with
  | some xs => match itemsL y h with
    | some ys => match itemsL u h with
      | some us => if i ≤ xs.length ∧ i ≤ ys.length ∧ i ≤ us.length then
          if i = xs.length ∨ i = ys.length ∨ i = us.length then some none
          else match xs[i]?, ys[i]?, us[i]? with
            | some (.d a), some (.d b), some (.d c) => some (some (.d (.tup [a, b, c])))
            | _, _, _ => none
        else none
      | none => none
    | none => none
  | none => none
def srcZ3 (m : AI) : SrcI := fun ρ h => match m ρ h with
  | some ([x, y, u], h1) => match itemsL x h1 with
    | some xs => match itemsL y h1 with
      | some _ => match itemsL u h1 with
        | some _ => some (⟨zip3N x y u, xs.length⟩, h1)
        | none => none
      | none => none
    | none => none
  | _ => none
theorem three_new {mg : Mg} {w : Wd} {H : Hp} {h : Hh} (S : Sm mg w H h) {a b c : D} {x y u : V} (rx : RelD mg w.fz a x) (ry : RelD mg w.fz b y) (ru : RelD mg w.fz c u) {T : Addr} (hT : H T = none) :
    ∃ w'', w.le w'' ∧ Sm mg w'' (upd H T (.tup [x, y, u])) h ∧ RelA mg w'' (.d (.tup [a, b, c])) (.ref T) :=
  ⟨w.pure T _, S.le_pure hT, S.pure hT, .d (.tup (vs := [x, y, u]) (by show (if T = T then _ else _) = _; rw [if_pos rfl]) (.cons (rx.mono (S.le_pure hT).fz) (.cons (ry.mono (S.le_pure hT).fz) (.cons (ru.mono (S.le_pure hT).fz) .nil))))⟩
theorem i_zip3 {e1 e2 e3 : Expr} {m : AI} {p pos tpos : Pos} {elts : List Expr} {kk : Nat} (hm : X.mg "zip" = none) (ha : PA X [e1, e2, e3] (rA X.mg m)) (hg : Gl X "zip" := by rfl)
    (hs : starEach [e1, e2, e3] X.env = (false, eval e1 X.env) :: starEach [e2, e3] X.env := by rfl) (hpl : (backTo pos (starEach [e2, e3] X.env)).any (·.1) = false := by rfl) : PI X (.Tuple elts kk tpos) (.Call (.Name "zip" p) [e1, e2, e3] [] pos) (iS X.mg (srcZ3 m)) :=
  PI.imp (pi_zip3 hg hm ha hs hpl) fun σ H R ⟨w, ρ, h, s, h', S, E, e, b⟩ => by
    unfold srcZ3 at e
    split at e
    · rename_i x y u h1 q1
      split at e
      · rename_i xs ex
        split at e
        · rename_i ys ey
          split at e
          · rename_i us eu
            cases e
            refine ⟨w, ρ, h, _, h', S, E, q1, fun w1 H1 vs l1 S1 r1 => ?_⟩
            cases r1 with
            | cons rx t =>
              cases t with
              | cons ry t =>
                cases t with
                | cons ru t =>
                  cases t
                  obtain ⟨a, as, rfl, ha, ra⟩ := itemsL_rel S1 rx ex
                  obtain ⟨c, cs, rfl, hc, rc⟩ := itemsL_rel S1 ry ey
                  obtain ⟨d, ds, rfl, hd, rd⟩ := itemsL_rel S1 ru eu
                  refine ⟨a, c, d, as, cs, ds, rfl, ⟨SqL.of ha, SqL.of hc, SqL.of hd⟩, b w1 H1 _ l1 S1 fun i w' H' h'' l S' => ?_⟩
                  refine ⟨fun e2 => ?_, fun z e2 => ?_⟩
                  · simp only [zip3N] at e2
                    split at e2
                    · rename_i xs' ex'
                      split at e2
                      · rename_i ys' ey'
                        split at e2
                        · rename_i us' eu'
                          obtain ⟨a', as', ea, ha', ra'⟩ := itemsL_rel S' (rx.mono0 l) ex'
                          obtain ⟨c', cs', ec, hc', rc'⟩ := itemsL_rel S' (ry.mono0 l) ey'
                          obtain ⟨d', ds', ed, hd', rd'⟩ := itemsL_rel S' (ru.mono0 l) eu'
                          cases ea; cases ec; cases ed
                          have lx := ra'.length
                          have ly := rc'.length
                          have lu := rd'.length
                          split at e2
                          · rename_i k1
                            split at e2
                            · rename_i k2
                              exact ⟨as', cs', ds', ⟨SqL.of ha', SqL.of hc', SqL.of hd'⟩, by omega, by omega⟩
                            · split at e2 <;> cases e2
                          · cases e2
                        · cases e2
                      · cases e2
                    · cases e2
                  · simp only [zip3N] at e2
                    split at e2
                    · rename_i xs' ex'
                      split at e2
                      · rename_i ys' ey'
                        split at e2
                        · rename_i us' eu'
                          obtain ⟨a', as', ea, ha', ra'⟩ := itemsL_rel S' (rx.mono0 l) ex'
                          obtain ⟨c', cs', ec, hc', rc'⟩ := itemsL_rel S' (ry.mono0 l) ey'
                          obtain ⟨d', ds', ed, hd', rd'⟩ := itemsL_rel S' (ru.mono0 l) eu'
                          cases ea; cases ec; cases ed
                          split at e2
                          · split at e2
                            · cases e2
                            · split at e2
                              · rename_i d1 d2 d3 q1 q2 q3
                                cases e2
                                obtain ⟨v1, hv1, r1⟩ := ra'.get q1
                                obtain ⟨v2, hv2, r2⟩ := rc'.get q2
                                obtain ⟨v3, hv3, r3⟩ := rd'.get q3
                                refine ⟨⟨as', cs', ds', v1, v2, v3, ⟨SqL.of ha', SqL.of hc', SqL.of hd'⟩, hv1, hv2, hv3⟩, fun y H'' ⟨T, x1, x2, x3, e3, hT, e4, k1, k2, k3⟩ => ?_⟩
                                subst e3 e4
                                have z1 := k1 _ (SqL.of ha')
                                have z2 := k2 _ (SqL.of hc')
                                have z3 := k3 _ (SqL.of hd')
                                rw [hv1] at z1; cases z1
                                rw [hv2] at z2; cases z2
                                rw [hv3] at z3; cases z3
                                cases r1 with
                                | d r1 => cases r2 with
                                  | d r2 => cases r3 with
                                    | d r3 => exact three_new S' r1 r2 r3 hT
                              · cases e2
                          · cases e2
                        · cases e2
                      · cases e2
                    · cases e2
          · cases e
        · cases e
      · cases e
    · cases e
end
end F2
set_option Elab.async false
set_option linter.all false
set_option maxRecDepth 100000
set_option maxHeartbeats 4000000
namespace F2
open PySem PySem.Spec PyProof.Rows L2
section
variable {X : Cx}
/-- x != y of two texts, any signs -/
def fNeS : A → A → Hh → Option (A × Hh)
  | .d (.str x), .d (.str y), h => some (.d (.bl (!decide (x = y))), h)
  | _, _, _ => none
theorem o_neS : OpI X (compareOp .NotEq) fNeS := OpI.of op_ne fun w H h x y a vx vy h' Q S r1 r2 e b => by
  unfold fNeS at e
  split at e
  · rename_i i j
    cases e
    rw [relstr r1, relstr r2]
    refine ⟨rfl, ?_⟩
    have z : decide (V.str i = V.str j) = decide (i = j) := by simp
    rw [z]
    exact b w H _ .rfl S (.d (.bl _))
  · cases e
end
end F2
set_option Elab.async false
set_option linter.all false
set_option maxRecDepth 100000
set_option maxHeartbeats 0
namespace K02
open PySem PySem.Spec PyProof.Rows L2 F2
open PySem.W (Frag)
def top (i : Nat) : Stmt := PySem.Challenge.pw_basetrees_k02_webs_made.main.body.getD i (.Pass ⟨0, 0, 0, 0⟩)
def kid (s : Stmt) (i : Nat) : Stmt := match s with
  | .ClassDef (body := b) .. => b.getD i (.Pass ⟨0, 0, 0, 0⟩)
  | _ => .Pass ⟨0, 0, 0, 0⟩
def fa : List Fct := [
  fun K => (He.Fa.glo "_wall").ok K,
  fun K => (He.Fa.glo "is_name").ok K,
  fun K => (He.Fa.glo "is_one_of").ok K,
  fun K => (He.Fa.glo "check_known").ok K,
  fun K => (He.Fa.glo "read_web").ok K,
  fun K => (He.Fa.glo "is_new_name").ok K,
  fun K => (He.Fa.glo "are_sources").ok K,
  fun K => (He.Fa.glo "first_full").ok K,
  fun K => (He.Fa.glo "_may_be_chosen").ok K,
  fun K => (He.Fa.glo "_law_purse").ok K,
  fun K => (He.Fa.glo "_law_draw").ok K,
  fun K => (He.Fa.glo "_law_pick").ok K,
  fun K => (He.Fa.glo "_law_labels").ok K,
  fun K => (He.Fa.glo "_law_rows").ok K,
  fun K => (He.Fa.glo "_law_said").ok K,
  fun K => (He.Fa.glo "_law_pairs").ok K,
  fun K => (He.Fa.glo "_law_is").ok K,
  fun K => (He.Fa.glo "_law_right").ok K,
  fun K => (He.Fa.glo "law").ok K,
  fun K => (He.Fa.free "ValueError").ok K,
  fun K => (He.Fa.free "abs").ok K,
  fun K => (He.Fa.free "all").ok K,
  fun K => (He.Fa.free "bool").ok K,
  fun K => (He.Fa.free "divmod").ok K,
  fun K => (He.Fa.free "int").ok K,
  fun K => (He.Fa.free "isinstance").ok K,
  fun K => (He.Fa.free "len").ok K,
  fun K => (He.Fa.free "list").ok K,
  fun K => (He.Fa.free "max").ok K,
  fun K => (He.Fa.free "min").ok K,
  fun K => (He.Fa.free "property").ok K,
  fun K => (He.Fa.free "range").ok K,
  fun K => (He.Fa.free "repr").ok K,
  fun K => (He.Fa.free "str").ok K,
  fun K => (He.Fa.free "tuple").ok K,
  fun K => (He.Fa.free "zip").ok K,
  fun K => (He.Fa.int "MOST_COPIES" 40).ok K,
  fun K => (He.Fa.int "LONGEST_NAME" 8).ok K,
  fun K => (He.Fa.glo "Web").ok K,
  fun K => (He.Fa.cls "Web").ok K,
  fun K => (He.Fa.mkr "Web").ok K,
  fun K => (He.Fa.noat "Web" "_copies").ok K,
  fun K => (He.Fa.noat "Web" "_ends").ok K,
  fun K => (He.Fa.noat "Web" "_lines").ok K,
  fun K => (He.Fa.noat "Web" "_names").ok K,
  fun K => (He.Fa.noat "Web" "_sources").ok K,
  fun K => (He.Fa.noat "Web" "_text").ok K,
  propB "Web" "text",
  propB "Web" "names",
  propB "Web" "lines",
  propB "Web" "ends",
  fun K => (He.Fa.meth "Web" "sources").ok K,
  fun K => (He.Fa.meth "Web" "copies").ok K,
  fun K => (He.Fa.meth "Web" "with_copy").ok K,
  fun K => (He.Fa.meth "Web" "without").ok K,
  fun K => (He.Fa.meth "Web" "__eq__").ok K,
  fun K => (He.Fa.meth "Web" "__str__").ok K,
  fun K => (He.Fa.meth "Web" "__repr__").ok K,
  eqneB "Web",
  nfB "Web",
  ntB "Web",
  instB "Web",
  gsB]
def fn : List DefP := [
  ⟨fun K => He.ga K "_wall", "_wall", "_wall", (top 0)⟩,
  ⟨fun K => He.ga K "is_name", "is_name", "is_name", (top 8)⟩,
  ⟨fun K => He.ga K "is_one_of", "is_one_of", "is_one_of", (top 9)⟩,
  ⟨fun K => He.ga K "check_known", "check_known", "check_known", (top 10)⟩,
  ⟨fun K => He.ga K "read_web", "read_web", "read_web", (top 12)⟩,
  ⟨fun K => He.ga K "is_new_name", "is_new_name", "is_new_name", (top 13)⟩,
  ⟨fun K => He.ga K "are_sources", "are_sources", "are_sources", (top 14)⟩,
  ⟨fun K => He.ga K "first_full", "first_full", "first_full", (top 15)⟩,
  ⟨fun K => He.ga K "_may_be_chosen", "_may_be_chosen", "_may_be_chosen", (top 16)⟩,
  ⟨fun K => He.ma K (He.ga K "Web") "__init__", "__init__", "Web.__init__", (kid (top 18) 0)⟩,
  ⟨fun K => pg "Web" "text" K, "text", "Web.text", (kid (top 18) 1)⟩,
  ⟨fun K => pg "Web" "names" K, "names", "Web.names", (kid (top 18) 2)⟩,
  ⟨fun K => pg "Web" "lines" K, "lines", "Web.lines", (kid (top 18) 3)⟩,
  ⟨fun K => pg "Web" "ends" K, "ends", "Web.ends", (kid (top 18) 4)⟩,
  ⟨fun K => He.ma K (He.ga K "Web") "sources", "sources", "Web.sources", (kid (top 18) 5)⟩,
  ⟨fun K => He.ma K (He.ga K "Web") "copies", "copies", "Web.copies", (kid (top 18) 6)⟩,
  ⟨fun K => He.ma K (He.ga K "Web") "with_copy", "with_copy", "Web.with_copy", (kid (top 18) 7)⟩,
  ⟨fun K => He.ma K (He.ga K "Web") "without", "without", "Web.without", (kid (top 18) 8)⟩,
  ⟨fun K => He.ma K (He.ga K "Web") "__eq__", "__eq__", "Web.__eq__", (kid (top 18) 9)⟩,
  ⟨fun K => He.ma K (He.ga K "Web") "__str__", "__str__", "Web.__str__", (kid (top 18) 10)⟩,
  ⟨fun K => He.ma K (He.ga K "Web") "__repr__", "__repr__", "Web.__repr__", (kid (top 18) 11)⟩,
  ⟨fun K => He.ga K "_law_purse", "_law_purse", "_law_purse", (top 20)⟩,
  ⟨fun K => He.ga K "_law_draw", "_law_draw", "_law_draw", (top 21)⟩,
  ⟨fun K => He.ga K "_law_pick", "_law_pick", "_law_pick", (top 22)⟩,
  ⟨fun K => He.ga K "_law_labels", "_law_labels", "_law_labels", (top 23)⟩,
  ⟨fun K => He.ga K "_law_rows", "_law_rows", "_law_rows", (top 24)⟩,
  ⟨fun K => He.ga K "_law_said", "_law_said", "_law_said", (top 25)⟩,
  ⟨fun K => He.ga K "_law_pairs", "_law_pairs", "_law_pairs", (top 26)⟩,
  ⟨fun K => He.ga K "_law_is", "_law_is", "_law_is", (top 27)⟩,
  ⟨fun K => He.ga K "_law_right", "_law_right", "_law_right", (top 28)⟩,
  ⟨fun K => He.ga K "law", "law", "law", (top 29)⟩]
abbrev R : PySem.W.OpenRow := PySem.W.OpenLaw.row PySem.Challenge.rw_basetrees_k02_webs_made
abbrev hk : PySem.W.Hook := hookP 6 fa fn
def ob (s : PySem.W.SharedT) : AlP := obsPG 6 fa fn (HandSHeadRun.getT s)
theorem ob_eq (s : PySem.W.SharedT) : ob s = hk.obs s.abs := obsPG_eq (HandSHeadRun.getT_eq s)
def loose : List Str := ["_wall", "WrongValue", "InvalidText", "UnknownName", "MOST_COPIES", "LONGEST_NAME", "is_name", "is_one_of", "check_known", "read_web", "is_new_name", "are_sources", "first_full", "_may_be_chosen", "Web", "_law_purse", "_law_draw", "_law_pick", "_law_labels", "_law_rows", "_law_said", "_law_pairs", "_law_is", "_law_right"]
theorem run (w : World) : HandSHeadRun.RunEq R (PySem.W.view R.prog [29]) hk ob 4000 loose w := by
  intro os
  kernel_rfl
end K02
set_option Elab.async false
set_option linter.all false
set_option maxRecDepth 100000
set_option maxHeartbeats 0
namespace K02
open PySem PySem.Spec PyProof.Rows L2 F2
open PySem.W (Frag)
/-- the facts by names -/
structure Txt (K : Frag) (mg : Str → Option Value) (fd : Nat → FuncData) : Prop where
  kin : ∃ h : Heap, K.In h ∧ h.Ns mainGlobals mg
  glo_wall : mg "_wall" = some (.ref (He.ga K "_wall"))
  glo_is_name : mg "is_name" = some (.ref (He.ga K "is_name"))
  glo_is_one_of : mg "is_one_of" = some (.ref (He.ga K "is_one_of"))
  glo_check_known : mg "check_known" = some (.ref (He.ga K "check_known"))
  glo_read_web : mg "read_web" = some (.ref (He.ga K "read_web"))
  glo_is_new_name : mg "is_new_name" = some (.ref (He.ga K "is_new_name"))
  glo_are_sources : mg "are_sources" = some (.ref (He.ga K "are_sources"))
  glo_first_full : mg "first_full" = some (.ref (He.ga K "first_full"))
  glo_may_be_chosen : mg "_may_be_chosen" = some (.ref (He.ga K "_may_be_chosen"))
  glo_law_purse : mg "_law_purse" = some (.ref (He.ga K "_law_purse"))
  glo_law_draw : mg "_law_draw" = some (.ref (He.ga K "_law_draw"))
  glo_law_pick : mg "_law_pick" = some (.ref (He.ga K "_law_pick"))
  glo_law_labels : mg "_law_labels" = some (.ref (He.ga K "_law_labels"))
  glo_law_rows : mg "_law_rows" = some (.ref (He.ga K "_law_rows"))
  glo_law_said : mg "_law_said" = some (.ref (He.ga K "_law_said"))
  glo_law_pairs : mg "_law_pairs" = some (.ref (He.ga K "_law_pairs"))
  glo_law_is : mg "_law_is" = some (.ref (He.ga K "_law_is"))
  glo_law_right : mg "_law_right" = some (.ref (He.ga K "_law_right"))
  glo_law : mg "law" = some (.ref (He.ga K "law"))
  free_ValueError : mg "ValueError" = none
  free_abs : mg "abs" = none
  free_all : mg "all" = none
  free_bool : mg "bool" = none
  free_divmod : mg "divmod" = none
  free_int : mg "int" = none
  free_isinstance : mg "isinstance" = none
  free_len : mg "len" = none
  free_list : mg "list" = none
  free_max : mg "max" = none
  free_min : mg "min" = none
  free_property : mg "property" = none
  free_range : mg "range" = none
  free_repr : mg "repr" = none
  free_str : mg "str" = none
  free_tuple : mg "tuple" = none
  free_zip : mg "zip" = none
  int_MOST_COPIES : (He.Fa.int "MOST_COPIES" 40).ok K = true
  int_LONGEST_NAME : (He.Fa.int "LONGEST_NAME" 8).ok K = true
  glo_Web : mg "Web" = some (.ref (He.ga K "Web"))
  cls_Web : (He.Fa.cls "Web").ok K = true
  mkr_Web : (He.Fa.mkr "Web").ok K = true
  noat_Web_copies : (He.Fa.noat "Web" "_copies").ok K = true
  noat_Web_ends : (He.Fa.noat "Web" "_ends").ok K = true
  noat_Web_lines : (He.Fa.noat "Web" "_lines").ok K = true
  noat_Web_names : (He.Fa.noat "Web" "_names").ok K = true
  noat_Web_sources : (He.Fa.noat "Web" "_sources").ok K = true
  noat_Web_text : (He.Fa.noat "Web" "_text").ok K = true
  prop_Web_text : propB "Web" "text" K = true
  prop_Web_names : propB "Web" "names" K = true
  prop_Web_lines : propB "Web" "lines" K = true
  prop_Web_ends : propB "Web" "ends" K = true
  meth_Web_sources : (He.Fa.meth "Web" "sources").ok K = true
  meth_Web_copies : (He.Fa.meth "Web" "copies").ok K = true
  meth_Web_with_copy : (He.Fa.meth "Web" "with_copy").ok K = true
  meth_Web_without : (He.Fa.meth "Web" "without").ok K = true
  meth_Web___eq__ : (He.Fa.meth "Web" "__eq__").ok K = true
  meth_Web___str__ : (He.Fa.meth "Web" "__str__").ok K = true
  meth_Web___repr__ : (He.Fa.meth "Web" "__repr__").ok K = true
  eqne_Web : eqneB "Web" K = true
  nf_Web : nfB "Web" K = true
  nt_Web : ntB "Web" K = true
  inst_Web : instB "Web" K = true
  gs : gsB K = true
  f_wall : FnP K "_wall" "_wall" (top 0) (He.ga K "_wall") (fd 0)
  f_is_name : FnP K "is_name" "is_name" (top 8) (He.ga K "is_name") (fd 1)
  f_is_one_of : FnP K "is_one_of" "is_one_of" (top 9) (He.ga K "is_one_of") (fd 2)
  f_check_known : FnP K "check_known" "check_known" (top 10) (He.ga K "check_known") (fd 3)
  f_read_web : FnP K "read_web" "read_web" (top 12) (He.ga K "read_web") (fd 4)
  f_is_new_name : FnP K "is_new_name" "is_new_name" (top 13) (He.ga K "is_new_name") (fd 5)
  f_are_sources : FnP K "are_sources" "are_sources" (top 14) (He.ga K "are_sources") (fd 6)
  f_first_full : FnP K "first_full" "first_full" (top 15) (He.ga K "first_full") (fd 7)
  f_may_be_chosen : FnP K "_may_be_chosen" "_may_be_chosen" (top 16) (He.ga K "_may_be_chosen") (fd 8)
  f_Web__init_ : FnP K "__init__" "Web.__init__" (kid (top 18) 0) (He.ma K (He.ga K "Web") "__init__") (fd 9)
  f_Web_text : FnP K "text" "Web.text" (kid (top 18) 1) (pg "Web" "text" K) (fd 10)
  f_Web_names : FnP K "names" "Web.names" (kid (top 18) 2) (pg "Web" "names" K) (fd 11)
  f_Web_lines : FnP K "lines" "Web.lines" (kid (top 18) 3) (pg "Web" "lines" K) (fd 12)
  f_Web_ends : FnP K "ends" "Web.ends" (kid (top 18) 4) (pg "Web" "ends" K) (fd 13)
  f_Web_sources : FnP K "sources" "Web.sources" (kid (top 18) 5) (He.ma K (He.ga K "Web") "sources") (fd 14)
  f_Web_copies : FnP K "copies" "Web.copies" (kid (top 18) 6) (He.ma K (He.ga K "Web") "copies") (fd 15)
  f_Web_with_copy : FnP K "with_copy" "Web.with_copy" (kid (top 18) 7) (He.ma K (He.ga K "Web") "with_copy") (fd 16)
  f_Web_without : FnP K "without" "Web.without" (kid (top 18) 8) (He.ma K (He.ga K "Web") "without") (fd 17)
  f_Web__eq_ : FnP K "__eq__" "Web.__eq__" (kid (top 18) 9) (He.ma K (He.ga K "Web") "__eq__") (fd 18)
  f_Web__str_ : FnP K "__str__" "Web.__str__" (kid (top 18) 10) (He.ma K (He.ga K "Web") "__str__") (fd 19)
  f_Web__repr_ : FnP K "__repr__" "Web.__repr__" (kid (top 18) 11) (He.ma K (He.ga K "Web") "__repr__") (fd 20)
  f_law_purse : FnP K "_law_purse" "_law_purse" (top 20) (He.ga K "_law_purse") (fd 21)
  f_law_draw : FnP K "_law_draw" "_law_draw" (top 21) (He.ga K "_law_draw") (fd 22)
  f_law_pick : FnP K "_law_pick" "_law_pick" (top 22) (He.ga K "_law_pick") (fd 23)
  f_law_labels : FnP K "_law_labels" "_law_labels" (top 23) (He.ga K "_law_labels") (fd 24)
  f_law_rows : FnP K "_law_rows" "_law_rows" (top 24) (He.ga K "_law_rows") (fd 25)
  f_law_said : FnP K "_law_said" "_law_said" (top 25) (He.ga K "_law_said") (fd 26)
  f_law_pairs : FnP K "_law_pairs" "_law_pairs" (top 26) (He.ga K "_law_pairs") (fd 27)
  f_law_is : FnP K "_law_is" "_law_is" (top 27) (He.ga K "_law_is") (fd 28)
  f_law_right : FnP K "_law_right" "_law_right" (top 28) (He.ga K "_law_right") (fd 29)
  f_law : FnP K "law" "law" (top 29) (He.ga K "law") (fd 30)
section
variable {P : Program} {w : World} {K : Frag} {mg : Str → Option Value} {base : Heap} {fd : Nat → FuncData}
def m_wall : SI := (mWhile (mTru (mC (.bl true))) mSkip)
def fn_wall : FnI := mkFn 1 1 m_wall
theorem len_wall : ∀ xs h, (fn_wall xs h).isSome = true → xs.length = 1 := mkFn_len
theorem sc_wall : FnScope ["k"] ["k"] (defScope (top 0)) := ⟨rfl, rfl, rfl, by decide +kernel, rfl, by decide +kernel, by decide +kernel⟩
theorem b_wall (T : Txt K mg fd) : Binds K (fd 0) ["k"] [] := T.f_wall.bindsN fun _ _ _ _ _ _ us hl => match us, hl with | [_], _ => rfl
theorem ok_wall (T : Txt K mg fd) : Ok P w K mg base 1 (He.ga K "_wall") (fd 0) ["k"] fn_wall := by
  exact fn_okP 1 1 T.f_wall sc_wall rfl rfl fun cdv A outer s H E hr => (s_one (s_while PassesOwn.never (t_val e_bl) (s_one s_pass)))
def m_is_name : SI := (mSeq (mIfS (mOrT (mNotT (mTru (mIsi "str" (mVar 0)))) (mBl (mBin fGt (mOn (orC fLen fLenD) (mCons (mVar 0) mNil)) (mC (.int 8))))) (mRet (mC (.bl false))) mSkip) (mRet (mAnd (mMet "str" (fStr0 Txt.isascii) (mVar 0) mNil) (mAnd (mMet "str" (fStr0 Txt.isalpha) (mVar 0) mNil) (mMet "str" (fStr0 Txt.islower) (mVar 0) mNil)))))
def fn_is_name : FnI := mkFn 1 1 m_is_name
theorem len_is_name : ∀ xs h, (fn_is_name xs h).isSome = true → xs.length = 1 := mkFn_len
theorem sc_is_name : FnScope ["value"] ["value"] (defScope (top 8)) := ⟨rfl, rfl, rfl, by decide +kernel, rfl, by decide +kernel, by decide +kernel⟩
theorem b_is_name (T : Txt K mg fd) : Binds K (fd 1) ["value"] [] := T.f_is_name.bindsN fun _ _ _ _ _ _ us hl => match us, hl with | [_], _ => rfl
theorem ok_is_name (T : Txt K mg fd) : Ok P w K mg base 1 (He.ga K "is_name") (fd 1) ["value"] fn_is_name := by
  obtain ⟨t_LONGEST_NAME, h_LONGEST_NAME⟩ := int_ok2 T.kin T.int_LONGEST_NAME
  exact fn_okP 1 1 T.f_is_name sc_is_name rfl rfl fun cdv A outer s H E hr => (s_cons (s_if (PW.pt (t_or (t_not (t_val (e_isi "str" T.free_isinstance T.free_str (e_var 0)))) (t_or1 (t_cmp o_gt (e_blt (c_len.or c_lenD) T.free_len (a_cons (e_var 0) a_nil)) (e_gint h_LONGEST_NAME))))) (s_one (s_ret e_bl)) s_nil) (s_one (s_ret (e_and (e_met0 PySem.F.plainAttrs_str PySem.F.slot_str_isascii PySem.F.type_str_isascii (m_str0 mt_isascii) (e_var 0)) (e_and (e_met0 PySem.F.plainAttrs_str PySem.F.slot_str_isalpha PySem.F.type_str_isalpha (m_str0 mt_isalpha) (e_var 0)) (e_one (e_met0 PySem.F.plainAttrs_str PySem.F.slot_str_islower PySem.F.type_str_islower (m_str0 mt_islower) (e_var 0))))))))
def m_is_one_of : SI := (mRet (mAnd (mIsi "str" (mVar 0)) (mBin (fIn false) (mVar 0) (mVar 1))))
def fn_is_one_of : FnI := mkFn 2 2 m_is_one_of
theorem len_is_one_of : ∀ xs h, (fn_is_one_of xs h).isSome = true → xs.length = 2 := mkFn_len
theorem sc_is_one_of : FnScope ["value", "names"] ["value", "names"] (defScope (top 9)) := ⟨rfl, rfl, rfl, by decide +kernel, rfl, by decide +kernel, by decide +kernel⟩
theorem b_is_one_of (T : Txt K mg fd) : Binds K (fd 2) ["value", "names"] [] := T.f_is_one_of.bindsN fun _ _ _ _ _ _ us hl => match us, hl with | [_, _], _ => rfl
theorem ok_is_one_of (T : Txt K mg fd) : Ok P w K mg base 1 (He.ga K "is_one_of") (fd 2) ["value", "names"] fn_is_one_of := by
  exact fn_okP 2 2 T.f_is_one_of sc_is_one_of rfl rfl fun cdv A outer s H E hr => (s_one (s_ret (e_and (e_isi "str" T.free_isinstance T.free_str (e_var 0)) (e_one (e_cmp (o_in (by exact u65 hr)) (e_var 0) (e_var 1))))))
def m_check_known : SI := (mIfS (mNotT (mTru (mCall 2 fn_is_one_of (mCons (mVar 0) (mCons (mVar 1) mNil))))) mStuck mSkip)
def fn_check_known : FnI := mkFn 2 2 m_check_known
theorem len_check_known : ∀ xs h, (fn_check_known xs h).isSome = true → xs.length = 2 := mkFn_len
theorem sc_check_known : FnScope ["value", "names"] ["value", "names"] (defScope (top 10)) := ⟨rfl, rfl, rfl, by decide +kernel, rfl, by decide +kernel, by decide +kernel⟩
theorem b_check_known (T : Txt K mg fd) : Binds K (fd 3) ["value", "names"] [] := T.f_check_known.bindsN fun _ _ _ _ _ _ us hl => match us, hl with | [_, _], _ => rfl
theorem ok_check_known (T : Txt K mg fd) : Ok P w K mg base 2 (He.ga K "check_known") (fd 3) ["value", "names"] fn_check_known := by
  exact fn_okP 2 2 T.f_check_known sc_check_known rfl rfl fun cdv A outer s H E hr => (s_one (s_if (t_not (t_val (e_call (ok_is_one_of T) (by exact hr.mono (by decide)) T.glo_is_one_of T.f_is_one_of.kp (b_is_one_of T) (a_cons (e_var 0) (a_cons (e_var 1) a_nil))))) (s_one s_stuck) s_nil))
def m_first_full : SI := (mSeq (mFor (srcQ (mVar 0)) (gN 2) (mIfS (mBl (mBin (fEqD false) (mOn (orC fLen fLenD) (mCons (mBin fIx (mVar 1) (mVar 2)) mNil)) (mC (.int 2)))) (mRet (mVar 2)) mSkip)) (mRet (mC .non)))
def fn_first_full : FnI := mkFn 2 3 m_first_full
theorem len_first_full : ∀ xs h, (fn_first_full xs h).isSome = true → xs.length = 2 := mkFn_len
theorem sc_first_full : FnScope ["sources", "all_copies", "source"] ["sources", "all_copies"] (defScope (top 15)) := ⟨rfl, rfl, rfl, by decide +kernel, rfl, by decide +kernel, by decide +kernel⟩
theorem b_first_full (T : Txt K mg fd) : Binds K (fd 7) ["sources", "all_copies"] [] := T.f_first_full.bindsN fun _ _ _ _ _ _ us hl => match us, hl with | [_, _], _ => rfl
theorem ok_first_full (T : Txt K mg fd) : Ok P w K mg base 1 (He.ga K "first_full") (fd 7) ["sources", "all_copies"] fn_first_full := by
  exact fn_okP 2 3 T.f_first_full sc_first_full rfl rfl fun cdv A outer s H E hr => (s_cons (s_for PassesOwn.never rfl (i_seq (e_var 0)) (g_name 2 (by exact sc_first_full.nd)) (s_one (s_if (t_cmp (o_eqD (by exact u64 hr)) (e_blt (c_len.or c_lenD) T.free_len (a_cons (e_ix (by exact u1 hr) (e_var 1) (e_var 2)) a_nil)) e_int) (s_one (s_ret (e_var 2))) s_nil))) (s_one (s_ret e_non)))
def m_are_sources : SI := (mSeq (mIfS (mBl (mBin (fEqD false) (mOn (orC fLen fLenD) (mCons (mVar 0) mNil)) (mC (.int 1)))) (mRet (mCall 2 fn_is_one_of (mCons (mBin fIx (mVar 0) (mC (.int 0))) (mCons (mVar 1) mNil)))) mSkip) (mSeq (mIfS (mBl (mBin (fEqD false) (mOn (orC fLen fLenD) (mCons (mVar 0) mNil)) (mC (.int 2)))) (mRet (mAnd (mCall 2 fn_is_one_of (mCons (mBin fIx (mVar 0) (mC (.int 0))) (mCons (mVar 1) mNil))) (mAnd (mCall 2 fn_is_one_of (mCons (mBin fIx (mVar 0) (mC (.int 1))) (mCons (mVar 1) mNil))) (mBin (fEqD true) (mBin fIx (mVar 0) (mC (.int 0))) (mBin fIx (mVar 0) (mC (.int 1))))))) mSkip) (mRet (mC (.bl false)))))
def fn_are_sources : FnI := mkFn 2 2 m_are_sources
theorem len_are_sources : ∀ xs h, (fn_are_sources xs h).isSome = true → xs.length = 2 := mkFn_len
theorem sc_are_sources : FnScope ["values", "names"] ["values", "names"] (defScope (top 14)) := ⟨rfl, rfl, rfl, by decide +kernel, rfl, by decide +kernel, by decide +kernel⟩
theorem b_are_sources (T : Txt K mg fd) : Binds K (fd 6) ["values", "names"] [] := T.f_are_sources.bindsN fun _ _ _ _ _ _ us hl => match us, hl with | [_, _], _ => rfl
theorem ok_are_sources (T : Txt K mg fd) : Ok P w K mg base 2 (He.ga K "are_sources") (fd 6) ["values", "names"] fn_are_sources := by
  exact fn_okP 2 2 T.f_are_sources sc_are_sources rfl rfl fun cdv A outer s H E hr => (s_cons (s_if (t_cmp (o_eqD (by exact u64 hr)) (e_blt (c_len.or c_lenD) T.free_len (a_cons (e_var 0) a_nil)) e_int) (s_one (s_ret (e_call (ok_is_one_of T) (by exact hr.mono (by decide)) T.glo_is_one_of T.f_is_one_of.kp (b_is_one_of T) (a_cons (e_ix (by exact u1 hr) (e_var 0) e_int) (a_cons (e_var 1) a_nil))))) s_nil) (s_cons (s_if (t_cmp (o_eqD (by exact u64 hr)) (e_blt (c_len.or c_lenD) T.free_len (a_cons (e_var 0) a_nil)) e_int) (s_one (s_ret (e_and (e_call (ok_is_one_of T) (by exact hr.mono (by decide)) T.glo_is_one_of T.f_is_one_of.kp (b_is_one_of T) (a_cons (e_ix (by exact u1 hr) (e_var 0) e_int) (a_cons (e_var 1) a_nil))) (e_and (e_call (ok_is_one_of T) (by exact hr.mono (by decide)) T.glo_is_one_of T.f_is_one_of.kp (b_is_one_of T) (a_cons (e_ix (by exact u1 hr) (e_var 0) e_int) (a_cons (e_var 1) a_nil))) (e_one (e_cmp (o_neD (by exact u64 hr)) (e_ix (by exact u1 hr) (e_var 0) e_int) (e_ix (by exact u1 hr) (e_var 0) e_int))))))) s_nil) (s_one (s_ret e_bl))))
def m_may_be_chosen : SI := (mSeq (mIfS (mNotT (mTru (mVar 1))) (mRet (mNot (mVar 0))) mSkip) (mRet (mAnd (mCall 2 fn_are_sources (mCons (mVar 0) (mCons (mVar 1) mNil))) (mBin (fIs false) (mCall 2 fn_first_full (mCons (mVar 0) (mCons (mVar 1) mNil))) (mC .non)))))
def fn_may_be_chosen : FnI := mkFn 2 2 m_may_be_chosen
theorem len_may_be_chosen : ∀ xs h, (fn_may_be_chosen xs h).isSome = true → xs.length = 2 := mkFn_len
theorem sc_may_be_chosen : FnScope ["sources", "all_copies"] ["sources", "all_copies"] (defScope (top 16)) := ⟨rfl, rfl, rfl, by decide +kernel, rfl, by decide +kernel, by decide +kernel⟩
theorem b_may_be_chosen (T : Txt K mg fd) : Binds K (fd 8) ["sources", "all_copies"] [] := T.f_may_be_chosen.bindsN fun _ _ _ _ _ _ us hl => match us, hl with | [_, _], _ => rfl
theorem ok_may_be_chosen (T : Txt K mg fd) : Ok P w K mg base 3 (He.ga K "_may_be_chosen") (fd 8) ["sources", "all_copies"] fn_may_be_chosen := by
  exact fn_okP 2 2 T.f_may_be_chosen sc_may_be_chosen rfl rfl fun cdv A outer s H E hr => (s_cons (s_if (t_not (t_val (e_var 1))) (s_one (s_ret (e_not (e_var 0)))) s_nil) (s_one (s_ret (e_and (e_call (ok_are_sources T) (by exact hr.mono (by decide)) T.glo_are_sources T.f_are_sources.kp (b_are_sources T) (a_cons (e_var 0) (a_cons (e_var 1) a_nil))) (e_one (e_cmp o_is (e_call (ok_first_full T) (by exact hr.mono (by decide)) T.glo_first_full T.f_first_full.kp (b_first_full T) (a_cons (e_var 0) (a_cons (e_var 1) a_nil))) e_non))))))
def m_is_new_name : SI := (mRet (mAnd (mCall 1 fn_is_name (mCons (mVar 0) mNil)) (mBin (fIn true) (mVar 0) (mVar 1))))
def fn_is_new_name : FnI := mkFn 2 2 m_is_new_name
theorem len_is_new_name : ∀ xs h, (fn_is_new_name xs h).isSome = true → xs.length = 2 := mkFn_len
theorem sc_is_new_name : FnScope ["value", "names"] ["value", "names"] (defScope (top 13)) := ⟨rfl, rfl, rfl, by decide +kernel, rfl, by decide +kernel, by decide +kernel⟩
theorem b_is_new_name (T : Txt K mg fd) : Binds K (fd 5) ["value", "names"] [] := T.f_is_new_name.bindsN fun _ _ _ _ _ _ us hl => match us, hl with | [_, _], _ => rfl
theorem ok_is_new_name (T : Txt K mg fd) : Ok P w K mg base 2 (He.ga K "is_new_name") (fd 5) ["value", "names"] fn_is_new_name := by
  exact fn_okP 2 2 T.f_is_new_name sc_is_new_name rfl rfl fun cdv A outer s H E hr => (s_one (s_ret (e_and (e_call (ok_is_name T) (by exact hr.mono (by decide)) T.glo_is_name T.f_is_name.kp (b_is_name T) (a_cons (e_var 0) a_nil)) (e_one (e_cmp (o_notIn (by exact u65 hr)) (e_var 0) (e_var 1))))))
def m_read_web : SI := (mSeq (mIfS (mNotT (mTru (mIsi "str" (mVar 0)))) (mRet (mC .non)) mSkip) (mSeq (mAsg (mDnewK true) (gN 1)) (mSeq (mAsg (mDnewK true) (gN 2)) (mSeq (mFor (srcQ (mMet "str" (fSplit false) (mVar 0) (mCons (mC (.str "; ")) mNil))) (gN 3) (mSeq (mAsg (mMet "str" (fSplit false) (mVar 3) (mCons (mC (.str " ")) mNil)) (gStar1 (gN 4) (gN 5))) (mSeq (mIfS (mOrT (mNotT (mTru (mCall 2 fn_is_new_name (mCons (mVar 4) (mCons (mVar 2) mNil))))) (mNotT (mTru (mCall 2 fn_may_be_chosen (mCons (mVar 5) (mCons (mVar 2) mNil)))))) (mRet (mC .non)) mSkip) (mSeq (mFor (srcQ (mVar 5)) (gN 6) (mDrop (mMet "list" fAppend (mBin fIx (mVar 2) (mVar 6)) (mCons (mVar 4) mNil)))) (mSeq (mAsg (mVar 5) (gSub (mVar 1) (mVar 4))) (mAsg (mOn (mkL true) mNil) (gSub (mVar 2) (mVar 4)))))))) (mSeq (mIfS (mBl (mBin fGt (mOn (orC fLen fLenD) (mCons (mVar 1) mNil)) (mC (.int 40)))) (mRet (mC .non)) mSkip) (mRet (mOn mkT (mCons (mVar 1) (mCons (mVar 2) mNil)))))))))
def fn_read_web : FnI := mkFn 1 7 m_read_web
theorem len_read_web : ∀ xs h, (fn_read_web xs h).isSome = true → xs.length = 1 := mkFn_len
theorem sc_read_web : FnScope ["text", "all_sources", "all_copies", "part", "name", "sources", "source"] ["text"] (defScope (top 12)) := ⟨rfl, rfl, rfl, by decide +kernel, rfl, by decide +kernel, by decide +kernel⟩
theorem b_read_web (T : Txt K mg fd) : Binds K (fd 4) ["text"] [] := T.f_read_web.bindsN fun _ _ _ _ _ _ us hl => match us, hl with | [_], _ => rfl
theorem ok_read_web (T : Txt K mg fd) : Ok P w K mg base 4 (He.ga K "read_web") (fd 4) ["text"] fn_read_web := by
  obtain ⟨t_MOST_COPIES, h_MOST_COPIES⟩ := int_ok2 T.kin T.int_MOST_COPIES
  exact fn_okP 1 7 T.f_read_web sc_read_web rfl rfl fun cdv A outer s H E hr => (s_cons (s_if (t_not (t_val (e_isi "str" T.free_isinstance T.free_str (e_var 0)))) (s_one (s_ret e_non)) s_nil) (s_cons (s_set 1 (by exact sc_read_web.nd) (e_dnewK true)) (s_cons (s_set 2 (by exact sc_read_web.nd) (e_dnewK true)) (s_cons (s_for PassesOwn.never rfl (i_seq (e_met PySem.F.plainAttrs_str PySem.F.slot_str_split PySem.F.type_str_split (m_split (cell := false)) (e_var 0) (a_cons e_str a_nil))) (g_name 3 (by exact sc_read_web.nd)) (s_cons (s_asg (e_met PySem.F.plainAttrs_str PySem.F.slot_str_split PySem.F.type_str_split (m_split (cell := false)) (e_var 3) (a_cons e_str a_nil)) (g_star1 rfl (pg_name (by exact sc_read_web.nd) rfl (Or.inl rfl) (.inl rfl)) (pg_name (by exact sc_read_web.nd) rfl (Or.inl rfl) (.inl rfl)))) (s_cons (s_if (PW.pt (t_or (t_not (t_val (e_call (ok_is_new_name T) (by exact hr.mono (by decide)) T.glo_is_new_name T.f_is_new_name.kp (b_is_new_name T) (a_cons (e_var 4) (a_cons (e_var 2) a_nil))))) (t_or1 (t_not (t_val (e_call (ok_may_be_chosen T) (by exact hr.mono (by decide)) T.glo_may_be_chosen T.f_may_be_chosen.kp (b_may_be_chosen T) (a_cons (e_var 5) (a_cons (e_var 2) a_nil)))))))) (s_one (s_ret e_non)) s_nil) (s_cons (s_for PassesOwn.never rfl (i_seq (e_var 5)) (g_name 6 (by exact sc_read_web.nd)) (s_one (s_expr (e_met PySem.F.plainAttrs_list PySem.F.slot_list_append PySem.F.type_list_append m_append (e_ix (by exact u1 hr) (e_var 2) (e_var 6)) (a_cons (e_var 4) a_nil))))) (s_cons (s_put (by exact u1 hr) (e_var 1) (e_var 4) (e_var 5)) (s_one (s_put (by exact u1 hr) (e_var 2) (e_var 4) (e_lst true a_nil)))))))) (s_cons (s_if (t_cmp o_gt (e_blt (c_len.or c_lenD) T.free_len (a_cons (e_var 1) a_nil)) (e_gint h_MOST_COPIES)) (s_one (s_ret e_non)) s_nil) (s_one (s_ret (e_tup (a_cons (e_var 1) (a_cons (e_var 2) a_nil))))))))))
def m_law_purse : SI := (mSeq (mAsg (mIf (mBl (mBin fLt (mVar 1) (mOn (orC fLen fLenD) (mCons (mVar 0) mNil)))) (mBin fIx (mVar 0) (mVar 1)) (mBin (orF fMulI (orF fMulS (fMulL false))) (mC (.int 6373)) (mBin (fAdd false) (mVar 1) (mC (.int 5))))) (gN 2)) (mSeq (mAsg (mBin (fAdd false) (mC (.int 941)) (mVar 1)) (gN 3)) (mSeq (mFor (srcQ (mBin (fAdd false) (mSlc false (mVar 0) none (some (mC (.int 5)))) (mOn (mkL false) (mCons (mVar 2) mNil)))) (gN 4) (mAsg (mBin fMod (mOn fInt (mCons (mBin (fAdd false) (mBin (fAdd false) (mBin (orF fMulI (orF fMulS (fMulL false))) (mVar 3) (mC (.int 40692))) (mBin fMod (mOn fInt (mCons (mVar 4) mNil)) (mC (.int 2147483647)))) (mC (.int 101))) mNil)) (mC (.int 2147483647))) (gN 3))) (mRet (mOn (mkL true) (mCons (mIf (mBl (mBin fGe (mOn fAbs (mCons (mVar 2) mNil)) (mBin fPow (mC (.int 10)) (mC (.int 18))))) (mOn fAbs (mCons (mVar 2) mNil)) (mC (.int 0))) (mCons (mVar 3) mNil)))))))
def fn_law_purse : FnI := mkFn 2 5 m_law_purse
theorem len_law_purse : ∀ xs h, (fn_law_purse xs h).isSome = true → xs.length = 2 := mkFn_len
theorem sc_law_purse : FnScope ["_law_script", "_law_spot", "_law_cell", "_law_seed", "_law_one"] ["_law_script", "_law_spot"] (defScope (top 20)) := ⟨rfl, rfl, rfl, by decide +kernel, rfl, by decide +kernel, by decide +kernel⟩
theorem b_law_purse (T : Txt K mg fd) : Binds K (fd 21) ["_law_script", "_law_spot"] [] := T.f_law_purse.bindsN fun _ _ _ _ _ _ us hl => match us, hl with | [_, _], _ => rfl
theorem ok_law_purse (T : Txt K mg fd) : Ok P w K mg base 1 (He.ga K "_law_purse") (fd 21) ["_law_script", "_law_spot"] fn_law_purse := by
  exact fn_okP 2 5 T.f_law_purse sc_law_purse rfl rfl fun cdv A outer s H E hr => (s_cons (s_set 2 (by exact sc_law_purse.nd) (e_if (t_cmp o_lt (e_var 1) (e_blt (c_len.or c_lenD) T.free_len (a_cons (e_var 0) a_nil))) (e_ix (by exact u1 hr) (e_var 0) (e_var 1)) (e_bin (o_mulI.or (o_mulS.or (o_mulL (cell := false)))) e_int (e_bin (o_add (cell := false)) (e_var 1) e_int)))) (s_cons (s_set 3 (by exact sc_law_purse.nd) (e_bin (o_add (cell := false)) e_int (e_var 1))) (s_cons (s_for PassesOwn.never rfl (i_seq (e_bin (o_add (cell := false)) (e_slc false (e_var 0) p_none (p_some e_int)) (e_lst false (a_cons (e_var 2) a_nil)))) (g_name 4 (by exact sc_law_purse.nd)) (s_one (s_set 3 (by exact sc_law_purse.nd) (e_bin o_mod (e_bty c_int T.free_int (a_cons (e_bin (o_add (cell := false)) (e_bin (o_add (cell := false)) (e_bin (o_mulI.or (o_mulS.or (o_mulL (cell := false)))) (e_var 3) e_int) (e_bin o_mod (e_bty c_int T.free_int (a_cons (e_var 4) a_nil)) e_int)) e_int) a_nil)) e_int)))) (s_one (s_ret (e_lst true (a_cons (e_if (t_cmp o_ge (e_blt c_abs T.free_abs (a_cons (e_var 2) a_nil)) (e_bin o_pow e_int e_int)) (e_blt c_abs T.free_abs (a_cons (e_var 2) a_nil)) e_int) (a_cons (e_var 3) a_nil))))))))
def m_law_draw : SI := (mSeq (mIfS (mBl (mBin fGt (mBin fIx (mVar 0) (mC (.int 0))) (mC (.int 0)))) (mSeq (mAsg (mOn fDivmod (mCons (mBin fIx (mVar 0) (mC (.int 0))) (mCons (mVar 1) mNil))) (gT 2 (gsCons (gSub (mVar 0) (mC (.int 0))) (gsCons (gN 2) gsNil)))) (mRet (mVar 2))) mSkip) (mSeq (mAsg (mBin fMod (mOn fInt (mCons (mBin (fAdd false) (mBin (orF fMulI (orF fMulS (fMulL false))) (mBin fIx (mVar 0) (mC (.int 1))) (mC (.int 45991))) (mC (.int 40503))) mNil)) (mC (.int 2147483647))) (gSub (mVar 0) (mC (.int 1)))) (mRet (mBin fMod (mOn fInt (mCons (mBin fDiv (mBin fIx (mVar 0) (mC (.int 1))) (mC (.int 1024))) mNil)) (mVar 1)))))
def fn_law_draw : FnI := mkFn 2 3 m_law_draw
theorem len_law_draw : ∀ xs h, (fn_law_draw xs h).isSome = true → xs.length = 2 := mkFn_len
theorem sc_law_draw : FnScope ["_law_purse_here", "_law_many", "_law_digit"] ["_law_purse_here", "_law_many"] (defScope (top 21)) := ⟨rfl, rfl, rfl, by decide +kernel, rfl, by decide +kernel, by decide +kernel⟩
theorem b_law_draw (T : Txt K mg fd) : Binds K (fd 22) ["_law_purse_here", "_law_many"] [] := T.f_law_draw.bindsN fun _ _ _ _ _ _ us hl => match us, hl with | [_, _], _ => rfl
theorem ok_law_draw (T : Txt K mg fd) : Ok P w K mg base 1 (He.ga K "_law_draw") (fd 22) ["_law_purse_here", "_law_many"] fn_law_draw := by
  exact fn_okP 2 3 T.f_law_draw sc_law_draw rfl rfl fun cdv A outer s H E hr => (s_cons (s_if (t_cmp o_gt (e_ix (by exact u1 hr) (e_var 0) e_int) e_int) (s_cons (s_asg (e_blt c_divmod T.free_divmod (a_cons (e_ix (by exact u1 hr) (e_var 0) e_int) (a_cons (e_var 1) a_nil))) (g_tup (n := 2) rfl (gs_cons (g_sub (by exact u1 hr) (e_var 0) e_int) (gs_cons (g_name 2 (by exact sc_law_draw.nd)) gs_nil)))) (s_one (s_ret (e_var 2)))) s_nil) (s_cons (s_put (by exact u1 hr) (e_var 0) e_int (e_bin o_mod (e_bty c_int T.free_int (a_cons (e_bin (o_add (cell := false)) (e_bin (o_mulI.or (o_mulS.or (o_mulL (cell := false)))) (e_ix (by exact u1 hr) (e_var 0) e_int) e_int) e_int) a_nil)) e_int)) (s_one (s_ret (e_bin o_mod (e_bty c_int T.free_int (a_cons (e_bin o_div (e_ix (by exact u1 hr) (e_var 0) e_int) e_int) a_nil)) (e_var 1))))))
def m_law_pick : SI := (mRet (mBin fIx (mVar 1) (mCall 2 fn_law_draw (mCons (mVar 0) (mCons (mOn (orC fLen fLenD) (mCons (mVar 1) mNil)) mNil)))))
def fn_law_pick : FnI := mkFn 2 2 m_law_pick
theorem len_law_pick : ∀ xs h, (fn_law_pick xs h).isSome = true → xs.length = 2 := mkFn_len
theorem sc_law_pick : FnScope ["_law_purse_here", "_law_some"] ["_law_purse_here", "_law_some"] (defScope (top 22)) := ⟨rfl, rfl, rfl, by decide +kernel, rfl, by decide +kernel, by decide +kernel⟩
theorem b_law_pick (T : Txt K mg fd) : Binds K (fd 23) ["_law_purse_here", "_law_some"] [] := T.f_law_pick.bindsN fun _ _ _ _ _ _ us hl => match us, hl with | [_, _], _ => rfl
theorem ok_law_pick (T : Txt K mg fd) : Ok P w K mg base 2 (He.ga K "_law_pick") (fd 23) ["_law_purse_here", "_law_some"] fn_law_pick := by
  exact fn_okP 2 2 T.f_law_pick sc_law_pick rfl rfl fun cdv A outer s H E hr => (s_one (s_ret (e_ix (by exact u1 hr) (e_var 1) (e_call (ok_law_draw T) (by exact hr.mono (by decide)) T.glo_law_draw T.f_law_draw.kp (b_law_draw T) (a_cons (e_var 0) (a_cons (e_blt (c_len.or c_lenD) T.free_len (a_cons (e_var 1) a_nil)) a_nil))))))
def m_law_labels : SI := (mSeq (mAsg (mBin (fAdd true) (mLc false (srcS (mC (.str "abcdefghijklmnopqrstuvwxyz"))) (gN 3) mYes (mVar 3) [3]) (mOn (mkL false) (mCons (mC (.str "to")) (mCons (mC (.str "fork")) (mCons (mC (.str "none")) (mCons (mC (.str "error")) (mCons (mC (.str "abcdefgh")) mNil))))))) (gN 2)) (mSeq (mAsg (mBin (fAdd true) (mVar 2) (mLc false (srcS (mC (.str "bdfhjlnprtvxz"))) (gN 3) mYes (mBin (orF fMulI (orF fMulS (fMulL false))) (mVar 3) (mC (.int 2))) [3])) (gN 2)) (mSeq (mAsg (mOn (mkL true) mNil) (gN 4)) (mSeq (mFor (srcR1 (mCons (mVar 1) mNil)) (gN 5) (mDrop (mMet "list" fAppend (mVar 4) (mCons (mMet "list" fPopAt (mVar 2) (mCons (mCall 2 fn_law_draw (mCons (mVar 0) (mCons (mOn (orC fLen fLenD) (mCons (mVar 2) mNil)) mNil))) mNil)) mNil)))) (mRet (mVar 4))))))
def fn_law_labels : FnI := mkFnF 2 6 m_law_labels
theorem len_law_labels : ∀ xs h, (fn_law_labels xs h).isSome = true → xs.length = 2 := mkFnF_len
theorem sc_law_labels : FnScope ["_law_purse_here", "_law_many", "_law_left", "_law_letter", "_law_found", "_law_turn"] ["_law_purse_here", "_law_many"] (defScope (top 23)) := ⟨rfl, rfl, rfl, by decide +kernel, rfl, by decide +kernel, by decide +kernel⟩
theorem b_law_labels (T : Txt K mg fd) : Binds K (fd 24) ["_law_purse_here", "_law_many"] [] := T.f_law_labels.bindsN fun _ _ _ _ _ _ us hl => match us, hl with | [_, _], _ => rfl
theorem ok_law_labels (T : Txt K mg fd) : Ok P w K mg base 2 (He.ga K "_law_labels") (fd 24) ["_law_purse_here", "_law_many"] fn_law_labels := by
  exact fn_okPF 2 6 T.f_law_labels sc_law_labels rfl rfl fun cdv A outer s H E hr => (s_cons (s_set 2 (by exact sc_law_labels.nd) (e_bin (o_add (cell := true)) (e_lc false rfl (by exact sc_law_labels.nd) (i_str e_str) (blkOk_by (own := [("_law_letter", 3)]) rfl) (fun _ _ _ _ _ => (gw_name [3] 3 (by exact sc_law_labels.nd))) (fun _ _ _ _ _ => ts_nil) (fun _ _ _ _ _ => (e_var 3))) (e_lst false (a_cons e_str (a_cons e_str (a_cons e_str (a_cons e_str (a_cons e_str a_nil)))))))) (s_cons (s_set 2 (by exact sc_law_labels.nd) (e_bin (o_add (cell := true)) (e_var 2) (e_lc false rfl (by exact sc_law_labels.nd) (i_str e_str) (blkOk_by (own := [("_law_letter", 3)]) rfl) (fun _ _ _ _ _ => (gw_name [3] 3 (by exact sc_law_labels.nd))) (fun _ _ _ _ _ => ts_nil) (fun _ _ _ _ _ => (e_bin (o_mulI.or (o_mulS.or (o_mulL (cell := false)))) (e_var 3) e_int))))) (s_cons (s_set 4 (by exact sc_law_labels.nd) (e_lst true a_nil)) (s_cons (s_for PassesOwn.never rfl (i_r1 T.free_range (a_cons (e_var 1) a_nil)) (g_name 5 (by exact sc_law_labels.nd)) (s_one (s_expr (e_met PySem.F.plainAttrs_list PySem.F.slot_list_append PySem.F.type_list_append m_append (e_var 4) (a_cons (e_met PySem.F.plainAttrs_list PySem.F.slot_list_pop PySem.F.type_list_pop m_popAt (e_var 2) (a_cons (e_call (ok_law_draw T) (by exact hr.mono (by decide)) T.glo_law_draw T.f_law_draw.kp (b_law_draw T) (a_cons (e_var 0) (a_cons (e_blt (c_len.or c_lenD) T.free_len (a_cons (e_var 2) a_nil)) a_nil))) a_nil)) a_nil))))) (s_one (s_ret (e_var 4)))))))
def m_law_rows : SI := (mSeq (mAsg (mOn mkT (mCons (mOn (mkL true) mNil) (mCons (mDnewK true) mNil))) (gT 2 (gsCons (gN 3) (gsCons (gN 4) gsNil)))) (mSeq (mFor (srcQ (mCall 2 fn_law_labels (mCons (mVar 0) (mCons (mVar 1) mNil)))) (gN 5) (mSeq (mLockS 4 (mAsg (mLc false (srcK (mVar 4)) (gN 7) (mBl (mBin fGt (mBin fIx (mVar 4) (mVar 7)) (mC (.int 0)))) (mVar 7) [7]) (gN 6))) (mSeq (mAsg (mOn (mkL true) mNil) (gN 8)) (mSeq (mIfS (mBl (mBin (fEqD true) (mVar 3) (mOn (mkL false) mNil))) (mSeq (mAsg (mBin fIx (mVar 6) (mOn fMax2 (mCons (mC (.int 0)) (mCons (mBin fSub (mBin fSub (mOn (orC fLen fLenD) (mCons (mVar 6) mNil)) (mC (.int 1))) (mCall 2 fn_law_draw (mCons (mVar 0) (mCons (mC (.int 4)) mNil)))) mNil)))) (gN 9)) (mDrop (mMet "list" fAppend (mVar 8) (mCons (mIf (mBl (mBin fGt (mCall 2 fn_law_draw (mCons (mVar 0) (mCons (mC (.int 3)) mNil))) (mC (.int 0)))) (mVar 9) (mCall 2 fn_law_pick (mCons (mVar 0) (mCons (mVar 6) mNil)))) mNil)))) mSkip) (mSeq (mIfS (mAndT (mBl (mBin fGt (mOn (orC fLen fLenD) (mCons (mVar 6) mNil)) (mC (.int 1)))) (mAndT (mBl (mBin fGt (mVar 2) (mC (.int 0)))) (mBl (mBin (fEqD false) (mCall 2 fn_law_draw (mCons (mVar 0) (mCons (mC (.int 2)) mNil))) (mC (.int 0)))))) (mSeq (mAsg (mBin fSub (mVar 2) (mC (.int 1))) (gN 2)) (mDrop (mMet "list" fAppend (mVar 8) (mCons (mCall 2 fn_law_pick (mCons (mVar 0) (mCons (mLc false (srcQ (mVar 6)) (gN 7) (mBl (mBin (fIn true) (mVar 7) (mVar 8))) (mVar 7) [7]) mNil))) mNil)))) mSkip) (mSeq (mFor (srcQ (mVar 8)) (gN 7) (mAsg (mBin fSub (mBin fIx (mVar 4) (mVar 7)) (mC (.int 1))) (gSub (mVar 4) (mVar 7)))) (mSeq (mAsg (mC (.int 2)) (gSub (mVar 4) (mVar 5))) (mDrop (mMet "list" fAppend (mVar 3) (mCons (mOn mkT (mCons (mVar 5) (mCons (mOn (orC fTuple fTupD) (mCons (mIf (mBl (mBin (fEqD false) (mCall 2 fn_law_draw (mCons (mVar 0) (mCons (mC (.int 2)) mNil))) (mC (.int 0)))) (mVar 8) (mUn (fRev false) (mVar 8))) mNil)) mNil))) mNil)))))))))) (mRet (mVar 3))))
def fn_law_rows : FnI := mkFnF 3 10 m_law_rows
theorem len_law_rows : ∀ xs h, (fn_law_rows xs h).isSome = true → xs.length = 3 := mkFnF_len
theorem sc_law_rows : FnScope ["_law_purse_here", "_law_many", "_law_joins", "_law_found", "_law_room", "_law_name_here", "_law_free", "_law_each", "_law_some", "_law_near"] ["_law_purse_here", "_law_many", "_law_joins"] (defScope (top 24)) := ⟨rfl, rfl, rfl, by decide +kernel, rfl, by decide +kernel, by decide +kernel⟩
theorem b_law_rows (T : Txt K mg fd) : Binds K (fd 25) ["_law_purse_here", "_law_many", "_law_joins"] [] := T.f_law_rows.bindsN fun _ _ _ _ _ _ us hl => match us, hl with | [_, _, _], _ => rfl
theorem ok_law_rows (T : Txt K mg fd) : Ok P w K mg base 3 (He.ga K "_law_rows") (fd 25) ["_law_purse_here", "_law_many", "_law_joins"] fn_law_rows := by
  exact fn_okPF 3 10 T.f_law_rows sc_law_rows rfl rfl fun cdv A outer s H E hr => (s_cons (s_asg (e_tup (a_cons (e_lst true a_nil) (a_cons (e_dnewK true) a_nil))) (g_tup (n := 2) rfl (gs_cons (g_name 3 (by exact sc_law_rows.nd)) (gs_cons (g_name 4 (by exact sc_law_rows.nd)) gs_nil)))) (s_cons (s_for PassesOwn.never rfl (i_seq (e_call (ok_law_labels T) (by exact hr.mono (by decide)) T.glo_law_labels T.f_law_labels.kp (b_law_labels T) (a_cons (e_var 0) (a_cons (e_var 1) a_nil)))) (g_name 5 (by exact sc_law_rows.nd)) (s_cons (s_lock 4 (s_setLc false 6 rfl (by exact sc_law_rows.nd) (i_keys (e_var 4)) (blkOk_by (own := [("_law_each", 7)]) rfl) (fun _ _ _ _ _ => (gw_name [7] 7 (by exact sc_law_rows.nd))) (fun _ _ _ _ _ => (ts_one (t_cmp o_gt (e_ix (by exact u1 hr) (e_var 4) (e_var 7)) e_int))) (fun _ _ _ _ _ => (e_var 7)))) (s_cons (s_set 8 (by exact sc_law_rows.nd) (e_lst true a_nil)) (s_cons (s_if (t_cmp (o_neD (by exact u64 hr)) (e_var 3) (e_lst false a_nil)) (s_cons (s_set 9 (by exact sc_law_rows.nd) (e_ix (by exact u1 hr) (e_var 6) (e_blt (c_max2 rfl) T.free_max (a_cons e_int (a_cons (e_bin o_sub (e_bin o_sub (e_blt (c_len.or c_lenD) T.free_len (a_cons (e_var 6) a_nil)) e_int) (e_call (ok_law_draw T) (by exact hr.mono (by decide)) T.glo_law_draw T.f_law_draw.kp (b_law_draw T) (a_cons (e_var 0) (a_cons e_int a_nil)))) a_nil))))) (s_one (s_expr (e_met PySem.F.plainAttrs_list PySem.F.slot_list_append PySem.F.type_list_append m_append (e_var 8) (a_cons (e_if (t_cmp o_gt (e_call (ok_law_draw T) (by exact hr.mono (by decide)) T.glo_law_draw T.f_law_draw.kp (b_law_draw T) (a_cons (e_var 0) (a_cons e_int a_nil))) e_int) (e_var 9) (e_call (ok_law_pick T) (by exact hr.mono (by decide)) T.glo_law_pick T.f_law_pick.kp (b_law_pick T) (a_cons (e_var 0) (a_cons (e_var 6) a_nil)))) a_nil))))) s_nil) (s_cons (s_if (PW.pt (t_and (t_cmp o_gt (e_blt (c_len.or c_lenD) T.free_len (a_cons (e_var 6) a_nil)) e_int) (t_and (t_cmp o_gt (e_var 2) e_int) (t_and1 (t_cmp (o_eqD (by exact u64 hr)) (e_call (ok_law_draw T) (by exact hr.mono (by decide)) T.glo_law_draw T.f_law_draw.kp (b_law_draw T) (a_cons (e_var 0) (a_cons e_int a_nil))) e_int))))) (s_cons (s_set 2 (by exact sc_law_rows.nd) (e_bin o_sub (e_var 2) e_int)) (s_one (s_expr (e_met PySem.F.plainAttrs_list PySem.F.slot_list_append PySem.F.type_list_append m_append (e_var 8) (a_cons (e_call (ok_law_pick T) (by exact hr.mono (by decide)) T.glo_law_pick T.f_law_pick.kp (b_law_pick T) (a_cons (e_var 0) (a_cons (e_lc false rfl (by exact sc_law_rows.nd) (i_seq (e_var 6)) (blkOk_by (own := [("_law_each", 7)]) rfl) (fun _ _ _ _ _ => (gw_name [7] 7 (by exact sc_law_rows.nd))) (fun _ _ _ _ _ => (ts_one (t_cmp (o_notIn (by exact u65 hr)) (e_var 7) (e_var 8)))) (fun _ _ _ _ _ => (e_var 7))) a_nil))) a_nil))))) s_nil) (s_cons (s_for PassesOwn.never rfl (i_seq (e_var 8)) (g_name 7 (by exact sc_law_rows.nd)) (s_one (s_put (by exact u1 hr) (e_var 4) (e_var 7) (e_bin o_sub (e_ix (by exact u1 hr) (e_var 4) (e_var 7)) e_int)))) (s_cons (s_put (by exact u1 hr) (e_var 4) (e_var 5) e_int) (s_one (s_expr (e_met PySem.F.plainAttrs_list PySem.F.slot_list_append PySem.F.type_list_append m_append (e_var 3) (a_cons (e_tup (a_cons (e_var 5) (a_cons (e_bty (c_tuple.or (c_tupD rfl)) T.free_tuple (a_cons (e_if (t_cmp (o_eqD (by exact u64 hr)) (e_call (ok_law_draw T) (by exact hr.mono (by decide)) T.glo_law_draw T.f_law_draw.kp (b_law_draw T) (a_cons (e_var 0) (a_cons e_int a_nil))) e_int) (e_var 8) (e_rev false (e_var 8))) a_nil)) a_nil))) a_nil))))))))))) (s_one (s_ret (e_var 3)))))
def m_law_said : SI := (mRet (mMet "str" fJoin (mC (.str "; ")) (mCons (mLc false (srcQ (mVar 0)) (gT 2 (gsCons (gN 1) (gsCons (gN 2) gsNil))) mYes (mMet "str" fJoin (mC (.str " ")) (mCons (mBin (fAdd false) (mOn (mkL false) (mCons (mVar 1) mNil)) (mOn (fList false) (mCons (mVar 2) mNil))) mNil)) [1, 2]) mNil)))
def fn_law_said : FnI := mkFn 1 3 m_law_said
theorem len_law_said : ∀ xs h, (fn_law_said xs h).isSome = true → xs.length = 1 := mkFn_len
theorem sc_law_said : FnScope ["_law_rows_here", "_law_name_here", "_law_some"] ["_law_rows_here"] (defScope (top 25)) := ⟨rfl, rfl, rfl, by decide +kernel, rfl, by decide +kernel, by decide +kernel⟩
theorem b_law_said (T : Txt K mg fd) : Binds K (fd 26) ["_law_rows_here"] [] := T.f_law_said.bindsN fun _ _ _ _ _ _ us hl => match us, hl with | [_], _ => rfl
theorem ok_law_said (T : Txt K mg fd) : Ok P w K mg base 1 (He.ga K "_law_said") (fd 26) ["_law_rows_here"] fn_law_said := by
  exact fn_okP 1 3 T.f_law_said sc_law_said rfl rfl fun cdv A outer s H E hr => (s_one (s_ret (e_met PySem.F.plainAttrs_str PySem.F.slot_str_join PySem.F.type_str_join m_join e_str (a_cons (e_lc false rfl (by exact sc_law_said.nd) (i_seq (e_var 0)) (blkOk_by (own := [("_law_name_here", 1), ("_law_some", 2)]) rfl) (fun _ _ _ _ _ => (gw_tup (n := 2) rfl (gsw_cons (gw_name [1, 2] 1 (by exact sc_law_said.nd)) (gsw_cons (gw_name [1, 2] 2 (by exact sc_law_said.nd)) (gsw_nil [1, 2]))))) (fun _ _ _ _ _ => ts_nil) (fun _ _ _ _ _ => (e_met PySem.F.plainAttrs_str PySem.F.slot_str_join PySem.F.type_str_join m_join e_str (a_cons (e_bin (o_add (cell := false)) (e_lst false (a_cons (e_var 1) a_nil)) (e_bty (c_list (cell := false)) T.free_list (a_cons (e_var 2) a_nil))) a_nil)))) a_nil))))
def m_law_pairs : SI := (mSeq (mAsg (mOn (mkL false) mNil) (gN 1)) (mSeq (mFor (srcQ (mVar 0)) (gT 2 (gsCons (gN 2) (gsCons (gN 3) gsNil))) (mAsg (mBin (fAdd false) (mVar 1) (mLc false (srcQ (mVar 3)) (gN 4) mYes (mOn mkT (mCons (mVar 4) (mCons (mVar 2) mNil))) [4])) (gN 1))) (mRet (mVar 1))))
def fn_law_pairs : FnI := mkFnF 1 5 m_law_pairs
theorem len_law_pairs : ∀ xs h, (fn_law_pairs xs h).isSome = true → xs.length = 1 := mkFnF_len
theorem sc_law_pairs : FnScope ["_law_rows_here", "_law_found", "_law_name_here", "_law_some", "_law_each"] ["_law_rows_here"] (defScope (top 26)) := ⟨rfl, rfl, rfl, by decide +kernel, rfl, by decide +kernel, by decide +kernel⟩
theorem b_law_pairs (T : Txt K mg fd) : Binds K (fd 27) ["_law_rows_here"] [] := T.f_law_pairs.bindsN fun _ _ _ _ _ _ us hl => match us, hl with | [_], _ => rfl
theorem ok_law_pairs (T : Txt K mg fd) : Ok P w K mg base 1 (He.ga K "_law_pairs") (fd 27) ["_law_rows_here"] fn_law_pairs := by
  exact fn_okPF 1 5 T.f_law_pairs sc_law_pairs rfl rfl fun cdv A outer s H E hr => (s_cons (s_set 1 (by exact sc_law_pairs.nd) (e_lst false a_nil)) (s_cons (s_for PassesOwn.never rfl (i_seq (e_var 0)) (g_tup (n := 2) rfl (gs_cons (g_name 2 (by exact sc_law_pairs.nd)) (gs_cons (g_name 3 (by exact sc_law_pairs.nd)) gs_nil))) (s_one (s_set 1 (by exact sc_law_pairs.nd) (e_bin (o_add (cell := false)) (e_var 1) (e_lc false rfl (by exact sc_law_pairs.nd) (i_seq (e_var 3)) (blkOk_by (own := [("_law_each", 4)]) rfl) (fun _ _ _ _ _ => (gw_name [4] 4 (by exact sc_law_pairs.nd))) (fun _ _ _ _ _ => ts_nil) (fun _ _ _ _ _ => (e_tup (a_cons (e_var 4) (a_cons (e_var 2) a_nil))))))))) (s_one (s_ret (e_var 1)))))
def m_Web__repr_ : SI := (mRet (mJs ((mC (.str "Web of ")) :: (mFmt (mOn (orC fLen fLenD) (mCons (mUn (fFld "Web" "_names") (mVar 0)) mNil)) :: ((mC (.str " copies")) :: []))) Str.empty))
def fn_Web__repr_ : FnI := mkFn 1 1 m_Web__repr_
theorem len_Web__repr_ : ∀ xs h, (fn_Web__repr_ xs h).isSome = true → xs.length = 1 := mkFn_len
theorem sc_Web__repr_ : FnScope ["self"] ["self"] (defScope (kid (top 18) 11)) := ⟨rfl, rfl, rfl, by decide +kernel, rfl, by decide +kernel, by decide +kernel⟩
theorem b_Web__repr_ (T : Txt K mg fd) : Binds K (fd 20) ["self"] [] := T.f_Web__repr_.bindsN fun _ _ _ _ _ _ us hl => match us, hl with | [_], _ => rfl
theorem ok_Web__repr_ (T : Txt K mg fd) : Ok P w K mg base 1 (He.ma K (He.ga K "Web") "__repr__") (fd 20) ["self"] fn_Web__repr_ := by
  exact fn_okP 1 1 T.f_Web__repr_ sc_Web__repr_ rfl rfl fun cdv A outer s H E hr => (s_one (s_ret (e_js (j_cons e_str (j_cons (e_fmt (e_blt (c_len.or c_lenD) T.free_len (a_cons (e_fld "Web" T.glo_Web (He.cls_ok T.cls_Web) (He.noat_ok T.noat_Web_names) (e_var 0)) a_nil))) (j_cons e_str j_nil))))))
def m_Web__str_ : SI := (mRet (mOn (orC fStrI fStrS) (mCons (mUn (fFld "Web" "_text") (mVar 0)) mNil)))
def fn_Web__str_ : FnI := mkFn 1 1 m_Web__str_
theorem len_Web__str_ : ∀ xs h, (fn_Web__str_ xs h).isSome = true → xs.length = 1 := mkFn_len
theorem sc_Web__str_ : FnScope ["self"] ["self"] (defScope (kid (top 18) 10)) := ⟨rfl, rfl, rfl, by decide +kernel, rfl, by decide +kernel, by decide +kernel⟩
theorem b_Web__str_ (T : Txt K mg fd) : Binds K (fd 19) ["self"] [] := T.f_Web__str_.bindsN fun _ _ _ _ _ _ us hl => match us, hl with | [_], _ => rfl
theorem ok_Web__str_ (T : Txt K mg fd) : Ok P w K mg base 1 (He.ma K (He.ga K "Web") "__str__") (fd 19) ["self"] fn_Web__str_ := by
  exact fn_okP 1 1 T.f_Web__str_ sc_Web__str_ rfl rfl fun cdv A outer s H E hr => (s_one (s_ret (e_bty (c_strI.or c_strS) T.free_str (a_cons (e_fld "Web" T.glo_Web (He.cls_ok T.cls_Web) (He.noat_ok T.noat_Web_text) (e_var 0)) a_nil))))
def m_Web_ends : SI := (mRet (mUn (fFld "Web" "_ends") (mVar 0)))
def fn_Web_ends : FnI := mkFn 1 1 m_Web_ends
theorem len_Web_ends : ∀ xs h, (fn_Web_ends xs h).isSome = true → xs.length = 1 := mkFn_len
theorem sc_Web_ends : FnScope ["self"] ["self"] (defScope (kid (top 18) 4)) := ⟨rfl, rfl, rfl, by decide +kernel, rfl, by decide +kernel, by decide +kernel⟩
theorem b_Web_ends (T : Txt K mg fd) : Binds K (fd 13) ["self"] [] := T.f_Web_ends.bindsN fun _ _ _ _ _ _ us hl => match us, hl with | [_], _ => rfl
theorem ok_Web_ends (T : Txt K mg fd) : Ok P w K mg base 1 (pg "Web" "ends" K) (fd 13) ["self"] fn_Web_ends := by
  exact fn_okP 1 1 T.f_Web_ends sc_Web_ends rfl rfl fun cdv A outer s H E hr => (s_one (s_ret (e_fld "Web" T.glo_Web (He.cls_ok T.cls_Web) (He.noat_ok T.noat_Web_ends) (e_var 0))))
def m_Web_lines : SI := (mRet (mUn (fFld "Web" "_lines") (mVar 0)))
def fn_Web_lines : FnI := mkFn 1 1 m_Web_lines
theorem len_Web_lines : ∀ xs h, (fn_Web_lines xs h).isSome = true → xs.length = 1 := mkFn_len
theorem sc_Web_lines : FnScope ["self"] ["self"] (defScope (kid (top 18) 3)) := ⟨rfl, rfl, rfl, by decide +kernel, rfl, by decide +kernel, by decide +kernel⟩
theorem b_Web_lines (T : Txt K mg fd) : Binds K (fd 12) ["self"] [] := T.f_Web_lines.bindsN fun _ _ _ _ _ _ us hl => match us, hl with | [_], _ => rfl
theorem ok_Web_lines (T : Txt K mg fd) : Ok P w K mg base 1 (pg "Web" "lines" K) (fd 12) ["self"] fn_Web_lines := by
  exact fn_okP 1 1 T.f_Web_lines sc_Web_lines rfl rfl fun cdv A outer s H E hr => (s_one (s_ret (e_fld "Web" T.glo_Web (He.cls_ok T.cls_Web) (He.noat_ok T.noat_Web_lines) (e_var 0))))
def m_Web_names : SI := (mRet (mUn (fFld "Web" "_names") (mVar 0)))
def fn_Web_names : FnI := mkFn 1 1 m_Web_names
theorem len_Web_names : ∀ xs h, (fn_Web_names xs h).isSome = true → xs.length = 1 := mkFn_len
theorem sc_Web_names : FnScope ["self"] ["self"] (defScope (kid (top 18) 2)) := ⟨rfl, rfl, rfl, by decide +kernel, rfl, by decide +kernel, by decide +kernel⟩
theorem b_Web_names (T : Txt K mg fd) : Binds K (fd 11) ["self"] [] := T.f_Web_names.bindsN fun _ _ _ _ _ _ us hl => match us, hl with | [_], _ => rfl
theorem ok_Web_names (T : Txt K mg fd) : Ok P w K mg base 1 (pg "Web" "names" K) (fd 11) ["self"] fn_Web_names := by
  exact fn_okP 1 1 T.f_Web_names sc_Web_names rfl rfl fun cdv A outer s H E hr => (s_one (s_ret (e_fld "Web" T.glo_Web (He.cls_ok T.cls_Web) (He.noat_ok T.noat_Web_names) (e_var 0))))
def m_Web_text : SI := (mRet (mUn (fFld "Web" "_text") (mVar 0)))
def fn_Web_text : FnI := mkFn 1 1 m_Web_text
theorem len_Web_text : ∀ xs h, (fn_Web_text xs h).isSome = true → xs.length = 1 := mkFn_len
theorem sc_Web_text : FnScope ["self"] ["self"] (defScope (kid (top 18) 1)) := ⟨rfl, rfl, rfl, by decide +kernel, rfl, by decide +kernel, by decide +kernel⟩
theorem b_Web_text (T : Txt K mg fd) : Binds K (fd 10) ["self"] [] := T.f_Web_text.bindsN fun _ _ _ _ _ _ us hl => match us, hl with | [_], _ => rfl
theorem ok_Web_text (T : Txt K mg fd) : Ok P w K mg base 1 (pg "Web" "text" K) (fd 10) ["self"] fn_Web_text := by
  exact fn_okP 1 1 T.f_Web_text sc_Web_text rfl rfl fun cdv A outer s H E hr => (s_one (s_ret (e_fld "Web" T.glo_Web (He.cls_ok T.cls_Web) (He.noat_ok T.noat_Web_text) (e_var 0))))
def m_Web_copies : SI := (mSeq (mDrop (mCall 2 fn_check_known (mCons (mVar 1) (mCons (mUn (fFld "Web" "_copies") (mVar 0)) mNil)))) (mRet (mBin fIx (mUn (fFld "Web" "_copies") (mVar 0)) (mVar 1))))
def fn_Web_copies : FnI := mkFn 2 2 m_Web_copies
theorem len_Web_copies : ∀ xs h, (fn_Web_copies xs h).isSome = true → xs.length = 2 := mkFn_len
theorem sc_Web_copies : FnScope ["self", "source"] ["self", "source"] (defScope (kid (top 18) 6)) := ⟨rfl, rfl, rfl, by decide +kernel, rfl, by decide +kernel, by decide +kernel⟩
theorem b_Web_copies (T : Txt K mg fd) : Binds K (fd 15) ["self", "source"] [] := T.f_Web_copies.bindsN fun _ _ _ _ _ _ us hl => match us, hl with | [_, _], _ => rfl
theorem ok_Web_copies (T : Txt K mg fd) : Ok P w K mg base 3 (He.ma K (He.ga K "Web") "copies") (fd 15) ["self", "source"] fn_Web_copies := by
  exact fn_okP 2 2 T.f_Web_copies sc_Web_copies rfl rfl fun cdv A outer s H E hr => (s_cons (s_expr (e_call (ok_check_known T) (by exact hr.mono (by decide)) T.glo_check_known T.f_check_known.kp (b_check_known T) (a_cons (e_var 1) (a_cons (e_fld "Web" T.glo_Web (He.cls_ok T.cls_Web) (He.noat_ok T.noat_Web_copies) (e_var 0)) a_nil)))) (s_one (s_ret (e_ix (by exact u1 hr) (e_fld "Web" T.glo_Web (He.cls_ok T.cls_Web) (He.noat_ok T.noat_Web_copies) (e_var 0)) (e_var 1)))))
def m_Web_sources : SI := (mSeq (mDrop (mCall 2 fn_check_known (mCons (mVar 1) (mCons (mUn (fFld "Web" "_sources") (mVar 0)) mNil)))) (mRet (mBin fIx (mUn (fFld "Web" "_sources") (mVar 0)) (mVar 1))))
def fn_Web_sources : FnI := mkFn 2 2 m_Web_sources
theorem len_Web_sources : ∀ xs h, (fn_Web_sources xs h).isSome = true → xs.length = 2 := mkFn_len
theorem sc_Web_sources : FnScope ["self", "copy"] ["self", "copy"] (defScope (kid (top 18) 5)) := ⟨rfl, rfl, rfl, by decide +kernel, rfl, by decide +kernel, by decide +kernel⟩
theorem b_Web_sources (T : Txt K mg fd) : Binds K (fd 14) ["self", "copy"] [] := T.f_Web_sources.bindsN fun _ _ _ _ _ _ us hl => match us, hl with | [_, _], _ => rfl
theorem ok_Web_sources (T : Txt K mg fd) : Ok P w K mg base 3 (He.ma K (He.ga K "Web") "sources") (fd 14) ["self", "copy"] fn_Web_sources := by
  exact fn_okP 2 2 T.f_Web_sources sc_Web_sources rfl rfl fun cdv A outer s H E hr => (s_cons (s_expr (e_call (ok_check_known T) (by exact hr.mono (by decide)) T.glo_check_known T.f_check_known.kp (b_check_known T) (a_cons (e_var 1) (a_cons (e_fld "Web" T.glo_Web (He.cls_ok T.cls_Web) (He.noat_ok T.noat_Web_sources) (e_var 0)) a_nil)))) (s_one (s_ret (e_ix (by exact u1 hr) (e_fld "Web" T.glo_Web (He.cls_ok T.cls_Web) (He.noat_ok T.noat_Web_sources) (e_var 0)) (e_var 1)))))
def m_law_is : SI := (mSeq (mAsg (mOn mkT (mCons (mLc false (srcQ (mVar 1)) (gN 4) mYes (mBin fIx (mVar 4) (mC (.int 0))) [4]) (mCons (mCall 1 fn_law_pairs (mCons (mVar 1) mNil)) mNil))) (gT 2 (gsCons (gN 2) (gsCons (gN 3) gsNil)))) (mSeq (mAsg (mOn (orC fTuple fTupD) (mCons (mLc false (srcQ (mVar 2)) (gN 6) (mBl (mBin (fIn true) (mVar 6) (mLc false (srcQ (mVar 3)) (gN 7) mYes (mBin fIx (mVar 7) (mC (.int 0))) [7]))) (mVar 6) [6]) mNil)) (gN 5)) (mSeq (mAsg (mCall 1 fn_law_said (mCons (mVar 1) mNil)) (gN 8)) (mSeq (mAsg (mOn (mkL false) (mCons (mPrp "Web" "text" fn_Web_text (mVar 0)) (mCons (mPrp "Web" "names" fn_Web_names (mVar 0)) (mCons (mPrp "Web" "lines" fn_Web_lines (mVar 0)) (mCons (mPrp "Web" "ends" fn_Web_ends (mVar 0)) (mCons (mOn (fStrC "Web" fn_Web__str_) (mCons (mVar 0) mNil)) (mCons (mOn (fStrC "Web" fn_Web__repr_) (mCons (mVar 0) mNil)) (mCons (mOn (fBoolC "Web") (mCons (mVar 0) mNil)) mNil)))))))) (gN 9)) (mSeq (mAsg (mOn (mkL false) (mCons (mVar 8) (mCons (mOn (orC fTuple fTupD) (mCons (mVar 2) mNil)) (mCons (mOn (orC fTuple fTupD) (mCons (mVar 3) mNil)) (mCons (mVar 5) (mCons (mVar 8) (mCons (mBin (fAdd false) (mBin (fAdd false) (mC (.str "Web of ")) (mOn (orC fStrI fStrS) (mCons (mOn (orC fLen fLenD) (mCons (mVar 2) mNil)) mNil))) (mC (.str " copies"))) (mCons (mC (.bl true)) mNil)))))))) (gN 10)) (mSeq (mIfS (mBl (mBin fNeS (mOn fRepr (mCons (mVar 9) mNil)) (mOn fRepr (mCons (mVar 10) mNil)))) (mRet (mC (.bl false))) mSkip) (mSeq (mFor (srcQ (mVar 1)) (gT 2 (gsCons (gN 11) (gsCons (gN 12) gsNil))) (mSeq (mAsg (mOn (mkL false) (mCons (mVar 12) (mCons (mOn (orC fTuple fTupD) (mCons (mLc false (srcQ (mVar 3)) (gN 7) (mBl (mBin (fEqD false) (mBin fIx (mVar 7) (mC (.int 0))) (mVar 11))) (mBin fIx (mVar 7) (mC (.int 1))) [7]) mNil)) mNil))) (gN 10)) (mSeq (mIfS (mBl (mBin (fEqD true) (mOn (mkL false) (mCons (mMth "Web" "sources" fn_Web_sources (mVar 0) (mCons (mVar 11) mNil)) (mCons (mMth "Web" "copies" fn_Web_copies (mVar 0) (mCons (mVar 11) mNil)) mNil))) (mVar 10))) (mRet (mC (.bl false))) mSkip) (mIfS (mBl (mBin (fEqD true) (mOn (mkL false) (mCons (mMthK "Web" "sources" 1 [0] fn_Web_sources (mVar 0) (mCons (mVar 11) mNil)) (mCons (mMthK "Web" "copies" 1 [0] fn_Web_copies (mVar 0) (mCons (mVar 11) mNil)) mNil))) (mVar 10))) (mRet (mC (.bl false))) mSkip)))) (mRet (mC (.bl true))))))))))
def fn_law_is : FnI := mkFn 2 13 m_law_is
theorem len_law_is : ∀ xs h, (fn_law_is xs h).isSome = true → xs.length = 2 := mkFn_len
theorem sc_law_is : FnScope ["_law_log", "_law_rows_here", "_law_heads", "_law_pairs_here", "_law_row_here", "_law_lasts", "_law_each", "_law_pair", "_law_said_here", "_law_seen", "_law_due", "_law_name_here", "_law_some"] ["_law_log", "_law_rows_here"] (defScope (top 27)) := ⟨rfl, rfl, rfl, by decide +kernel, rfl, by decide +kernel, by decide +kernel⟩
theorem b_law_is (T : Txt K mg fd) : Binds K (fd 28) ["_law_log", "_law_rows_here"] [] := T.f_law_is.bindsN fun _ _ _ _ _ _ us hl => match us, hl with | [_, _], _ => rfl
theorem ok_law_is (T : Txt K mg fd) : OkG P w K mg base 4 (He.ga K "_law_is") (fd 28) ["_law_log", "_law_rows_here"] fn_law_is := by
  exact fn_okG 2 13 T.f_law_is sc_law_is rfl rfl (fun q => fn_body (np := 2) (ns := 13) (m := m_law_is) rfl rfl q) fun cdv A outer s H E hgd hr => (s_cons (s_asg (e_tup (a_cons (e_lc false rfl (by exact sc_law_is.nd) (i_seq (e_var 1)) (blkOk_by (own := [("_law_row_here", 4)]) rfl) (fun _ _ _ _ _ => (gw_name [4] 4 (by exact sc_law_is.nd))) (fun _ _ _ _ _ => ts_nil) (fun _ _ _ _ _ => (e_ix (by exact u1 hr) (e_var 4) e_int))) (a_cons (e_call (ok_law_pairs T) (by exact hr.mono (by decide)) T.glo_law_pairs T.f_law_pairs.kp (b_law_pairs T) (a_cons (e_var 1) a_nil)) a_nil))) (g_tup (n := 2) rfl (gs_cons (g_name 2 (by exact sc_law_is.nd)) (gs_cons (g_name 3 (by exact sc_law_is.nd)) gs_nil)))) (s_cons (s_set 5 (by exact sc_law_is.nd) (e_bty (c_tuple.or (c_tupD rfl)) T.free_tuple (a_cons (e_lc false rfl (by exact sc_law_is.nd) (i_seq (e_var 2)) (blkOk_by (own := [("_law_each", 6)]) rfl) (fun _ _ _ _ _ => (gw_name [6] 6 (by exact sc_law_is.nd))) (fun _ _ _ _ _ => (ts_one (t_cmp (o_notIn (by exact u65 hr)) (e_var 6) (e_lc false rfl (by exact sc_law_is.nd) (i_seq (e_var 3)) (blkOk_by (own := [("_law_pair", 7)]) rfl) (fun _ _ _ _ _ => (gw_name [7] 7 (by exact sc_law_is.nd))) (fun _ _ _ _ _ => ts_nil) (fun _ _ _ _ _ => (e_ix (by exact u1 hr) (e_var 7) e_int)))))) (fun _ _ _ _ _ => (e_var 6))) a_nil))) (s_cons (s_set 8 (by exact sc_law_is.nd) (e_call (ok_law_said T) (by exact hr.mono (by decide)) T.glo_law_said T.f_law_said.kp (b_law_said T) (a_cons (e_var 1) a_nil))) (s_cons (s_set 9 (by exact sc_law_is.nd) (e_lst false (a_cons (e_prp "Web" T.glo_Web (He.cls_ok T.cls_Web) (prop_ok T.prop_Web_text) (ok_Web_text T) rfl (by exact hr.mono (by decide)) (b_Web_text T) (e_var 0)) (a_cons (e_prp "Web" T.glo_Web (He.cls_ok T.cls_Web) (prop_ok T.prop_Web_names) (ok_Web_names T) rfl (by exact hr.mono (by decide)) (b_Web_names T) (e_var 0)) (a_cons (e_prp "Web" T.glo_Web (He.cls_ok T.cls_Web) (prop_ok T.prop_Web_lines) (ok_Web_lines T) rfl (by exact hr.mono (by decide)) (b_Web_lines T) (e_var 0)) (a_cons (e_prp "Web" T.glo_Web (He.cls_ok T.cls_Web) (prop_ok T.prop_Web_ends) (ok_Web_ends T) rfl (by exact hr.mono (by decide)) (b_Web_ends T) (e_var 0)) (a_cons (e_bty (c_strC "Web" T.glo_Web (He.meth_ok T.meth_Web___str__) (ok_Web__str_ T) rfl (by exact hr.mono (by decide)) (b_Web__str_ T)) T.free_str (a_cons (e_var 0) a_nil)) (a_cons (e_blt (c_reprC "Web" T.glo_Web (He.meth_ok T.meth_Web___repr__) (ok_Web__repr_ T) rfl (by exact hr.mono (by decide)) (b_Web__repr_ T)) T.free_repr (a_cons (e_var 0) a_nil)) (a_cons (e_bty (c_boolC "Web" T.glo_Web (nt_ok T.nt_Web)) T.free_bool (a_cons (e_var 0) a_nil)) a_nil))))))))) (s_cons (s_set 10 (by exact sc_law_is.nd) (e_lst false (a_cons (e_var 8) (a_cons (e_bty (c_tuple.or (c_tupD rfl)) T.free_tuple (a_cons (e_var 2) a_nil)) (a_cons (e_bty (c_tuple.or (c_tupD rfl)) T.free_tuple (a_cons (e_var 3) a_nil)) (a_cons (e_var 5) (a_cons (e_var 8) (a_cons (e_bin (o_add (cell := false)) (e_bin (o_add (cell := false)) e_str (e_bty (c_strI.or c_strS) T.free_str (a_cons (e_blt (c_len.or c_lenD) T.free_len (a_cons (e_var 2) a_nil)) a_nil))) e_str) (a_cons e_bl a_nil))))))))) (s_cons (s_if (t_cmp o_neS (e_blt (c_repr (by exact hr) (by exact hgd)) T.free_repr (a_cons (e_var 9) a_nil)) (e_blt (c_repr (by exact hr) (by exact hgd)) T.free_repr (a_cons (e_var 10) a_nil))) (s_one (s_ret e_bl)) s_nil) (s_cons (s_for PassesOwn.never rfl (i_seq (e_var 1)) (g_tup (n := 2) rfl (gs_cons (g_name 11 (by exact sc_law_is.nd)) (gs_cons (g_name 12 (by exact sc_law_is.nd)) gs_nil))) (s_cons (s_set 10 (by exact sc_law_is.nd) (e_lst false (a_cons (e_var 12) (a_cons (e_bty (c_tuple.or (c_tupD rfl)) T.free_tuple (a_cons (e_lc false rfl (by exact sc_law_is.nd) (i_seq (e_var 3)) (blkOk_by (own := [("_law_pair", 7)]) rfl) (fun _ _ _ _ _ => (gw_name [7] 7 (by exact sc_law_is.nd))) (fun _ _ _ _ _ => (ts_one (t_cmp (o_eqD (by exact u64 hr)) (e_ix (by exact u1 hr) (e_var 7) e_int) (e_var 11)))) (fun _ _ _ _ _ => (e_ix (by exact u1 hr) (e_var 7) e_int))) a_nil)) a_nil)))) (s_cons (s_if (t_cmp (o_neD (by exact u64 hr)) (e_lst false (a_cons (e_mth "Web" T.glo_Web (He.cls_ok T.cls_Web) (He.meth_ok T.meth_Web_sources) (ok_Web_sources T) len_Web_sources (by exact hr.mono (by decide)) (b_Web_sources T) (e_var 0) (a_cons (e_var 11) a_nil)) (a_cons (e_mth "Web" T.glo_Web (He.cls_ok T.cls_Web) (He.meth_ok T.meth_Web_copies) (ok_Web_copies T) len_Web_copies (by exact hr.mono (by decide)) (b_Web_copies T) (e_var 0) (a_cons (e_var 11) a_nil)) a_nil))) (e_var 10)) (s_one (s_ret e_bl)) s_nil) (s_one (s_if (t_cmp (o_neD (by exact u64 hr)) (e_lst false (a_cons (e_mthK (ks := ["copy"]) "Web" [0] T.glo_Web (He.cls_ok T.cls_Web) (He.meth_ok T.meth_Web_sources) (ok_Web_sources T) len_Web_sources (by exact hr.mono (by decide)) (kplain T.f_Web_sources 1 ["copy"] [0] fun _ _ _ _ _ _ us ws l1 l2 => match us, ws, l1, l2 with | [_], [_], _, _ => rfl) (e_var 0) (k_cons "copy" (e_var 11) k_nil)) (a_cons (e_mthK (ks := ["source"]) "Web" [0] T.glo_Web (He.cls_ok T.cls_Web) (He.meth_ok T.meth_Web_copies) (ok_Web_copies T) len_Web_copies (by exact hr.mono (by decide)) (kplain T.f_Web_copies 1 ["source"] [0] fun _ _ _ _ _ _ us ws l1 l2 => match us, ws, l1, l2 with | [_], [_], _, _ => rfl) (e_var 0) (k_cons "source" (e_var 11) k_nil)) a_nil))) (e_var 10)) (s_one (s_ret e_bl)) s_nil))))) (s_one (s_ret e_bl)))))))))
def m_Web__init_ : SI := (mSeq (mAsg (mCall 1 fn_read_web (mCons (mVar 1) mNil)) (gN 2)) (mSeq (mIfS (mBl (mBin (fIs false) (mVar 2) (mC .non))) mStuck mSkip) (mSeq (mAsg (mVar 2) (gT 2 (gsCons (gN 3) (gsCons (gN 4) gsNil)))) (mSeq (mFldS "Web" "_text" (mVar 0) (mVar 1)) (mSeq (mFldS "Web" "_sources" (mVar 0) (mLock 3 (mDc (srcK (mVar 3)) (gN 5) mYes (mVar 5) (mOn (orC fTuple fTupD) (mCons (mBin fIx (mVar 3) (mVar 5)) mNil)) [5]))) (mSeq (mFldS "Web" "_copies" (mVar 0) (mLock 4 (mDc (srcK (mVar 4)) (gN 5) mYes (mVar 5) (mOn (orC fTuple fTupD) (mCons (mBin fIx (mVar 4) (mVar 5)) mNil)) [5]))) (mSeq (mFldS "Web" "_names" (mVar 0) (mOn (orC fTuple fTupD) (mCons (mVar 3) mNil))) (mSeq (mFldS "Web" "_lines" (mVar 0) (mOn (orC fTuple fTupD) (mCons (mLock 3 (mLc2 false (srcK (mVar 3)) (gN 6) mYes (srcQ (mBin fIx (mVar 3) (mVar 6))) (gN 7) mYes (mOn mkT (mCons (mVar 7) (mCons (mVar 6) mNil))) [6, 7] [7])) mNil))) (mFldS "Web" "_ends" (mVar 0) (mOn (orC fTuple fTupD) (mCons (mLock 4 (mLc false (srcK (mVar 4)) (gN 5) (mNotT (mTru (mBin fIx (mVar 4) (mVar 5)))) (mVar 5) [5])) mNil)))))))))))
def fn_Web__init_ : FnI := mkFn 2 8 m_Web__init_
theorem len_Web__init_ : ∀ xs h, (fn_Web__init_ xs h).isSome = true → xs.length = 2 := mkFn_len
theorem sc_Web__init_ : FnScope ["self", "text", "told", "all_sources", "all_copies", "name", "copy", "source"] ["self", "text"] (defScope (kid (top 18) 0)) := ⟨rfl, rfl, rfl, by decide +kernel, rfl, by decide +kernel, by decide +kernel⟩
theorem b_Web__init_ (T : Txt K mg fd) : Binds K (fd 9) ["self", "text"] [] := T.f_Web__init_.bindsN fun _ _ _ _ _ _ us hl => match us, hl with | [_, _], _ => rfl
theorem ok_Web__init_ (T : Txt K mg fd) : Ok P w K mg base 5 (He.ma K (He.ga K "Web") "__init__") (fd 9) ["self", "text"] fn_Web__init_ := by
  exact fn_okP 2 8 T.f_Web__init_ sc_Web__init_ rfl rfl fun cdv A outer s H E hr => (s_cons (s_set 2 (by exact sc_Web__init_.nd) (e_call (ok_read_web T) (by exact hr.mono (by decide)) T.glo_read_web T.f_read_web.kp (b_read_web T) (a_cons (e_var 1) a_nil))) (s_cons (s_if (t_cmp o_is (e_var 2) e_non) (s_one s_stuck) s_nil) (s_cons (s_asg (e_var 2) (g_tup (n := 2) rfl (gs_cons (g_name 3 (by exact sc_Web__init_.nd)) (gs_cons (g_name 4 (by exact sc_Web__init_.nd)) gs_nil)))) (s_cons (s_fld "Web" T.glo_Web (He.cls_ok T.cls_Web) (He.noat_ok T.noat_Web_text) (e_var 0) (e_var 1)) (s_cons (s_fld "Web" T.glo_Web (He.cls_ok T.cls_Web) (He.noat_ok T.noat_Web_sources) (e_var 0) (e_lock 3 (e_dc rfl (by exact sc_Web__init_.nd) (i_keys (e_var 3)) (blkOk_by (own := [("name", 5)]) rfl) (fun _ _ _ _ _ => (gw_name [5] 5 (by exact sc_Web__init_.nd))) (fun _ _ _ _ _ => ts_nil) (fun _ _ _ _ _ => (e_var 5)) (fun _ _ _ _ _ => (e_bty (c_tuple.or (c_tupD rfl)) T.free_tuple (a_cons (e_ix (by exact u1 hr) (e_var 3) (e_var 5)) a_nil)))))) (s_cons (s_fld "Web" T.glo_Web (He.cls_ok T.cls_Web) (He.noat_ok T.noat_Web_copies) (e_var 0) (e_lock 4 (e_dc rfl (by exact sc_Web__init_.nd) (i_keys (e_var 4)) (blkOk_by (own := [("name", 5)]) rfl) (fun _ _ _ _ _ => (gw_name [5] 5 (by exact sc_Web__init_.nd))) (fun _ _ _ _ _ => ts_nil) (fun _ _ _ _ _ => (e_var 5)) (fun _ _ _ _ _ => (e_bty (c_tuple.or (c_tupD rfl)) T.free_tuple (a_cons (e_ix (by exact u1 hr) (e_var 4) (e_var 5)) a_nil)))))) (s_cons (s_fld "Web" T.glo_Web (He.cls_ok T.cls_Web) (He.noat_ok T.noat_Web_names) (e_var 0) (e_bty (c_tuple.or (c_tupD rfl)) T.free_tuple (a_cons (e_var 3) a_nil))) (s_cons (s_fld "Web" T.glo_Web (He.cls_ok T.cls_Web) (He.noat_ok T.noat_Web_lines) (e_var 0) (e_bty (c_tuple.or (c_tupD rfl)) T.free_tuple (a_cons (e_lock 3 (e_lc2 false rfl (by exact sc_Web__init_.nd) (i_keys (e_var 3)) (blkOk_by (own := [("copy", 6), ("source", 7)]) rfl) (vs1 := [7]) (by decide) (fun _ _ _ _ _ => (gw_name [6, 7] 6 (by exact sc_Web__init_.nd))) (fun _ _ _ _ _ => ts_nil) (fun _ _ _ _ _ => (i_seq (e_ix (by exact u1 hr) (e_var 3) (e_var 6)))) (fun _ _ _ _ _ => (gw_name [7] 7 (by exact sc_Web__init_.nd))) (fun _ _ _ _ _ => ts_nil) (fun _ _ _ _ _ => (e_tup (a_cons (e_var 7) (a_cons (e_var 6) a_nil)))))) a_nil))) (s_one (s_fld "Web" T.glo_Web (He.cls_ok T.cls_Web) (He.noat_ok T.noat_Web_ends) (e_var 0) (e_bty (c_tuple.or (c_tupD rfl)) T.free_tuple (a_cons (e_lock 4 (e_lc false rfl (by exact sc_Web__init_.nd) (i_keys (e_var 4)) (blkOk_by (own := [("name", 5)]) rfl) (fun _ _ _ _ _ => (gw_name [5] 5 (by exact sc_Web__init_.nd))) (fun _ _ _ _ _ => (ts_one (t_not (t_val (e_ix (by exact u1 hr) (e_var 4) (e_var 5)))))) (fun _ _ _ _ _ => (e_var 5)))) a_nil))))))))))))
def m_Web__eq_ : SI := (mRet (mAnd (mIsC "Web" (mVar 1)) (mBin (fEqD false) (mUn (fFld "Web" "_text") (mVar 0)) (mUn (fFld "Web" "_text") (mVar 1)))))
def fn_Web__eq_ : FnI := mkFn 2 2 m_Web__eq_
theorem len_Web__eq_ : ∀ xs h, (fn_Web__eq_ xs h).isSome = true → xs.length = 2 := mkFn_len
theorem sc_Web__eq_ : FnScope ["self", "other"] ["self", "other"] (defScope (kid (top 18) 9)) := ⟨rfl, rfl, rfl, by decide +kernel, rfl, by decide +kernel, by decide +kernel⟩
theorem b_Web__eq_ (T : Txt K mg fd) : Binds K (fd 18) ["self", "other"] [] := T.f_Web__eq_.bindsN fun _ _ _ _ _ _ us hl => match us, hl with | [_, _], _ => rfl
theorem ok_Web__eq_ (T : Txt K mg fd) : Ok P w K mg base 1 (He.ma K (He.ga K "Web") "__eq__") (fd 18) ["self", "other"] fn_Web__eq_ := by
  exact fn_okP 2 2 T.f_Web__eq_ sc_Web__eq_ rfl rfl fun cdv A outer s H E hr => (s_one (s_ret (e_and (e_isC "Web" T.glo_Web (inst_ok (He.cls_ok T.cls_Web) T.inst_Web T.gs).1 (inst_ok (He.cls_ok T.cls_Web) T.inst_Web T.gs).2.1 (inst_ok (He.cls_ok T.cls_Web) T.inst_Web T.gs).2.2 T.free_isinstance (e_var 1)) (e_one (e_cmp (o_eqD (by exact u64 hr)) (e_fld "Web" T.glo_Web (He.cls_ok T.cls_Web) (He.noat_ok T.noat_Web_text) (e_var 0)) (e_fld "Web" T.glo_Web (He.cls_ok T.cls_Web) (He.noat_ok T.noat_Web_text) (e_var 1)))))))
def m_law_right : SI := (mSeq (mAsg (mLc true (srcQ (mOn (mkL false) (mCons (mC (.int 3)) (mCons (mC (.int 9)) (mCons (mC (.int 20)) (mCons (mC (.int 40)) mNil)))))) (gN 2) mYes (mCall 3 fn_law_rows (mCons (mVar 0) (mCons (mBin (fAdd false) (mC (.int 1)) (mCall 2 fn_law_draw (mCons (mVar 0) (mCons (mVar 2) mNil)))) (mCons (mC (.int 20)) mNil)))) [2]) (gN 1)) (mSeq (mDrop (mMet "list" fAppend (mVar 1) (mCons (mBin fIx (mVar 1) (mC (.int 1))) mNil))) (mSeq (mAsg (mLc false (srcQ (mVar 1)) (gN 4) mYes (mCall 1 fn_law_said (mCons (mVar 4) mNil)) [4]) (gN 3)) (mSeq (mAsg (mLc false (srcQ (mVar 3)) (gN 6) mYes (mIf (mBl (mBin (fEqD false) (mCall 2 fn_law_draw (mCons (mVar 0) (mCons (mC (.int 2)) mNil))) (mC (.int 0)))) (mMake "Web" 2 fn_Web__init_ (mCons (mVar 6) mNil)) (mMakeK "Web" 1 [0] fn_Web__init_ (mCons (mVar 6) mNil))) [6]) (gN 5)) (mSeq (mFor (srcZ3 (mCons (mVar 5) (mCons (mVar 1) (mCons (mVar 3) mNil)))) (gT 3 (gsCons (gN 7) (gsCons (gN 4) (gsCons (gN 6) gsNil)))) (mSeq (mIfS (mNotT (mTru (mCall 2 fn_law_is (mCons (mVar 7) (mCons (mVar 4) mNil))))) (mRet (mC (.bl false))) mSkip) (mSeq (mIfS (mBl (mBin (fEqD true) (mLc false (srcQ (mVar 5)) (gN 8) mYes (mBin (orF (fEqD false) (fEqC false "Web" fn_Web__eq_)) (mVar 7) (mVar 8)) [8]) (mLc false (srcQ (mVar 3)) (gN 8) mYes (mBin (fEqD false) (mVar 6) (mVar 8)) [8]))) (mRet (mC (.bl false))) mSkip) (mSeq (mIfS (mBl (mBin (fEqD true) (mLc false (srcQ (mVar 5)) (gN 8) mYes (mBin (orF (fEqD true) (fEqC true "Web" fn_Web__eq_)) (mVar 7) (mVar 8)) [8]) (mLc false (srcQ (mVar 3)) (gN 8) mYes (mBin (fEqD true) (mVar 6) (mVar 8)) [8]))) (mRet (mC (.bl false))) mSkip) (mFor (srcQ (mOn (mkL false) (mCons (mC .non) (mCons (mC (.int 0)) (mCons (mVar 6) (mCons (mOn mkT (mCons (mVar 6) mNil)) (mCons (mOn (mkL false) (mCons (mVar 7) mNil)) (mCons (mDnewK false) (mCons (mC (.bl true)) mNil))))))))) (gN 9) (mIfS (mOrT (mBl (mBin (orF (fEqD false) (fEqC false "Web" fn_Web__eq_)) (mVar 7) (mVar 9))) (mNotT (mBl (mBin (orF (fEqD true) (fEqC true "Web" fn_Web__eq_)) (mVar 7) (mVar 9))))) (mRet (mC (.bl false))) mSkip)))))) (mRet (mC (.bl true))))))))
def fn_law_right : FnI := mkFn 1 10 m_law_right
theorem len_law_right : ∀ xs h, (fn_law_right xs h).isSome = true → xs.length = 1 := mkFn_len
theorem sc_law_right : FnScope ["_law_purse_here", "_law_some", "_law_size", "_law_lines", "_law_rows_here", "_law_logs", "_law_said_here", "_law_log", "_law_each", "_law_odd"] ["_law_purse_here"] (defScope (top 28)) := ⟨rfl, rfl, rfl, by decide +kernel, rfl, by decide +kernel, by decide +kernel⟩
theorem b_law_right (T : Txt K mg fd) : Binds K (fd 29) ["_law_purse_here"] [] := T.f_law_right.bindsN fun _ _ _ _ _ _ us hl => match us, hl with | [_], _ => rfl
theorem ok_law_right (T : Txt K mg fd) : OkG P w K mg base 7 (He.ga K "_law_right") (fd 29) ["_law_purse_here"] fn_law_right := by
  exact fn_okG 1 10 T.f_law_right sc_law_right rfl rfl (fun q => fn_body (np := 1) (ns := 10) (m := m_law_right) rfl rfl q) fun cdv A outer s H E hgd hr => (s_cons (s_setLc true 1 rfl (by exact sc_law_right.nd) (i_seq (e_lst false (a_cons e_int (a_cons e_int (a_cons e_int (a_cons e_int a_nil)))))) (blkOk_by (own := [("_law_size", 2)]) rfl) (fun _ _ _ _ _ => (gw_name [2] 2 (by exact sc_law_right.nd))) (fun _ _ _ _ _ => ts_nil) (fun _ _ _ _ _ => (e_call (ok_law_rows T) (by exact hr.mono (by decide)) T.glo_law_rows T.f_law_rows.kp (b_law_rows T) (a_cons (e_var 0) (a_cons (e_bin (o_add (cell := false)) e_int (e_call (ok_law_draw T) (by exact hr.mono (by decide)) T.glo_law_draw T.f_law_draw.kp (b_law_draw T) (a_cons (e_var 0) (a_cons (e_var 2) a_nil)))) (a_cons e_int a_nil)))))) (s_cons (s_expr (e_met PySem.F.plainAttrs_list PySem.F.slot_list_append PySem.F.type_list_append m_append (e_var 1) (a_cons (e_ix (by exact u1 hr) (e_var 1) e_int) a_nil))) (s_cons (s_setLc false 3 rfl (by exact sc_law_right.nd) (i_seq (e_var 1)) (blkOk_by (own := [("_law_rows_here", 4)]) rfl) (fun _ _ _ _ _ => (gw_name [4] 4 (by exact sc_law_right.nd))) (fun _ _ _ _ _ => ts_nil) (fun _ _ _ _ _ => (e_call (ok_law_said T) (by exact hr.mono (by decide)) T.glo_law_said T.f_law_said.kp (b_law_said T) (a_cons (e_var 4) a_nil)))) (s_cons (s_setLc false 5 rfl (by exact sc_law_right.nd) (i_seq (e_var 3)) (blkOk_by (own := [("_law_said_here", 6)]) rfl) (fun _ _ _ _ _ => (gw_name [6] 6 (by exact sc_law_right.nd))) (fun _ _ _ _ _ => ts_nil) (fun _ _ _ _ _ => (e_if (t_cmp (o_eqD (by exact u64 hr)) (e_call (ok_law_draw T) (by exact hr.mono (by decide)) T.glo_law_draw T.f_law_draw.kp (b_law_draw T) (a_cons (e_var 0) (a_cons e_int a_nil))) e_int) (e_mk "Web" T.glo_Web (He.mkr_ok T.mkr_Web) (ok_Web__init_ T) (by exact hr.mono (by decide)) (b_Web__init_ T) (a_cons (e_var 6) a_nil)) (e_mkK (ks := ["text"]) "Web" [0] rfl T.glo_Web (He.mkr_ok T.mkr_Web) (ok_Web__init_ T) (by exact hr.mono (by decide)) (kplain T.f_Web__init_ 1 ["text"] [0] fun _ _ _ _ _ _ us ws l1 l2 => match us, ws, l1, l2 with | [_], [_], _, _ => rfl) (k_cons "text" (e_var 6) k_nil))))) (s_cons (s_for PassesOwn.never rfl (i_zip3 T.free_zip (a_cons (e_var 5) (a_cons (e_var 1) (a_cons (e_var 3) a_nil)))) (g_tup (n := 3) rfl (gs_cons (g_name 7 (by exact sc_law_right.nd)) (gs_cons (g_name 4 (by exact sc_law_right.nd)) (gs_cons (g_name 6 (by exact sc_law_right.nd)) gs_nil)))) (s_cons (s_if (t_not (t_val (e_callG (ok_law_is T) (by exact hgd) (by exact hr.mono (by decide)) T.glo_law_is T.f_law_is.kp (b_law_is T) (a_cons (e_var 7) (a_cons (e_var 4) a_nil))))) (s_one (s_ret e_bl)) s_nil) (s_cons (s_if (t_cmp (o_neD (by exact u64 hr)) (e_lc false rfl (by exact sc_law_right.nd) (i_seq (e_var 5)) (blkOk_by (own := [("_law_each", 8)]) rfl) (fun _ _ _ _ _ => (gw_name [8] 8 (by exact sc_law_right.nd))) (fun _ _ _ _ _ => ts_nil) (fun _ _ _ _ _ => (e_cmp ((o_eqD (by exact u64 hr)).or (o_eqC "Web" T.glo_Web (He.meth_ok T.meth_Web___eq__) (nf_ok T.nf_Web) (ok_Web__eq_ T) rfl (by exact hr.mono (by decide)) (b_Web__eq_ T))) (e_var 7) (e_var 8)))) (e_lc false rfl (by exact sc_law_right.nd) (i_seq (e_var 3)) (blkOk_by (own := [("_law_each", 8)]) rfl) (fun _ _ _ _ _ => (gw_name [8] 8 (by exact sc_law_right.nd))) (fun _ _ _ _ _ => ts_nil) (fun _ _ _ _ _ => (e_cmp (o_eqD (by exact u64 hr)) (e_var 6) (e_var 8))))) (s_one (s_ret e_bl)) s_nil) (s_cons (s_if (t_cmp (o_neD (by exact u64 hr)) (e_lc false rfl (by exact sc_law_right.nd) (i_seq (e_var 5)) (blkOk_by (own := [("_law_each", 8)]) rfl) (fun _ _ _ _ _ => (gw_name [8] 8 (by exact sc_law_right.nd))) (fun _ _ _ _ _ => ts_nil) (fun _ _ _ _ _ => (e_cmp ((o_neD (by exact u64 hr)).or (o_neC2 "Web" T.glo_Web (eqne_ok T.eqne_Web) (nf_ok T.nf_Web) (ok_Web__eq_ T) rfl (by exact hr.mono (by decide)) (b_Web__eq_ T))) (e_var 7) (e_var 8)))) (e_lc false rfl (by exact sc_law_right.nd) (i_seq (e_var 3)) (blkOk_by (own := [("_law_each", 8)]) rfl) (fun _ _ _ _ _ => (gw_name [8] 8 (by exact sc_law_right.nd))) (fun _ _ _ _ _ => ts_nil) (fun _ _ _ _ _ => (e_cmp (o_neD (by exact u64 hr)) (e_var 6) (e_var 8))))) (s_one (s_ret e_bl)) s_nil) (s_one (s_for PassesOwn.never rfl (i_seq (e_lst false (a_cons e_non (a_cons e_int (a_cons (e_var 6) (a_cons (e_tup (a_cons (e_var 6) a_nil)) (a_cons (e_lst false (a_cons (e_var 7) a_nil)) (a_cons (e_dnewK false) (a_cons e_bl a_nil))))))))) (g_name 9 (by exact sc_law_right.nd)) (s_one (s_if (PW.pt (t_or (t_cmp ((o_eqD (by exact u64 hr)).or (o_eqC "Web" T.glo_Web (He.meth_ok T.meth_Web___eq__) (nf_ok T.nf_Web) (ok_Web__eq_ T) rfl (by exact hr.mono (by decide)) (b_Web__eq_ T))) (e_var 7) (e_var 9)) (t_or1 (t_not (t_cmp ((o_neD (by exact u64 hr)).or (o_neC2 "Web" T.glo_Web (eqne_ok T.eqne_Web) (nf_ok T.nf_Web) (ok_Web__eq_ T) rfl (by exact hr.mono (by decide)) (b_Web__eq_ T))) (e_var 7) (e_var 9)))))) (s_one (s_ret e_bl)) s_nil)))))))) (s_one (s_ret e_bl)))))))
def m_law : SI := (mRet (mOn fAll (mCons (mLc false (srcR1 (mCons (mOn fMax2 (mCons (mC (.int 2)) (mCons (mOn fMin2 (mCons (mOn (orC fLen fLenD) (mCons (mVar 0) mNil)) (mCons (mC (.int 4)) mNil))) mNil))) mNil)) (gN 1) mYes (mCall 1 fn_law_right (mCons (mCall 2 fn_law_purse (mCons (mVar 0) (mCons (mVar 1) mNil))) mNil)) [1]) mNil)))
def fn_law : FnI := mkFn 1 2 m_law
theorem len_law : ∀ xs h, (fn_law xs h).isSome = true → xs.length = 1 := mkFn_len
theorem sc_law : FnScope ["_law_script", "_law_spot"] ["_law_script"] (defScope (top 29)) := ⟨rfl, rfl, rfl, by decide +kernel, rfl, by decide +kernel, by decide +kernel⟩
theorem b_law (T : Txt K mg fd) : Binds K (fd 30) ["_law_script"] [] := T.f_law.bindsN fun _ _ _ _ _ _ us hl => match us, hl with | [_], _ => rfl
theorem ok_law (T : Txt K mg fd) : OkG P w K mg base 8 (He.ga K "law") (fd 30) ["_law_script"] fn_law := by
  exact fn_okG 1 2 T.f_law sc_law rfl rfl (fun q => fn_body (np := 1) (ns := 2) (m := m_law) rfl rfl q) fun cdv A outer s H E hgd hr => (s_one (s_ret (e_blt (c_all rfl) T.free_all (a_cons (e_lc false rfl (by exact sc_law.nd) (i_r1 T.free_range (a_cons (e_blt (c_max2 rfl) T.free_max (a_cons e_int (a_cons (e_blt (c_min2 rfl) T.free_min (a_cons (e_blt (c_len.or c_lenD) T.free_len (a_cons (e_var 0) a_nil)) (a_cons e_int a_nil))) a_nil))) a_nil)) (blkOk_by (own := [("_law_spot", 1)]) rfl) (fun _ _ _ _ _ => (gw_name [1] 1 (by exact sc_law.nd))) (fun _ _ _ _ _ => ts_nil) (fun _ _ _ _ _ => (e_callG (ok_law_right T) (by exact hgd) (by exact hr.mono (by decide)) T.glo_law_right T.f_law_right.kp (b_law_right T) (a_cons (e_call (ok_law_purse T) (by exact hr.mono (by decide)) T.glo_law_purse T.f_law_purse.kp (b_law_purse T) (a_cons (e_var 0) (a_cons (e_var 1) a_nil))) a_nil)))) a_nil))))
def m_Web_with_copy : SI := mStuck
def fn_Web_with_copy : FnI := mkFn 3 3 m_Web_with_copy
theorem len_Web_with_copy : ∀ xs h, (fn_Web_with_copy xs h).isSome = true → xs.length = 3 := mkFn_len
theorem sc_Web_with_copy : FnScope ["self", "name", "sources"] ["self", "name", "sources"] (defScope (kid (top 18) 7)) := ⟨rfl, rfl, rfl, by decide +kernel, rfl, by decide +kernel, by decide +kernel⟩
theorem b_Web_with_copy (T : Txt K mg fd) : Binds K (fd 16) ["self", "name", "sources"] [] := T.f_Web_with_copy.bindsN fun _ _ _ _ _ _ us hl => match us, hl with | [_, _, _], _ => rfl
theorem ok_Web_with_copy (T : Txt K mg fd) : Ok P w K mg base 1 (He.ma K (He.ga K "Web") "with_copy") (fd 16) ["self", "name", "sources"] fn_Web_with_copy := by
  exact fn_okP 3 3 T.f_Web_with_copy sc_Web_with_copy rfl rfl fun cdv A outer s H E hr => (s_one s_stuck)
def m_Web_without : SI := mStuck
def fn_Web_without : FnI := mkFn 2 2 m_Web_without
theorem len_Web_without : ∀ xs h, (fn_Web_without xs h).isSome = true → xs.length = 2 := mkFn_len
theorem sc_Web_without : FnScope ["self", "copy"] ["self", "copy"] (defScope (kid (top 18) 8)) := ⟨rfl, rfl, rfl, by decide +kernel, rfl, by decide +kernel, by decide +kernel⟩
theorem b_Web_without (T : Txt K mg fd) : Binds K (fd 17) ["self", "copy"] [] := T.f_Web_without.bindsN fun _ _ _ _ _ _ us hl => match us, hl with | [_, _], _ => rfl
theorem ok_Web_without (T : Txt K mg fd) : Ok P w K mg base 1 (He.ma K (He.ga K "Web") "without") (fd 17) ["self", "copy"] fn_Web_without := by
  exact fn_okP 2 2 T.f_Web_without sc_Web_without rfl rfl fun cdv A outer s H E hr => (s_one s_stuck)
end
end K02
set_option Elab.async false
set_option linter.all false
set_option maxRecDepth 100000
set_option maxHeartbeats 1000000
namespace K02
open PySem PySem.Spec PyProof.Rows L2 F2
/-- the purse -/
def PUR (p : Int × Int) : O := .lst [.d (.int p.1), .d (.int p.2)]
theorem cut_same {n : Nat} {a : A} {h : Hh} (e : h.length = n) : cut n a h = (a, h) := by
  unfold cut
  split
  · rw [List.take_of_length_le (by omega)]
  · rfl
/-- one draw -/
def drw (p : Int × Int) (m : Int) : Int × (Int × Int) :=
  if 0 < p.1 then (p.1 % m, (p.1 / m, p.2)) else (((p.2 * 45991 + 40503) % 2147483647 / 1024) % m, (p.1, (p.2 * 45991 + 40503) % 2147483647))
theorem drw_lo {p : Int × Int} {m : Int} (h : 0 < m) : 0 ≤ (drw p m).1 := by
  unfold drw
  split <;> exact Int.emod_nonneg _ (by omega)
theorem drw_hi {p : Int × Int} {m : Int} (h : 0 < m) : (drw p m).1 < m := by
  unfold drw
  split <;> exact Int.emod_lt_of_pos _ h
theorem draw_eq {p : Int × Int} {many : Int} (h0 : 0 < many) (h1 : many < 1073741824) {H : Hh} {l : Nat} (hl : H[l]? = some (PUR p)) : fn_law_draw [.ref l, .d (.int many)] H = some (.d (.int (drw p many).1), H.set l (PUR (drw p many).2)) := by
  have hs : ∀ o, (H.set l o)[l]? = some o := fun o => List.getElem?_set_self (List.getElem?_eq_some_iff.mp hl).1
  have hl' := hl
  simp only [PUR] at hl'
  by_cases ha : 0 < p.1
  · simp [fn_law_draw, mkFn, m_law_draw, mSeq, mIfS, mBl, mBin, mVar, mC, fIx, orF, fIxS, itemsL, hl', L2.atI, ixN, fGt, int2, ha, mAsg, mOn, mCons, mNil, fDivmod, int2C, h0, h1, gT, itemsT, gsCons, gsNil, F2.gSub, gN, stF, mRet, cut_same, PUR, drw]
  · simp [fn_law_draw, mkFn, m_law_draw, mSeq, mIfS, mBl, mBin, mVar, mC, fIx, orF, fIxS, itemsL, hl', L2.atI, ixN, fGt, int2, ha, mAsg, mOn, mCons, mNil, fInt, fMulI, smallI, fAdd, fAddI, fMod, fDiv, F2.gSub, gN, stF, mRet, cut_same, PUR, mSkip, h0, h1, hs, drw]
/-- one of some texts -/
def pck (p : Int × Int) (xs : List Str) : Str × (Int × Int) := (xs.getD (drw p xs.length).1.toNat Str.empty, (drw p xs.length).2)
def LS (xs : List Str) : D := .lst (xs.map .str)
theorem pick_eq {p : Int × Int} {xs : List Str} (h0 : xs ≠ []) (h1 : xs.length < 1000) {H : Hh} {l : Nat} (hl : H[l]? = some (PUR p)) : fn_law_pick [.ref l, .d (LS xs)] H = some (.d (.str (pck p xs).1), H.set l (PUR (pck p xs).2)) := by
  have hp : 0 < (xs.length : Int) := by have := List.length_pos_iff.mpr h0; omega
  have d := draw_eq (p := p) hp (by omega) hl
  have lo := drw_lo (p := p) hp
  have hi := drw_hi (p := p) hp
  obtain ⟨i, hi2⟩ := Int.eq_ofNat_of_zero_le lo
  have hi3 : i < xs.length := by omega
  have e : xs[i]? = some (xs[i]'hi3) := List.getElem?_eq_getElem hi3
  simp [fn_law_pick, mkFn, m_law_pick, mRet, mBin, mVar, mCall, mOn, mCons, mNil, orC, fLen, itemsL, LS, d, fIx, orF, fIxS, L2.atI, ixN, hi2, hi3, cut_same, pck]
end K02
set_option Elab.async false
set_option linter.all false
set_option maxRecDepth 100000
set_option maxHeartbeats 1000000
namespace K02
open PySem PySem.Spec PyProof.Rows L2 F2
def one (c : Char) : Str := ⟨#[c.toNat]⟩
/-- the names that there are to draw -/
def POOL : List Str := ("abcdefghijklmnopqrstuvwxyz".toList.map one) ++ (["to", "fork", "none", "error", "abcdefgh"] : List Str) ++ ("bdfhjlnprtvxz".toList.map fun c => (⟨#[c.toNat, c.toNat]⟩ : Str))
/-- so many names drawn -/
def lbl : Nat → List Str → List Str → Int × Int → List Str × (Int × Int)
  | 0, _, found, p => (found, p)
  | n + 1, left, found, p => lbl n (left.eraseIdx (drw p left.length).1.toNat) (found ++ [left.getD (drw p left.length).1.toNat Str.empty]) (drw p left.length).2
def labels (p : Int × Int) (n : Nat) : List Str × (Int × Int) := lbl n POOL [] p
def LA (xs : List Str) : List A := xs.map fun x => .d (.str x)
def body_labels : SI := (mDrop (mMet "list" fAppend (mVar 4) (mCons (mMet "list" fPopAt (mVar 2) (mCons (mCall 2 fn_law_draw (mCons (mVar 0) (mCons (mOn (orC fLen fLenD) (mCons (mVar 2) mNil)) mNil))) mNil)) mNil)))
theorem map_erase {α β : Type} (f : α → β) : ∀ (xs : List α) (i : Nat), (xs.map f).eraseIdx i = (xs.eraseIdx i).map f
  | [], _ => rfl
  | _ :: _, 0 => rfl
  | x :: xs, i + 1 => by
    show f x :: (xs.map f).eraseIdx i = f x :: (xs.eraseIdx i).map f
    rw [map_erase f xs i]
theorem LIMv : (1000 : Nat) < LIM := by unfold LIM; omega
theorem popAt_eq {h : Hh} {c i : Nat} {xs : List A} (hc : h[c]? = some (.lst xs)) (hi : i < xs.length) (hl : xs.length < 1000) : fPopAt (.ref c) [.d (.int i)] h = some (xs[i], h.set c (.lst (xs.eraseIdx i))) := by
  have sq : seqIndex? (i : Int) xs.length = some i := by
    unfold seqIndex?
    rw [if_neg (by omega : ¬ (i : Int) < 0)]
    dsimp only
    rw [if_pos (by rw [Bool.and_eq_true, decide_eq_true_eq, decide_eq_true_eq]; omega)]
    rfl
  unfold fPopAt
  dsimp only
  rw [hc]
  dsimp only
  rw [if_pos ⟨by omega, by omega⟩, sq]
  dsimp only
  rw [List.getElem?_eq_getElem hi]
  rfl
theorem append_eq {h : Hh} {c : Nat} {xs : List A} {y : A} (hc : h[c]? = some (.lst xs)) (hl : xs.length < 1000) : fAppend (.ref c) [y] h = some (.d .non, h.set c (.lst (xs ++ [y]))) := by
  unfold fAppend
  dsimp only
  rw [hc]
  dsimp only
  rw [if_pos (Nat.lt_trans hl LIMv)]
theorem isT_list {h : Hh} {c : Nat} {xs : List A} (hc : h[c]? = some (.lst xs)) : isT "list" (.ref c) h = true := by simp [isT, itemsL, hc]
theorem len_eq {h : Hh} {c : Nat} {xs : List A} (hc : h[c]? = some (.lst xs)) : orC fLen fLenD [.ref c] h = some (.d (.int xs.length), h) := by simp [orC, fLen, itemsL, hc]
theorem LA_len (xs : List Str) : (LA xs).length = xs.length := by simp [LA]
theorem LA_snoc (xs : List Str) (y : Str) : LA xs ++ [.d (.str y)] = LA (xs ++ [y]) := by simp [LA]
/-- one turn -/
theorem turn_labels {p : Int × Int} {left found : List Str} (hne : left ≠ []) (hlen : left.length < 1000) (hf : found.length < 1000) {H : Hh} {l cl cf : Nat} {x1 x3 x5 : Option A}
    (hl : H[l]? = some (PUR p)) (hcl : H[cl]? = some (.lst (LA left))) (hcf : H[cf]? = some (.lst (LA found))) (n1 : l ≠ cl) (n2 : l ≠ cf) (n3 : cl ≠ cf) :
    body_labels [some (.ref l), x1, some (.ref cl), x3, some (.ref cf), x5] H =
      some (.nx [some (.ref l), x1, some (.ref cl), x3, some (.ref cf), x5] (((H.set l (PUR (drw p left.length).2)).set cl (.lst (LA (left.eraseIdx (drw p left.length).1.toNat)))).set cf (.lst (LA (found ++ [left.getD (drw p left.length).1.toNat Str.empty]))))) := by
  have hp : 0 < (left.length : Int) := by have := List.length_pos_iff.mpr hne; omega
  have d := draw_eq (p := p) hp (by omega) hl
  have lo := drw_lo (p := p) hp
  have hi := drw_hi (p := p) hp
  obtain ⟨i, hi2⟩ := Int.eq_ofNat_of_zero_le lo
  have hi3 : i < left.length := by omega
  have hi4 : i < (LA left).length := by rw [LA_len]; exact hi3
  have g1 : (H.set l (PUR (drw p left.length).2))[cl]? = some (.lst (LA left)) := by rw [List.getElem?_set_ne n1]; exact hcl
  have g2 : ((H.set l (PUR (drw p left.length).2)).set cl (.lst ((LA left).eraseIdx i)))[cf]? = some (.lst (LA found)) := by rw [List.getElem?_set_ne n3, List.getElem?_set_ne n2]; exact hcf
  have e1 := popAt_eq g1 hi4 (by rw [LA_len]; exact hlen)
  have e2 := append_eq (y := (LA left)[i]) g2 (by rw [LA_len]; exact hf)
  have er : (LA left).eraseIdx i = LA (left.eraseIdx i) := map_erase _ _ _
  have eg : (LA left)[i] = .d (.str (left.getD i Str.empty)) := by simp [LA, hi3]
  rw [eg, LA_snoc] at e2
  rw [eg] at e1
  rw [er] at e1 e2
  have t1 := isT_list hcf
  have t2 := isT_list hcl
  have ll := len_eq hcl
  rw [LA_len] at ll
  rw [hi2] at d
  simp only [body_labels, mDrop, mMet, mVar, mCons, mNil, mCall, mOn, List.getElem?_cons_succ, List.getElem?_cons_zero, t1, t2, ll, if_true, List.length_cons, List.length_nil, d, hi2, Int.toNat_natCast, e1, e2, Nat.reduceAdd, Int.ofNat_eq_natCast]
end K02
set_option Elab.async false
set_option linter.all false
set_option maxRecDepth 100000
set_option maxHeartbeats 1000000
namespace K02
open PySem PySem.Spec PyProof.Rows L2 F2
/-! cells of data alone -/
def isD : A → Bool
  | .d _ => true
  | _ => false
def dO : O → Bool
  | .lst xs => xs.all isD
  | .dK kvs => kvs.all fun p => isD p.2
  | .dead => true
  | _ => false
def DH (H : Hh) : Prop := H.all dO = true
theorem low_d {n : Nat} : ∀ {xs : List A}, xs.all isD = true → lows n xs = true
  | [], _ => rfl
  | x :: xs, h => by
    rw [List.all_cons, Bool.and_eq_true] at h
    obtain ⟨h1, h2⟩ := h
    cases x with
    | d y => simp [lows, low, low_d h2]
    | ref _ => cases h1
    | tp _ => cases h1
theorem lowO_d {n : Nat} {o : O} (h : dO o = true) : lowO n o = true := by
  cases o with
  | lst xs => exact low_d h
  | dK kvs =>
    have h' : (kvs.all fun p => isD p.2) = true := h
    refine List.all_eq_true.mpr fun p hp => ?_
    have z := List.all_eq_true.mp h' p hp
    cases e : p.2 with
    | d y => simp [low]
    | ref _ => rw [e] at z; cases z
    | tp _ => rw [e] at z; cases z
  | dead => rfl
  | _ => cases h
theorem DH.low {H : Hh} (h : DH H) {n : Nat} : H.all (lowO n) = true := List.all_eq_true.mpr fun o ho => lowO_d (List.all_eq_true.mp h o ho)
theorem DH.set {H : Hh} (h : DH H) {l : Nat} {o : O} (ho : dO o = true) : DH (H.set l o) := List.all_eq_true.mpr fun u hu => by
  rcases List.mem_or_eq_of_mem_set hu with z | z
  · exact List.all_eq_true.mp h u z
  · rw [z]; exact ho
theorem DH.app {H G : Hh} (h : DH H) (g : DH G) : DH (H ++ G) := by
  unfold DH
  rw [List.all_append, h, g]; rfl
theorem dO_pur {p : Int × Int} : dO (PUR p) = true := rfl
theorem dO_LA {xs : List Str} : dO (.lst (LA xs)) = true := by simp [dO, LA, isD]
theorem allD_LA : ∀ xs : List Str, allD (LA xs) = some (xs.map .str)
  | [] => rfl
  | x :: xs => by
    show (match A.d (.str x) with | .d y => (allD (LA xs)).map (y :: ·) | _ => none) = _
    rw [allD_LA xs]; rfl
/-- a list of texts given away, the callers' cells data -/
theorem cutF_LA {n c : Nat} {h G : Hh} {xs : List Str} (hn : n ≤ c) (hc : h[c]? = some (.lst (LA xs))) (ht : h.take n = G) (hd : DH G) : cutF n (.ref c) h = (.d (LS xs), G) := by
  unfold cutF
  dsimp only
  rw [ht, if_pos ⟨hn, hd.low⟩, hc]
  dsimp only
  rw [allD_LA]
  rfl
/-! the loop of labels -/
theorem lbl_len (n : Nat) : ∀ (left found : List Str) (p : Int × Int), (lbl n left found p).1.length = found.length + n := by
  induction n with
  | zero => intro left found p; rfl
  | succ n ih => intro left found p; unfold lbl; rw [ih, List.length_append]; simp; omega
theorem loop_labels {N : Nat} {l cl cf : Nat} {x1 x3 : Option A} (n1 : l ≠ cl) (n2 : l ≠ cf) (n3 : cl ≠ cf) : ∀ (m i : Nat) (left found : List Str) (p : Int × Int) (H : Hh) (x5 : Option A), i + m = N → m ≤ left.length → left.length < 1000 → found.length + m < 1000 →
    H[l]? = some (PUR p) → H[cl]? = some (.lst (LA left)) → H[cf]? = some (.lst (LA found)) →
    ∃ x5' H', forGo ⟨rngN 0 N, N⟩ (mTurn (gN 5) body_labels) m i [some (.ref l), x1, some (.ref cl), x3, some (.ref cf), x5] H = some (.nx [some (.ref l), x1, some (.ref cl), x3, some (.ref cf), x5'] H') ∧
      H'[l]? = some (PUR (lbl m left found p).2) ∧ H'[cf]? = some (.lst (LA (lbl m left found p).1)) ∧ ∀ j, j ≠ l → j ≠ cl → j ≠ cf → H'[j]? = H[j]? := by
  intro m
  induction m with
  | zero =>
    intro i left found p H x5 hi hm h1 h2 hl hcl hcf
    refine ⟨x5, H, ?_, hl, hcf, fun j _ _ _ => rfl⟩
    unfold forGo
    have e : rngN 0 N i H = some none := by
      unfold rngN
      rw [if_neg (by omega)]
    dsimp only
    rw [e]
  | succ m ih =>
    intro i left found p H x5 hi hm h1 h2 hl hcl hcf
    have hne : left ≠ [] := fun z => by rw [z] at hm; simp at hm
    have hp : 0 < (left.length : Int) := by have := List.length_pos_iff.mpr hne; omega
    have lo := drw_lo (p := p) hp
    have hi' := drw_hi (p := p) hp
    have t := turn_labels (x1 := x1) (x3 := x3) (x5 := some (.d (.int (0 + i)))) hne h1 (by omega) hl hcl hcf n1 n2 n3
    have e : rngN 0 N i H = some (some (.d (.int (0 + i)))) := by
      unfold rngN
      rw [if_pos (by omega)]
    have lt : ∀ {j : Nat} {o : O}, H[j]? = some o → j < H.length := fun q => (List.getElem?_eq_some_iff.mp q).1
    have hlen : (left.eraseIdx (drw p left.length).1.toNat).length = left.length - 1 := List.length_eraseIdx_of_lt (by omega)
    obtain ⟨x5', H', e1, e2, e3, e4⟩ := ih (i + 1) (left.eraseIdx (drw p left.length).1.toNat) (found ++ [left.getD (drw p left.length).1.toNat Str.empty]) (drw p left.length).2
      (((H.set l (PUR (drw p left.length).2)).set cl (.lst (LA (left.eraseIdx (drw p left.length).1.toNat)))).set cf (.lst (LA (found ++ [left.getD (drw p left.length).1.toNat Str.empty])))) (some (.d (.int (0 + i)))) (by omega) (by omega) (by omega) (by rw [List.length_append]; simp; omega)
      (by rw [List.getElem?_set_ne (Ne.symm n2), List.getElem?_set_ne (Ne.symm n1), List.getElem?_set_self (lt hl)])
      (by rw [List.getElem?_set_ne (Ne.symm n3), List.getElem?_set_self (by rw [List.length_set]; exact lt hcl)])
      (by rw [List.getElem?_set_self (by rw [List.length_set, List.length_set]; exact lt hcf)])
    refine ⟨x5', H', ?_, e2, e3, fun j j1 j2 j3 => ?_⟩
    · unfold forGo
      dsimp only
      rw [e]
      dsimp only
      have tt : mTurn (gN 5) body_labels (.d (.int (0 + (i : Int)))) [some (.ref l), x1, some (.ref cl), x3, some (.ref cf), x5] H = _ := t
      rw [tt]
      exact e1
    · rw [e4 j j1 j2 j3, List.getElem?_set_ne (Ne.symm j3), List.getElem?_set_ne (Ne.symm j2), List.getElem?_set_ne (Ne.symm j1)]
end K02
set_option Elab.async false
set_option linter.all false
set_option maxRecDepth 100000
set_option maxHeartbeats 1000000
namespace K02
open PySem PySem.Spec PyProof.Rows L2 F2
def LET : List Str := "abcdefghijklmnopqrstuvwxyz".toList.map one
def POOL1 : List Str := LET ++ (["to", "fork", "none", "error", "abcdefgh"] : List Str)
def e_let : EI := (mLc false (srcS (mC (.str "abcdefghijklmnopqrstuvwxyz"))) (gN 3) mYes (mVar 3) [3])
def e_two : EI := (mLc false (srcS (mC (.str "bdfhjlnprtvxz"))) (gN 3) mYes (mBin (orF fMulI (orF fMulS (fMulL false))) (mVar 3) (mC (.int 2))) [3])
def TWO : List Str := "bdfhjlnprtvxz".toList.map fun c => (⟨#[c.toNat, c.toNat]⟩ : Str)
theorem let_eq (a b c e f : Option A) (H : Hh) : e_let [a, b, c, none, e, f] H = some (.d (LS LET), H) := by
  kernel_rfl
theorem two_eq (a b c e f : Option A) (H : Hh) : e_two [a, b, c, none, e, f] H = some (.d (LS TWO), H) := by
  kernel_rfl
theorem pool_len : POOL.length = 44 := by kernel_rfl
/-- how a def's body ends -/
def finF (n : Nat) : Option Out → Option (A × Hh)
  | some (.nx _ h') => some (cutF n (.d .non) h')
  | some (.rt a h') => some (cutF n a h')
  | _ => none
theorem mkFnF_eq {np ns : Nat} {m : SI} {as : List A} {h : Hh} (e : as.length = np) : mkFnF np ns m as h = finF h.length (m (as.map some ++ List.replicate (ns - np) none) h) := by
  unfold mkFnF
  rw [if_pos e]
  generalize m (as.map some ++ List.replicate (ns - np) none) h = o
  cases o with
  | none => rfl
  | some o => cases o <;> rfl
theorem seq_nx {m n : SI} {ρ ρ1 : En} {h h1 : Hh} (e : m ρ h = some (.nx ρ1 h1)) : mSeq m n ρ h = n ρ1 h1 := by
  unfold mSeq
  rw [e]
theorem asg_N {m : EI} {i : Nat} {ρ : En} {h h1 : Hh} {a : A} (e : m ρ h = some (a, h1)) : mAsg m (gN i) ρ h = some (.nx (ρ.set i (some a)) h1) := by
  unfold mAsg
  rw [e]
  rfl
theorem bin_of {f : A → A → Hh → Option (A × Hh)} {m n : EI} {ρ : En} {h h1 h2 : Hh} {x y : A} (e1 : m ρ h = some (x, h1)) (e2 : n ρ h1 = some (y, h2)) : mBin f m n ρ h = f x y h2 := by
  unfold mBin
  rw [e1]
  dsimp only
  rw [e2]
def FIVE : List Str := ["to", "fork", "none", "error", "abcdefgh"]
def e_five : EI := (mOn (mkL false) (mCons (mC (.str "to")) (mCons (mC (.str "fork")) (mCons (mC (.str "none")) (mCons (mC (.str "error")) (mCons (mC (.str "abcdefgh")) mNil))))))
theorem five_eq (ρ : En) (H : Hh) : e_five ρ H = some (.d (LS FIVE), H) := by kernel_rfl
theorem add1_eq (H : Hh) : fAdd true (.d (LS LET)) (.d (LS FIVE)) H = some (.ref H.length, H ++ [.lst (LA POOL1)]) := by kernel_rfl
theorem add2_eq {H : Hh} {c : Nat} (hc : H[c]? = some (.lst (LA POOL1))) : fAdd true (.ref c) (.d (LS TWO)) H = some (.ref H.length, H ++ [.lst (LA POOL)]) := by
  have e : fAdd true (.ref c) (.d (LS TWO)) H = fLst true (.ref c) (.d (LS TWO)) H := rfl
  rw [e]
  unfold fLst
  have e1 : itemsL (.ref c) H = some (LA POOL1) := by simp [itemsL, hc]
  rw [e1]
  have e2 : itemsL (.d (LS TWO)) H = some (LA TWO) := by kernel_rfl
  dsimp only
  rw [e2]
  kernel_rfl
theorem nil_cell' (h : Hh) : mkL true [] h = some (.ref h.length, h ++ [.lst []]) := by
  unfold mkL
  split
  · split
    · rfl
    · rename_i z; exact absurd rfl z
  · rename_i z; exact absurd (Nat.zero_le _) z
theorem nil_cell (ρ : En) (h : Hh) : mOn (mkL true) mNil ρ h = some (.ref h.length, h ++ [.lst []]) := by
  exact nil_cell' h
theorem range_n {n : Nat} (hn : n < 1000) {m : AI} {ρ : En} {h h1 : Hh} (e : m ρ h = some ([.d (.int n)], h1)) : srcR1 m ρ h = some (⟨rngN 0 n, n⟩, h1) := by
  unfold srcR1
  rw [e]
  dsimp only
  rw [if_pos ⟨by omega, by omega⟩, Int.toNat_natCast]
theorem for_range {n : Nat} (hn : n < 1000) {m : AI} {g : GI} {b : SI} {ρ : En} {h h1 : Hh} {o : Option Out} (e : m ρ h = some ([.d (.int n)], h1)) (f : forGo ⟨rngN 0 n, n⟩ (mTurn g b) n 0 ρ h1 = o) : mFor (srcR1 m) g b ρ h = o := by
  have z := range_n hn e
  unfold mFor
  rw [z]
  exact f
theorem labels_eq {p : Int × Int} {n : Nat} (hn : n ≤ 44) {H : Hh} {l : Nat} (hl : H[l]? = some (PUR p)) (hd : DH H) : fn_law_labels [.ref l, .d (.int n)] H = some (.d (LS (labels p n).1), H.set l (PUR (labels p n).2)) := by
  have hlt : l < H.length := (List.getElem?_eq_some_iff.mp hl).1
  have lab1 : lbl n POOL [] p = labels p n := by unfold labels; rfl
  have lab2 : (lbl n POOL [] p).2 = (labels p n).2 := by rw [lab1]
  let H1 : Hh := H ++ [.lst (LA POOL1), .lst (LA POOL), .lst (LA [])]
  have q0 : H1[l]? = some (PUR p) := by rw [List.getElem?_append_left hlt]; exact hl
  have q1 : H1[H.length + 1]? = some (.lst (LA POOL)) := by rw [List.getElem?_append_right (by omega)]; simp
  have q2 : H1[H.length + 2]? = some (.lst (LA [])) := by rw [List.getElem?_append_right (by omega)]; simp
  obtain ⟨x5', H', e1, e2, e3, e4⟩ := loop_labels (N := n) (l := l) (cl := H.length + 1) (cf := H.length + 2) (x1 := some (.d (.int n))) (x3 := none) (by omega) (by omega) (by omega) n 0 POOL [] p H1 none (by omega) (by rw [pool_len]; omega) (by rw [pool_len]; omega) (by simp; omega) q0 q1 q2
  have body : m_law_labels [some (.ref l), some (.d (.int n)), none, none, none, none] H = some (.rt (.ref (H.length + 2)) H') := by
    have d1 : m_law_labels = mSeq (mAsg (mBin (fAdd true) e_let e_five) (gN 2)) (mSeq (mAsg (mBin (fAdd true) (mVar 2) e_two) (gN 2)) (mSeq (mAsg (mOn (mkL true) mNil) (gN 4)) (mSeq (mFor (srcR1 (mCons (mVar 1) mNil)) (gN 5) body_labels) (mRet (mVar 4))))) := rfl
    rw [d1, seq_nx (asg_N ((bin_of (let_eq _ _ _ _ _ H) (five_eq _ H)).trans (add1_eq H)))]
    dsimp only [List.set_cons_succ, List.set_cons_zero]
    have c1 : (H ++ [.lst (LA POOL1)])[H.length]? = some (.lst (LA POOL1)) := by simp
    have v2 : mVar 2 [some (.ref l), some (.d (.int n)), some (.ref H.length), none, none, none] (H ++ [.lst (LA POOL1)]) = some (.ref H.length, H ++ [.lst (LA POOL1)]) := rfl
    rw [seq_nx (asg_N ((bin_of v2 (two_eq _ _ _ _ _ _)).trans (add2_eq c1)))]
    dsimp only [List.set_cons_succ, List.set_cons_zero]
    have l2 : (H ++ [O.lst (LA POOL1)]).length = H.length + 1 := by simp
    have s3 : mAsg (mOn (mkL true) mNil) (gN 4) [some (.ref l), some (.d (.int n)), some (.ref (H ++ [O.lst (LA POOL1)]).length), none, none, none] (H ++ [O.lst (LA POOL1)] ++ [O.lst (LA POOL)]) = some (.nx [some (.ref l), some (.d (.int n)), some (.ref (H.length + 1)), none, some (.ref (H.length + 2)), none] H1) := by
      have l3 : (H ++ [O.lst (LA POOL1)] ++ [O.lst (LA POOL)]).length = H.length + 2 := by simp
      have z := nil_cell [some (.ref l), some (.d (.int n)), some (.ref (H ++ [O.lst (LA POOL1)]).length), none, none, none] (H ++ [O.lst (LA POOL1)] ++ [O.lst (LA POOL)])
      rw [asg_N z, l2, l3]
      have hh : H ++ [O.lst (LA POOL1)] ++ [O.lst (LA POOL)] ++ [.lst []] = H1 := by simp [H1, LA]
      rw [hh]
      rfl
    rw [seq_nx s3]
    have s4 : mFor (srcR1 (mCons (mVar 1) mNil)) (gN 5) body_labels [some (.ref l), some (.d (.int n)), some (.ref (H.length + 1)), none, some (.ref (H.length + 2)), none] H1 = some (.nx [some (.ref l), some (.d (.int n)), some (.ref (H.length + 1)), none, some (.ref (H.length + 2)), x5'] H') := by
      refine for_range (by omega) ?_ e1
      rfl
    rw [seq_nx s4]
    rfl
  have tk : H'.take H.length = H.set l (PUR (labels p n).2) := by
    apply List.ext_getElem?
    intro j
    by_cases hj : j < H.length
    · rw [List.getElem?_take_of_lt hj]
      by_cases jl : j = l
      · subst jl
        rw [e2, List.getElem?_set_self hlt, lab2]
      · rw [e4 j jl (by omega) (by omega), List.getElem?_set_ne (Ne.symm jl), List.getElem?_append_left hj]
    · rw [List.getElem?_eq_none (by simp; omega), List.getElem?_eq_none (by simp; omega)]
  rw [lab1] at e3
  have dd : DH (H.set l (PUR (labels p n).2)) := hd.set dO_pur
  have c := cutF_LA (n := H.length) (c := H.length + 2) (xs := (labels p n).1) (by omega) e3 tk dd
  have z : fn_law_labels [.ref l, .d (.int n)] H = finF H.length (m_law_labels [some (.ref l), some (.d (.int n)), none, none, none, none] H) := mkFnF_eq rfl
  rw [z, body]
  show some (cutF H.length (.ref (H.length + 2)) H') = _
  rw [c]
end K02
set_option Elab.async false
set_option linter.all false
set_option maxRecDepth 100000
set_option maxHeartbeats 1000000
namespace K02
open PySem PySem.Spec PyProof.Rows L2 F2
/-! ### walks over what stands still -/
theorem for_go {items : List A} {s : Src} {turn : A → En → Hh → Option Out} (hs : ∀ i h, s.nxt i h = some items[i]?) {I : Nat → En → Hh → Prop}
    (step : ∀ (i : Nat) (ρ : En) (H : Hh) (hi : i < items.length), I i ρ H → ∃ ρ' H', turn items[i] ρ H = some (.nx ρ' H') ∧ I (i + 1) ρ' H') :
    ∀ (m i : Nat) (ρ : En) (H : Hh), i + m = items.length → I i ρ H → ∃ ρ' H', forGo s turn m i ρ H = some (.nx ρ' H') ∧ I items.length ρ' H' := by
  intro m
  induction m with
  | zero =>
    intro i ρ H hi h
    refine ⟨ρ, H, ?_, ?_⟩
    · unfold forGo
      rw [hs, List.getElem?_eq_none (by omega)]
    · have e : i = items.length := by omega
      rw [← e]; exact h
  | succ m ih =>
    intro i ρ H hi h
    have hlt : i < items.length := by omega
    obtain ⟨ρ1, H1, e1, h1⟩ := step i ρ H hlt h
    obtain ⟨ρ2, H2, e2, h2⟩ := ih (i + 1) ρ1 H1 (by omega) h1
    refine ⟨ρ2, H2, ?_, h2⟩
    unfold forGo
    rw [hs, List.getElem?_eq_getElem hlt]
    dsimp only
    rw [e1]
    exact e2
theorem for_items {items : List A} {s : Src} {it : SrcI} {g : GI} {b : SI} (hs : ∀ i h, s.nxt i h = some items[i]?) (hf : s.fuel = items.length) {I : Nat → En → Hh → Prop} {ρ : En} {H H1 : Hh} (hit : it ρ H = some (s, H1))
    (step : ∀ (i : Nat) (ρ : En) (H : Hh) (hi : i < items.length), I i ρ H → ∃ ρ' H', mTurn g b items[i] ρ H = some (.nx ρ' H') ∧ I (i + 1) ρ' H') (h0 : I 0 ρ H1) : ∃ ρ' H', mFor it g b ρ H = some (.nx ρ' H') ∧ I items.length ρ' H' := by
  unfold mFor
  rw [hit]
  dsimp only
  rw [hf]
  exact for_go hs step items.length 0 ρ H1 (by omega) h0
theorem items_map (ds : List D) (h : Hh) : ∀ i, (listN (.d (.lst ds)) i h) = some ((ds.map A.d)[i]?) := fun i => rfl
/-- a comprehension whose parts do nothing to the cells but what I says -/
theorem lc_go {items : List A} {s : Src} {g : GI} {t : TI'} {m : EI} {ρ : En} (hs : ∀ i h, s.nxt i h = some items[i]?) {I : Nat → List A → Hh → Prop}
    (step : ∀ (i : Nat) (acc : List A) (H : Hh) (hi : i < items.length), I i acc H → ∃ ρ1 H1 k H2, g items[i] ρ H = some (ρ1, H1) ∧ t ρ1 H1 = some (k, H2) ∧ (k = false → I (i + 1) acc H2) ∧ (k = true → ∃ a H3, m ρ1 H2 = some (a, H3) ∧ I (i + 1) (acc ++ [a]) H3 ∧ acc.length < 1000)) :
    ∀ (n i : Nat) (acc : List A) (H : Hh), i + n = items.length → I i acc H → ∃ acc' H', lcGo s g t m ρ n i acc H = some (acc', H') ∧ I items.length acc' H' := by
  intro n
  induction n with
  | zero =>
    intro i acc H hi h
    refine ⟨acc, H, ?_, ?_⟩
    · unfold lcGo
      rw [hs, List.getElem?_eq_none (by omega)]
    · have e : i = items.length := by omega
      rw [← e]; exact h
  | succ n ih =>
    intro i acc H hi h
    have hlt : i < items.length := by omega
    obtain ⟨ρ1, H1, k, H2, e1, e2, hf, ht⟩ := step i acc H hlt h
    cases k with
    | false =>
      obtain ⟨a2, H3, e3, h3⟩ := ih (i + 1) acc H2 (by omega) (hf rfl)
      refine ⟨a2, H3, ?_, h3⟩
      unfold lcGo
      rw [hs, List.getElem?_eq_getElem hlt]
      dsimp only
      rw [e1]
      dsimp only
      rw [e2]
      exact e3
    | true =>
      obtain ⟨a, H3, e3, h3, hz⟩ := ht rfl
      obtain ⟨a2, H4, e4, h4⟩ := ih (i + 1) (acc ++ [a]) H3 (by omega) h3
      refine ⟨a2, H4, ?_, h4⟩
      unfold lcGo
      rw [hs, List.getElem?_eq_getElem hlt]
      dsimp only
      rw [e1]
      dsimp only
      rw [e2]
      dsimp only
      rw [e3]
      dsimp only
      rw [if_pos (Nat.lt_trans hz LIMv)]
      exact e4
theorem lc_items {items : List A} {s : Src} {it : SrcI} {g : GI} {t : TI'} {m : EI} {vs : List Nat} {ρ : En} {H H1 : Hh} (hs : ∀ i h, s.nxt i h = some items[i]?) (hf : s.fuel = items.length) (hit : it ρ H = some (s, H1)) {I : Nat → List A → Hh → Prop}
    (step : ∀ (i : Nat) (acc : List A) (H : Hh) (hi : i < items.length), I i acc H → ∃ ρ1 H1 k H2, g items[i] (wipeE ρ vs) H = some (ρ1, H1) ∧ t ρ1 H1 = some (k, H2) ∧ (k = false → I (i + 1) acc H2) ∧ (k = true → ∃ a H3, m ρ1 H2 = some (a, H3) ∧ I (i + 1) (acc ++ [a]) H3 ∧ acc.length < 1000))
    (h0 : I 0 [] H1) : ∃ acc' H', I items.length acc' H' ∧ ∀ cell, mLc cell it g t m vs ρ H = mkL cell acc' H' := by
  obtain ⟨acc', H', e, h⟩ := lc_go (ρ := wipeE ρ vs) hs step items.length 0 [] H1 (by omega) h0
  refine ⟨acc', H', h, fun cell => ?_⟩
  unfold mLc
  rw [hit]
  dsimp only
  rw [hf, e]
/-! ### the law from what right does -/
def body_seed : SI := (mAsg (mBin fMod (mOn fInt (mCons (mBin (fAdd false) (mBin (fAdd false) (mBin (orF fMulI (orF fMulS (fMulL false))) (mVar 3) (mC (.int 40692))) (mBin fMod (mOn fInt (mCons (mVar 4) mNil)) (mC (.int 2147483647)))) (mC (.int 101))) mNil)) (mC (.int 2147483647))) (gN 3))
theorem turn_seed (x0 x1 x2 x4 : Option A) (s v : Int) (H : Hh) : mTurn (gN 4) body_seed (.d (.int v)) [x0, x1, x2, some (.d (.int s)), x4] H = some (.nx [x0, x1, x2, some (.d (.int ((s * 40692 + v % 2147483647 + 101) % 2147483647))), some (.d (.int v))] H) := by
  simp [mTurn, gN, body_seed, mAsg, mBin, mOn, mCons, mNil, mVar, mC, fInt, orF, fMulI, int2, smallI, fAdd, fAddI, fMod]
end K02
set_option Elab.async false
set_option linter.all false
set_option maxRecDepth 100000
set_option maxHeartbeats 1000000
namespace K02
open PySem PySem.Spec PyProof.Rows L2 F2
theorem cons_of {m : EI} {r : AI} {ρ : En} {h h1 h2 : Hh} {x : A} {xs : List A} (e1 : m ρ h = some (x, h1)) (e2 : r ρ h1 = some (xs, h2)) : mCons m r ρ h = some (x :: xs, h2) := by
  unfold mCons
  rw [e1]
  dsimp only
  rw [e2]
theorem on_of {F : List A → Hh → Option (A × Hh)} {r : AI} {ρ : En} {h h1 : Hh} {xs : List A} (e : r ρ h = some (xs, h1)) : mOn F r ρ h = F xs h1 := by
  unfold mOn
  rw [e]
/-- how a def's body ends that makes nothing data -/
def finP (n : Nat) : Option Out → Option (A × Hh)
  | some (.nx _ h') => some (cut n (.d .non) h')
  | some (.rt a h') => some (cut n a h')
  | _ => none
theorem mkFn_eq {np ns : Nat} {m : SI} {as : List A} {h : Hh} (e : as.length = np) : mkFn np ns m as h = finP h.length (m (as.map some ++ List.replicate (ns - np) none) h) := by
  unfold mkFn
  rw [if_pos e]
  generalize m (as.map some ++ List.replicate (ns - np) none) h = o
  cases o with
  | none => rfl
  | some o => cases o <;> rfl
theorem cut_new {n l : Nat} {h : Hh} (e : n ≤ l) : cut n (.ref l) h = (.ref l, h) := by
  unfold cut
  have z : low n (.ref l) = false := by simp [low]; omega
  rw [z]
  rfl
theorem allD_map : ∀ xs : List D, allD (xs.map A.d) = some xs
  | [] => rfl
  | x :: xs => by
    show (allD (xs.map A.d)).map (x :: ·) = _
    rw [allD_map xs]; rfl
theorem mkL_data {xs : List D} {h : Hh} (hz : xs.length < 1000) : mkL false (xs.map A.d) h = some (.d (.lst xs), h) := by
  have lv := LIMv
  unfold mkL
  split
  · split
    · rename_i z; cases z
    · rw [allD_map]; rfl
  · rename_i z
    exact absurd (by rw [List.length_map]; omega) z
theorem mkL_cell {xs : List A} {h : Hh} (hz : xs.length < 1000) : mkL true xs h = some (.ref h.length, h ++ [.lst xs]) := by
  have lv := LIMv
  unfold mkL
  split
  · split
    · rfl
    · rename_i z; exact absurd rfl z
  · rename_i z
    exact absurd (by omega) z
theorem addL_data {xs ys : List D} {h : Hh} (hz : xs.length + ys.length < 1000) : fAdd false (.d (.lst xs)) (.d (.lst ys)) h = some (.d (.lst (xs ++ ys)), h) := by
  have lv := LIMv
  have e : fAdd false (.d (.lst xs)) (.d (.lst ys)) h = fLst false (.d (.lst xs)) (.d (.lst ys)) h := rfl
  rw [e]
  unfold fLst
  have e1 : itemsL (.d (.lst xs)) h = some (xs.map A.d) := rfl
  have e2 : itemsL (.d (.lst ys)) h = some (ys.map A.d) := rfl
  rw [e1, e2]
  dsimp only
  split
  · rw [← List.map_append]
    exact mkL_data (by rw [List.length_append]; exact hz)
  · rename_i z
    exact absurd (by rw [List.length_map, List.length_map]; omega) z
theorem cutA_le {α : Type} (xs : List α) (lo hi : Option Int) : (cutA xs lo hi).length ≤ xs.length := by
  unfold cutA
  rw [List.length_take, List.length_drop]
  omega
theorem srcQ_data {m : EI} {ρ : En} {h h1 : Hh} {xs : List D} (e : m ρ h = some (.d (.lst xs), h1)) : srcQ m ρ h = some (⟨listN (.d (.lst xs)), xs.length⟩, h1) := by
  unfold srcQ srcL
  rw [e]
  have e1 : itemsL (.d (.lst xs)) h1 = some (xs.map A.d) := rfl
  dsimp only
  rw [e1]
  dsimp only
  rw [List.length_map]
theorem nil_data (ρ : En) (h : Hh) : mOn (mkL false) mNil ρ h = some (.d (.lst []), h) := mkL_data (xs := []) (by simp)
def e_cell : EI := (mIf (mBl (mBin fLt (mVar 1) (mOn (orC fLen fLenD) (mCons (mVar 0) mNil)))) (mBin fIx (mVar 0) (mVar 1)) (mBin (orF fMulI (orF fMulS (fMulL false))) (mC (.int 6373)) (mBin (fAdd false) (mVar 1) (mC (.int 5)))))
theorem cell_ok {ns : List Int} {spot : Nat} (hs : spot < 100) (x2 x3 x4 : Option A) (H : Hh) : ∃ c : Int, e_cell [some (.d (.scr ns)), some (.d (.int spot)), x2, x3, x4] H = some (.d (.int c), H) := by
  by_cases h : spot < ns.length
  · refine ⟨ns[spot], ?_⟩
    have hh : (spot : Int) < (ns.length : Int) := by omega
    simp [e_cell, mIf, mBl, mBin, mVar, mOn, mCons, mNil, orC, fLen, itemsL, fLt, int2, hh, fIx, orF, fIxS, L2.atI, ixN, h]
  · refine ⟨6373 * ((spot : Int) + 5), ?_⟩
    have hh : ¬ (spot : Int) < (ns.length : Int) := by omega
    simp [e_cell, mIf, mBl, mBin, mVar, mOn, mCons, mNil, orC, fLen, itemsL, fLt, int2, hh, h, orF, fMulI, smallI, fAdd, fAddI, mC]
def e_five2 : EI := (mBin (fAdd false) (mSlc false (mVar 0) none (some (mC (.int 5)))) (mOn (mkL false) (mCons (mVar 2) mNil)))
theorem five2_ok {ns : List Int} (hz : ns.length < 500) {c : Int} (x1 x3 x4 : Option A) (H : Hh) : ∃ zs : List Int, e_five2 [some (.d (.scr ns)), x1, some (.d (.int c)), x3, x4] H = some (.d (.lst (zs.map D.int)), H) := by
  refine ⟨cutA ns none (some 5) ++ [c], ?_⟩
  have hl := cutA_le ns none (some 5)
  have e1 : mSlc false (mVar 0) none (some (mC (.int 5))) [some (.d (.scr ns)), x1, some (.d (.int c)), x3, x4] H = some (.d (.lst ((cutA ns none (some 5)).map D.int)), H) := by
    have z := mkL_data (xs := (cutA ns none (some 5)).map D.int) (h := H) (by rw [List.length_map]; omega)
    rw [List.map_map] at z
    exact z
  have e2 : mOn (mkL false) (mCons (mVar 2) mNil) [some (.d (.scr ns)), x1, some (.d (.int c)), x3, x4] H = some (.d (.lst [.int c]), H) := mkL_data (xs := [.int c]) (by simp)
  rw [show e_five2 = mBin (fAdd false) (mSlc false (mVar 0) none (some (mC (.int 5)))) (mOn (mkL false) (mCons (mVar 2) mNil)) from rfl, bin_of e1 e2, addL_data (by rw [List.length_map]; simp; omega), List.map_append]
  rfl
def e_purse : EI := (mOn (mkL true) (mCons (mIf (mBl (mBin fGe (mOn fAbs (mCons (mVar 2) mNil)) (mBin fPow (mC (.int 10)) (mC (.int 18))))) (mOn fAbs (mCons (mVar 2) mNil)) (mC (.int 0))) (mCons (mVar 3) mNil)))
theorem pow_ok (ρ : En) (H : Hh) : mBin fPow (mC (.int 10)) (mC (.int 18)) ρ H = some (.d (.int 1000000000000000000), H) := by kernel_rfl
theorem epurse_ok {c s : Int} (x0 x1 x4 : Option A) (H : Hh) : ∃ p, e_purse [x0, x1, some (.d (.int c)), some (.d (.int s)), x4] H = some (.ref H.length, H ++ [PUR p]) := by
  have a1 : mOn fAbs (mCons (mVar 2) mNil) [x0, x1, some (.d (.int c)), some (.d (.int s)), x4] H = some (.d (.int (if c < 0 then -c else c)), H) := rfl
  have g : mBl (mBin fGe (mOn fAbs (mCons (mVar 2) mNil)) (mBin fPow (mC (.int 10)) (mC (.int 18)))) [x0, x1, some (.d (.int c)), some (.d (.int s)), x4] H = some (decide ((1000000000000000000 : Int) ≤ if c < 0 then -c else c), H) := by
    unfold mBl
    rw [bin_of a1 (pow_ok _ H)]
    rfl
  have i1 : ∃ a, mIf (mBl (mBin fGe (mOn fAbs (mCons (mVar 2) mNil)) (mBin fPow (mC (.int 10)) (mC (.int 18))))) (mOn fAbs (mCons (mVar 2) mNil)) (mC (.int 0)) [x0, x1, some (.d (.int c)), some (.d (.int s)), x4] H = some (.d (.int a), H) := by
    unfold mIf
    rw [g]
    cases decide ((1000000000000000000 : Int) ≤ if c < 0 then -c else c) with
    | true => exact ⟨_, a1⟩
    | false => exact ⟨0, rfl⟩
  obtain ⟨a, i1⟩ := i1
  refine ⟨(a, s), ?_⟩
  have cs := cons_of i1 (cons_of (show mVar 3 [x0, x1, some (.d (.int c)), some (.d (.int s)), x4] H = some (.d (.int s), H) from rfl) (show mNil [x0, x1, some (.d (.int c)), some (.d (.int s)), x4] H = some ([], H) from rfl))
  exact (on_of cs).trans (mkL_cell (by simp))
theorem purse_ok {ns : List Int} (hz : ns.length < 500) {spot : Nat} (hs : spot < 100) (H : Hh) : ∃ p, fn_law_purse [.d (.scr ns), .d (.int spot)] H = some (.ref H.length, H ++ [PUR p]) := by
  obtain ⟨c, e1⟩ := cell_ok (ns := ns) hs none none none H
  have d1 : m_law_purse = mSeq (mAsg e_cell (gN 2)) (mSeq (mAsg (mBin (fAdd false) (mC (.int 941)) (mVar 1)) (gN 3)) (mSeq (mFor (srcQ e_five2) (gN 4) body_seed) (mRet e_purse))) := rfl
  have e2 : mAsg (mBin (fAdd false) (mC (.int 941)) (mVar 1)) (gN 3) [some (.d (.scr ns)), some (.d (.int spot)), some (.d (.int c)), none, none] H = some (.nx [some (.d (.scr ns)), some (.d (.int spot)), some (.d (.int c)), some (.d (.int (941 + spot))), none] H) := rfl
  obtain ⟨zs, e3⟩ := five2_ok hz (c := c) (some (.d (.int spot))) (some (.d (.int (941 + spot)))) none H
  have src := srcQ_data e3
  obtain ⟨ρ', H', e4, s', x4, e5, e6⟩ := for_items (items := (zs.map D.int).map A.d) (g := gN 4) (b := body_seed) (I := fun _ ρ h => ∃ (s : Int) (x4 : Option A), ρ = [some (.d (.scr ns)), some (.d (.int spot)), some (.d (.int c)), some (.d (.int s)), x4] ∧ h = H) (fun i h => items_map _ h i) (by simp) src
    (fun i ρ h hi ⟨s, x4, e5, e6⟩ => by
      subst e5 e6
      have hz : ((zs.map D.int).map A.d)[i] = .d (.int (zs[i]'(by simpa using hi))) := by simp
      rw [hz, turn_seed]
      exact ⟨_, _, rfl, _, _, rfl, rfl⟩) ⟨_, _, rfl, rfl⟩
  subst e5 e6
  obtain ⟨p, e7⟩ := epurse_ok (c := c) (s := s') (some (.d (.scr ns))) (some (.d (.int spot))) x4 H'
  refine ⟨p, ?_⟩
  have r : mRet e_purse [some (.d (.scr ns)), some (.d (.int spot)), some (.d (.int c)), some (.d (.int s')), x4] H' = some (.rt (.ref H'.length) (H' ++ [PUR p])) := by
    unfold mRet
    rw [e7]
  have z : fn_law_purse [.d (.scr ns), .d (.int spot)] H' = finP H'.length (m_law_purse [some (.d (.scr ns)), some (.d (.int spot)), none, none, none] H') := mkFn_eq rfl
  have b : m_law_purse [some (.d (.scr ns)), some (.d (.int spot)), none, none, none] H' = some (.rt (.ref H'.length) (H' ++ [PUR p])) := by
    rw [d1, seq_nx (asg_N e1)]
    exact (seq_nx e2).trans ((seq_nx e4).trans r)
  rw [z, b]
  show some (cut H'.length (.ref H'.length) (H' ++ [PUR p])) = _
  rw [cut_new (Nat.le_refl _)]
end K02
set_option Elab.async false
set_option linter.all false
set_option maxRecDepth 100000
set_option maxHeartbeats 1000000
namespace K02
open PySem PySem.Spec PyProof.Rows L2 F2
def RIGHT : Prop := ∀ (p : Int × Int) (H : Hh) (l : Nat), DH H → H[l]? = some (PUR p) → ∃ p', fn_law_right [.ref l] H = some (.d (.bl true), H.set l (PUR p'))
def rngI (k : Nat) : List A := (List.range k).map fun i => .d (.int (0 + (i : Nat)))
theorem rng_items (k i : Nat) (h : Hh) : rngN 0 k i h = some (rngI k)[i]? := by
  unfold rngN rngI
  by_cases c : i < k
  · rw [if_pos c, List.getElem?_map, List.getElem?_range c]; rfl
  · rw [if_neg c, List.getElem?_eq_none (by simp; omega)]
def e_turn : EI := (mCall 1 fn_law_right (mCons (mCall 2 fn_law_purse (mCons (mVar 0) (mCons (mVar 1) mNil))) mNil))
theorem call_of {n : Nat} {F : FnI} {m : AI} {ρ : En} {h h1 : Hh} {xs : List A} (e : m ρ h = some (xs, h1)) (hl : xs.length = n) : mCall n F m ρ h = F xs h1 := by
  unfold mCall
  rw [on_of e]
  rw [if_pos hl]
theorem turn_ok (R : RIGHT) {ns : List Int} (hz : ns.length < 500) {i : Nat} (hi : i < 100) {H : Hh} (hd : DH H) : ∃ H', e_turn [some (.d (.scr ns)), some (.d (.int (0 + (i : Int))))] H = some (.d (.bl true), H') ∧ DH H' := by
  obtain ⟨p, e1⟩ := purse_ok hz hi H
  have d1 : DH (H ++ [PUR p]) := hd.app rfl
  obtain ⟨p', e2⟩ := R p (H ++ [PUR p]) H.length d1 (by simp)
  refine ⟨(H ++ [PUR p]).set H.length (PUR p'), ?_, d1.set dO_pur⟩
  have z : (0 : Int) + (i : Int) = (i : Int) := by omega
  rw [z]
  have a1 : mCons (mVar 0) (mCons (mVar 1) mNil) [some (.d (.scr ns)), some (.d (.int (i : Int)))] H = some ([.d (.scr ns), .d (.int (i : Int))], H) := rfl
  have a2 := (call_of (n := 2) (F := fn_law_purse) a1 rfl).trans e1
  have a3 := cons_of a2 (show mNil [some (.d (.scr ns)), some (.d (.int (i : Int)))] (H ++ [PUR p]) = some ([], H ++ [PUR p]) from rfl)
  exact (call_of (n := 1) (F := fn_law_right) a3 rfl).trans e2
def e_rng : AI := (mCons (mOn fMax2 (mCons (mC (.int 2)) (mCons (mOn fMin2 (mCons (mOn (orC fLen fLenD) (mCons (mVar 0) mNil)) (mCons (mC (.int 4)) mNil))) mNil))) mNil)
theorem rng_ok (ns : List Int) (x : Option A) (H : Hh) : ∃ k : Nat, k < 100 ∧ e_rng [some (.d (.scr ns)), x] H = some ([.d (.int k)], H) := by
  have e : e_rng [some (.d (.scr ns)), x] H = some ([.d (.int (if (if (4 : Int) < (ns.length : Int) then (4 : Int) else (ns.length : Int)) > 2 then (if (4 : Int) < (ns.length : Int) then (4 : Int) else (ns.length : Int)) else 2))], H) := rfl
  rw [e]
  by_cases c : (4 : Int) < (ns.length : Int)
  · rw [if_pos c]
    exact ⟨4, by omega, rfl⟩
  · rw [if_neg c]
    by_cases c2 : (ns.length : Int) > 2
    · rw [if_pos c2]
      exact ⟨ns.length, by omega, rfl⟩
    · rw [if_neg c2]
      exact ⟨2, by omega, rfl⟩
theorem all_true : ∀ n : Nat, bls (List.replicate n (A.d (.bl true))) = some (List.replicate n true)
  | 0 => rfl
  | n + 1 => by
    rw [List.replicate_succ]
    show (bls (List.replicate n (A.d (.bl true)))).map (true :: ·) = _
    rw [all_true n]; rfl
theorem law_ok (R : RIGHT) (ns : List Int) (hn : ns.length ≤ 63) : ∃ h', fn_law [.d (.scr ns)] [] = some (.d (.bl true), h') := by
  obtain ⟨k, hk, e1⟩ := rng_ok ns none []
  have src : srcR1 e_rng [some (.d (.scr ns)), none] [] = some (⟨rngN 0 k, k⟩, []) := range_n (by omega) e1
  obtain ⟨acc, H', ⟨ea, hd⟩, e2⟩ := lc_items (items := rngI k) (g := gN 1) (t := mYes) (m := e_turn) (vs := [1]) (I := fun i acc H => acc = List.replicate i (A.d (.bl true)) ∧ DH H) (fun i h => rng_items k i h) (by simp [rngI]) src
    (fun i acc H hi ⟨ea, hd⟩ => by
      have hi' : i < k := by simpa [rngI] using hi
      obtain ⟨H', e3, hd'⟩ := turn_ok R (ns := ns) (by omega) (i := i) (by omega) hd
      have gi : (rngI k)[i] = .d (.int (0 + (i : Nat))) := by simp [rngI]
      refine ⟨[some (.d (.scr ns)), some (.d (.int (0 + (i : Int))))], H, true, H, ?_, rfl, (fun z => by cases z), fun _ => ⟨_, H', e3, ⟨?_, hd'⟩, ?_⟩⟩
      · rw [gi]; rfl
      · rw [ea, List.replicate_succ']
      · rw [ea, List.length_replicate]; omega) ⟨rfl, rfl⟩
  have lk : (rngI k).length = k := by simp [rngI]
  rw [lk] at ea
  have l1 : mLc false (srcR1 e_rng) (gN 1) mYes e_turn [1] [some (.d (.scr ns)), none] [] = some (.d (.lst (List.replicate k (D.bl true))), H') := by
    rw [e2 false, ea]
    have z := mkL_data (xs := List.replicate k (D.bl true)) (h := H') (by rw [List.length_replicate]; omega)
    rw [List.map_replicate] at z
    exact z
  have f : fAll [.d (.lst (List.replicate k (D.bl true)))] H' = some (.d (.bl true), H') := by
    have e5 : itemsL (.d (.lst (List.replicate k (D.bl true)))) H' = some (List.replicate k (A.d (.bl true))) := by
      show some ((List.replicate k (D.bl true)).map A.d) = _
      rw [List.map_replicate]
    unfold fAll
    dsimp only
    rw [e5]
    dsimp only
    rw [all_true]
    simp
  have b : m_law [some (.d (.scr ns)), none] [] = some (.rt (.d (.bl true)) H') := by
    have d1 : m_law = mRet (mOn fAll (mCons (mLc false (srcR1 e_rng) (gN 1) mYes e_turn [1]) mNil)) := rfl
    rw [d1]
    unfold mRet
    rw [on_of (cons_of l1 (show mNil [some (.d (.scr ns)), none] H' = some ([], H') from rfl)), f]
  have z : fn_law [.d (.scr ns)] [] = finP 0 (m_law [some (.d (.scr ns)), none] []) := mkFn_eq rfl
  rw [z, b]
  refine ⟨(cut 0 (.d (.bl true)) H').2, ?_⟩
  show some (cut 0 (.d (.bl true)) H') = _
  have c1 : (cut 0 (.d (.bl true)) H').1 = .d (.bl true) := by
    unfold cut
    split <;> rfl
  exact congrArg some (Prod.ext c1 rfl)
end K02
set_option Elab.async false
set_option linter.all false
set_option maxRecDepth 100000
set_option maxHeartbeats 1000000
namespace K02
open PySem PySem.Spec PyProof.Rows L2 F2
/-! ### rows and their text -/
abbrev Row := Str × List Str
def rowD (r : Row) : D := .tup [.str r.1, .tup (r.2.map .str)]
def rowsD (rows : List Row) : D := .lst (rows.map rowD)
def rowText (r : Row) : Str := Txt.join " " (r.1 :: r.2)
def said (rows : List Row) : Str := Txt.join "; " (rows.map rowText)
structure Small (r : Row) : Prop where
  n : r.1.length ≤ 8
  l : r.2.length ≤ 2
  s : ∀ s ∈ r.2, s.length ≤ 8
theorem sum_le {xs : List Str} {b : Nat} (h : ∀ x ∈ xs, x.length ≤ b) : (xs.map (·.length)).sum ≤ xs.length * b := by
  induction xs with
  | nil => simp
  | cons x xs ih =>
    have h1 := h x List.mem_cons_self
    have h2 := ih fun y hy => h y (List.mem_cons_of_mem _ hy)
    simp only [List.map_cons, List.sum_cons, List.length_cons, Nat.add_mul, Nat.one_mul]
    omega
theorem join_len (y : Str) (parts : List Str) : (Txt.join y parts).length = (parts.map (·.length)).sum + (parts.length - 1) * y.length := size_glued y parts
theorem rowText_len {r : Row} (h : Small r) : (rowText r).length ≤ 26 := by
  unfold rowText
  rw [join_len]
  have h1 := sum_le (xs := r.2) h.s
  have h2 := h.n
  have h3 := h.l
  have e : (" " : Str).length = 1 := rfl
  simp only [List.map_cons, List.sum_cons, List.length_cons, e]
  omega
theorem txts_LA : ∀ xs : List Str, txts (LA xs) = some xs
  | [] => rfl
  | x :: xs => by
    show (txts (LA xs)).map (x :: ·) = _
    rw [txts_LA xs]; rfl
theorem join_data {a : Str} {xs : List Str} {h : Hh} (hz : (xs.map (·.length)).sum + xs.length * a.length ≤ 16777216) : fJoin (.d (.str a)) [.d (LS xs)] h = some (.d (.str (Txt.join a xs)), h) := by
  unfold fJoin
  have e : itemsL (.d (LS xs)) h = some (LA xs) := by
    show some ((xs.map D.str).map A.d) = _
    rw [List.map_map]; rfl
  dsimp only
  rw [e]
  dsimp only
  rw [txts_LA]
  dsimp only
  rw [if_pos hz]
def e_row : EI := (mMet "str" fJoin (mC (.str " ")) (mCons (mBin (fAdd false) (mOn (mkL false) (mCons (mVar 1) mNil)) (mOn (fList false) (mCons (mVar 2) mNil))) mNil))
theorem met_of {T : String} {F : A → List A → Hh → Option (A × Hh)} {o : EI} {r : AI} {ρ : En} {h h1 h2 : Hh} {x : A} {xs : List A} (e1 : o ρ h = some (x, h1)) (t : isT T x h1 = true) (e2 : r ρ h1 = some (xs, h2)) : mMet T F o r ρ h = F x xs h2 := by
  unfold mMet
  rw [e1]
  dsimp only
  rw [if_pos t, e2]
theorem row_ok {r : Row} (hr : Small r) (x0 : Option A) (H : Hh) : e_row [x0, some (.d (.str r.1)), some (.d (.tup (r.2.map .str)))] H = some (.d (.str (rowText r)), H) := by
  have e1 : mOn (mkL false) (mCons (mVar 1) mNil) [x0, some (.d (.str r.1)), some (.d (.tup (r.2.map .str)))] H = some (.d (.lst [.str r.1]), H) := mkL_data (xs := [.str r.1]) (by simp)
  have e2 : mOn (fList false) (mCons (mVar 2) mNil) [x0, some (.d (.str r.1)), some (.d (.tup (r.2.map .str)))] H = some (.d (.lst (r.2.map .str)), H) := mkL_data (xs := r.2.map .str) (by rw [List.length_map]; have := hr.l; omega)
  have e3 : mBin (fAdd false) (mOn (mkL false) (mCons (mVar 1) mNil)) (mOn (fList false) (mCons (mVar 2) mNil)) [x0, some (.d (.str r.1)), some (.d (.tup (r.2.map .str)))] H = some (.d (LS (r.1 :: r.2)), H) := by
    rw [bin_of e1 e2, addL_data (by rw [List.length_map]; have := hr.l; simp; omega)]
    rfl
  have e4 := cons_of e3 (show mNil [x0, some (.d (.str r.1)), some (.d (.tup (r.2.map .str)))] H = some ([], H) from rfl)
  refine (met_of (T := "str") (F := fJoin) (show mC (.str " ") [x0, some (.d (.str r.1)), some (.d (.tup (r.2.map .str)))] H = some (.d (.str " "), H) from rfl) rfl e4).trans (join_data ?_)
  have h1 := sum_le (xs := r.2) hr.s
  have h2 := hr.n
  have h3 := hr.l
  have e : (" " : Str).length = 1 := rfl
  simp only [List.map_cons, List.sum_cons, List.length_cons, e]
  omega
def g_row : GI := (gT 2 (gsCons (gN 1) (gsCons (gN 2) gsNil)))
theorem said_eq {rows : List Row} (hs : ∀ r ∈ rows, Small r) (hz : rows.length < 100) (H : Hh) : fn_law_said [.d (rowsD rows)] H = some (.d (.str (said rows)), H) := by
  have src := srcQ_data (m := mVar 0) (ρ := [some (.d (rowsD rows)), none, none]) (h := H) (h1 := H) (xs := rows.map rowD) rfl
  obtain ⟨acc, H', ⟨ea, eh⟩, e2⟩ := lc_items (items := (rows.map rowD).map A.d) (g := g_row) (t := mYes) (m := e_row) (vs := [1, 2]) (I := fun i acc h => acc = LA ((rows.take i).map rowText) ∧ h = H) (fun i h => items_map _ h i) (by simp) src
    (fun i acc h hi ⟨ea, eh⟩ => by
      subst eh
      have hi' : i < rows.length := by simpa using hi
      have gi : ((rows.map rowD).map A.d)[i] = .d (rowD rows[i]) := by simp
      have hm : rows[i] ∈ rows := List.getElem_mem hi'
      refine ⟨[some (.d (rowsD rows)), some (.d (.str rows[i].1)), some (.d (.tup (rows[i].2.map .str)))], h, true, h, ?_, rfl, (fun z => by cases z), fun _ => ⟨_, h, row_ok (hs _ hm) _ h, ⟨?_, rfl⟩, ?_⟩⟩
      · rw [gi]; rfl
      · rw [ea, LA_snoc, List.take_succ, List.getElem?_eq_getElem hi', List.map_append]; rfl
      · rw [ea, LA_len, List.length_map, List.length_take]; omega) ⟨rfl, rfl⟩
  subst eh
  have ln : ((rows.map rowD).map A.d).length = rows.length := by simp
  rw [ln, List.take_length] at ea
  have l1 : mLc false (srcQ (mVar 0)) g_row mYes e_row [1, 2] [some (.d (rowsD rows)), none, none] H' = some (.d (LS (rows.map rowText)), H') := by
    rw [e2 false, ea]
    have z := mkL_data (xs := (rows.map rowText).map D.str) (h := H') (by rw [List.length_map, List.length_map]; omega)
    rw [List.map_map] at z
    exact z
  have b : m_law_said [some (.d (rowsD rows)), none, none] H' = some (.rt (.d (.str (said rows))) H') := by
    have d1 : m_law_said = mRet (mMet "str" fJoin (mC (.str "; ")) (mCons (mLc false (srcQ (mVar 0)) g_row mYes e_row [1, 2]) mNil)) := rfl
    have e4 := cons_of l1 (show mNil [some (.d (rowsD rows)), none, none] H' = some ([], H') from rfl)
    have e5 := (met_of (T := "str") (F := fJoin) (show mC (.str "; ") [some (.d (rowsD rows)), none, none] H' = some (.d (.str "; "), H') from rfl) rfl e4).trans (join_data (by
      have h1 := sum_le (xs := rows.map rowText) (b := 26) (fun x hx => by
        obtain ⟨r, hr, rfl⟩ := List.mem_map.mp hx
        exact rowText_len (hs r hr))
      have e : ("; " : Str).length = 2 := rfl
      rw [List.length_map] at h1 ⊢
      rw [e]
      omega))
    rw [d1]
    unfold mRet
    rw [e5]
    rfl
  have z : fn_law_said [.d (rowsD rows)] H' = finP H'.length (m_law_said [some (.d (rowsD rows)), none, none] H') := mkFn_eq rfl
  rw [z, b]
  show some (cut H'.length _ H') = _
  rw [cut_same rfl]
/-! ### the text read back -/
theorem split_said {rows : List Row} (hne : rows ≠ []) (hp : ∀ r ∈ rows, 59 ∉ TL.tl (rowText r)) : Txt.split (said rows) "; " = rows.map rowText :=
  TL.split_join (y := "; ") (s := 59) (S := [32]) rfl (by decide +kernel) (by simpa using hne) fun p h => by
    obtain ⟨r, hr, rfl⟩ := List.mem_map.mp h
    exact hp r hr
theorem split_row {r : Row} (h1 : 32 ∉ TL.tl r.1) (h2 : ∀ s ∈ r.2, 32 ∉ TL.tl s) : Txt.split (rowText r) " " = r.1 :: r.2 :=
  TL.split_join (y := " ") (s := 32) (S := []) rfl (by decide +kernel) (by simp) fun p h => by
    rcases List.mem_cons.mp h with rfl | h
    · exact h1
    · exact h2 p h
end K02
set_option Elab.async false
set_option linter.all false
set_option maxRecDepth 100000
set_option maxHeartbeats 1000000
namespace K02
open PySem PySem.Spec PyProof.Rows L2 F2
def isName (x : Str) : Bool := decide (x.length ≤ 8) && (Txt.isascii x && (Txt.isalpha x && Txt.islower x))
theorem is_name_eq {x : Str} (hz : x.length ≤ 1000) (H : Hh) : fn_is_name [.d (.str x)] H = some (.d (.bl (isName x)), H) := by
  have lz : x.length ≤ LIM := by have := LIMv; omega
  have z : fn_is_name [.d (.str x)] H = finP H.length (m_is_name [some (.d (.str x))] H) := mkFn_eq rfl
  rw [z]
  by_cases h : x.length ≤ 8
  · have h2 : ¬ (8 : Int) < (x.length : Int) := by omega
    have l : orC fLen fLenD [.d (.str x)] H = some (.d (.int x.length), H) := by
      simp only [orC, fLen, itemsL, if_pos lz]
    cases e1 : Txt.isascii x <;> cases e2 : Txt.isalpha x <;> cases e3 : Txt.islower x <;>
      simp [m_is_name, mSeq, mIfS, mOrT, mNotT, mTru, mIsi, mVar, tyName, kitB, truthA, mBl, mBin, mOn, mCons, mNil, l, fGt, int2, mC, h2, mRet, mSkip, mAnd, mMet, isT, fStr0, e1, e2, e3, finP, cut_same, isName, h]
  · have h2 : (8 : Int) < (x.length : Int) := by omega
    have l : orC fLen fLenD [.d (.str x)] H = some (.d (.int x.length), H) := by
      simp only [orC, fLen, itemsL, if_pos lz]
    simp [m_is_name, mSeq, mIfS, mOrT, mNotT, mTru, mIsi, mVar, tyName, kitB, truthA, mBl, mBin, mOn, mCons, mNil, l, fGt, int2, mC, h2, mRet, finP, cut_same, isName, h]
/-! ### tables -/
/-- the table of what stands at each name -/
def tabL (ks : List (Str × A)) : List (Key × A) := ks.map fun p => (.inr p.1, p.2)
theorem tab_some {ks : List (Str × A)} {x : Str} : (lookG (tabL ks) (.inr x : Key)).isSome = decide (x ∈ ks.map (·.1)) := by
  induction ks with
  | nil => rfl
  | cons k ks ih =>
    have e : tabL (k :: ks) = (.inr k.1, k.2) :: tabL ks := rfl
    rw [e]
    unfold lookG at ih ⊢
    rw [List.find?_cons]
    by_cases h : k.1 = x
    · have h1 : decide ((Sum.inr k.1 : Key) = Sum.inr x) = true := by simp [h]
      simp only [h1]
      simp [h]
    · have h1 : decide ((Sum.inr k.1 : Key) = Sum.inr x) = false := by simp [h]
      simp only [h1, ih]
      have h2 : ¬ x = k.1 := fun z => h z.symm
      simp [h2]
theorem in_tab {neg : Bool} {x : Str} {y : A} {ks : List (Str × A)} {H : Hh} (ht : F2.tabOf y H = some (.k (tabL ks))) : fIn neg (.d (.str x)) y H = some (.d (.bl (neg ^^ decide (x ∈ ks.map (·.1)))), H) := by
  unfold fIn orF fInK
  rw [ht]
  have e : dget (.k (tabL ks)) (.d (.str x)) = some (lookG (tabL ks) (.inr x)) := rfl
  dsimp only
  rw [e]
  simp only [Option.map_some]
  rw [tab_some]
theorem is_new_eq {x : Str} (hz : x.length ≤ 1000) {y : A} {ks : List (Str × A)} {H : Hh} (ht : F2.tabOf y H = some (.k (tabL ks))) : fn_is_new_name [.d (.str x), y] H = some (.d (.bl (isName x && !decide (x ∈ ks.map (·.1)))), H) := by
  have z : fn_is_new_name [.d (.str x), y] H = finP H.length (m_is_new_name [some (.d (.str x)), some y] H) := mkFn_eq rfl
  rw [z]
  have e1 : mCall 1 fn_is_name (mCons (mVar 0) mNil) [some (.d (.str x)), some y] H = some (.d (.bl (isName x)), H) := (call_of (n := 1) (F := fn_is_name) (show mCons (mVar 0) mNil [some (.d (.str x)), some y] H = some ([.d (.str x)], H) from rfl) rfl).trans (is_name_eq hz H)
  have e2 : mBin (fIn true) (mVar 0) (mVar 1) [some (.d (.str x)), some y] H = some (.d (.bl (true ^^ decide (x ∈ ks.map (·.1)))), H) := (bin_of (show mVar 0 [some (.d (.str x)), some y] H = some (.d (.str x), H) from rfl) (show mVar 1 [some (.d (.str x)), some y] H = some (y, H) from rfl)).trans (in_tab ht)
  have d1 : m_is_new_name = mRet (mAnd (mCall 1 fn_is_name (mCons (mVar 0) mNil)) (mBin (fIn true) (mVar 0) (mVar 1))) := rfl
  rw [d1]
  unfold mRet mAnd
  rw [e1]
  cases hn : isName x with
  | false => simp [truthA, finP, cut_same]
  | true => simp [truthA, e2, finP, cut_same]
theorem pool_names : POOL.all isName = true := by kernel_rfl
theorem pool_nodup : POOL.Nodup := by
  have h : decide POOL.Nodup = true := by kernel_rfl
  exact of_decide_eq_true h
end K02
set_option Elab.async false
set_option linter.all false
set_option maxRecDepth 100000
set_option maxHeartbeats 1000000
namespace K02
open PySem PySem.Spec PyProof.Rows L2 F2
theorem is_one_eq {x : Str} {y : A} {ks : List (Str × A)} {H : Hh} (ht : F2.tabOf y H = some (.k (tabL ks))) : fn_is_one_of [.d (.str x), y] H = some (.d (.bl (decide (x ∈ ks.map (·.1)))), H) := by
  have z : fn_is_one_of [.d (.str x), y] H = finP H.length (m_is_one_of [some (.d (.str x)), some y] H) := mkFn_eq rfl
  rw [z]
  have e1 : mIsi "str" (mVar 0) [some (.d (.str x)), some y] H = some (.d (.bl true), H) := rfl
  have e2 : mBin (fIn false) (mVar 0) (mVar 1) [some (.d (.str x)), some y] H = some (.d (.bl (false ^^ decide (x ∈ ks.map (·.1)))), H) := (bin_of (show mVar 0 [some (.d (.str x)), some y] H = some (.d (.str x), H) from rfl) (show mVar 1 [some (.d (.str x)), some y] H = some (y, H) from rfl)).trans (in_tab ht)
  have d1 : m_is_one_of = mRet (mAnd (mIsi "str" (mVar 0)) (mBin (fIn false) (mVar 0) (mVar 1))) := rfl
  rw [d1]
  unfold mRet mAnd
  rw [e1]
  simp [truthA, e2, finP, cut_same]
/-- texts in a list, in a tuple -/
def SQ : Bool → List Str → D
  | true, xs => .tup (xs.map .str)
  | false, xs => LS xs
theorem sq_len {b : Bool} {xs : List Str} {H : Hh} : orC fLen fLenD [.d (SQ b xs)] H = some (.d (.int xs.length), H) := by
  cases b <;> simp [SQ, LS, orC, fLen, itemsL]
theorem sq_at {b : Bool} {xs : List Str} {i : Nat} (hi : i < xs.length) {H : Hh} : fIx (.d (SQ b xs)) (.d (.int i)) H = some (.d (.str xs[i]), H) := by
  cases b <;> simp [SQ, LS, fIx, orF, fIxS, itemsL, L2.atI, ixN, hi]
theorem sq_src {b : Bool} {xs : List Str} {m : EI} {ρ : En} {h h1 : Hh} (e : m ρ h = some (.d (SQ b xs), h1)) : ∃ s, srcQ m ρ h = some (s, h1) ∧ s.fuel = (LA xs).length ∧ ∀ i h, s.nxt i h = some (LA xs)[i]? := by
  cases b with
  | false => exact ⟨_, srcQ_data e, by simp [LA], fun i h => by simp [listN, itemsL, LA, List.map_map]; rfl⟩
  | true =>
    refine ⟨⟨tupN ((xs.map D.str).map A.d), ((xs.map D.str).map A.d).length⟩, ?_, by simp [LA], fun i h => by simp [tupN, LA, List.map_map]; rfl⟩
    unfold srcQ srcL srcT
    rw [e]
    rfl
def okSrc (xs : List Str) (names : List Str) : Bool := match xs with
  | [a] => decide (a ∈ names)
  | [a, b] => decide (a ∈ names) && (decide (b ∈ names) && !decide (a = b))
  | _ => false
theorem int_eq (i j : Int) (H : Hh) : fEqD false (.d (.int i)) (.d (.int j)) H = some (.d (.bl (decide (i = j))), H) := by
  by_cases h : i = j <;> simp [fEqD, pyOf, toPy, SeqAt.shaped, PyData.eqv, h, PyData.canLay0, PyData.depth]
theorem str_ne {i j : Str} (hi : PyData.strOk i = true) (hj : PyData.strOk j = true) (H : Hh) : fEqD true (.d (.str i)) (.d (.str j)) H = some (.d (.bl (!decide (i = j))), H) := by
  by_cases h : i = j
  · subst h
    simp [fEqD, pyOf, toPy, SeqAt.shaped, PyData.eqv, PyData.canLay0, PyData.depth, hi]
  · simp [fEqD, pyOf, toPy, SeqAt.shaped, PyData.eqv, h, PyData.canLay0, PyData.depth, hi, hj]
def e_at (i : Int) : EI := mBin fIx (mVar 0) (mC (.int i))
def e_on (i : Int) : EI := mCall 2 fn_is_one_of (mCons (mBin fIx (mVar 0) (mC (.int i))) (mCons (mVar 1) mNil))
def e_ne : EI := mBin (fEqD true) (mBin fIx (mVar 0) (mC (.int 0))) (mBin fIx (mVar 0) (mC (.int 1)))
theorem are_eq {b : Bool} {xs : List Str} {y : A} {ks : List (Str × A)} {H : Hh} (ht : F2.tabOf y H = some (.k (tabL ks))) (ho : ∀ x ∈ xs, PyData.strOk x = true) : fn_are_sources [.d (SQ b xs), y] H = some (.d (.bl (okSrc xs (ks.map (·.1)))), H) := by
  have z : fn_are_sources [.d (SQ b xs), y] H = finP H.length (m_are_sources [some (.d (SQ b xs)), some y] H) := mkFn_eq rfl
  rw [z]
  have ln : mOn (orC fLen fLenD) (mCons (mVar 0) mNil) [some (.d (SQ b xs)), some y] H = some (.d (.int xs.length), H) := (on_of (show mCons (mVar 0) mNil [some (.d (SQ b xs)), some y] H = some ([.d (SQ b xs)], H) from rfl)).trans sq_len
  have at_ : ∀ (i : Nat) (hi : i < xs.length), mBin fIx (mVar 0) (mC (.int i)) [some (.d (SQ b xs)), some y] H = some (.d (.str xs[i]), H) := fun i hi => (bin_of (show mVar 0 [some (.d (SQ b xs)), some y] H = some (.d (SQ b xs), H) from rfl) (show mC (.int i) [some (.d (SQ b xs)), some y] H = some (.d (.int i), H) from rfl)).trans (sq_at hi)
  have on_ : ∀ (i : Nat) (hi : i < xs.length), mCall 2 fn_is_one_of (mCons (mBin fIx (mVar 0) (mC (.int i))) (mCons (mVar 1) mNil)) [some (.d (SQ b xs)), some y] H = some (.d (.bl (decide (xs[i] ∈ ks.map (·.1)))), H) := fun i hi => (call_of (n := 2) (F := fn_is_one_of) (cons_of (at_ i hi) (show mCons (mVar 1) mNil [some (.d (SQ b xs)), some y] H = some ([y], H) from rfl)) rfl).trans (is_one_eq ht)
  have t1 : ∀ k : Int, mBl (mBin (fEqD false) (mOn (orC fLen fLenD) (mCons (mVar 0) mNil)) (mC (.int k))) [some (.d (SQ b xs)), some y] H = some (decide ((xs.length : Int) = k), H) := fun k => by
    unfold mBl
    rw [bin_of ln (show mC (.int k) [some (.d (SQ b xs)), some y] H = some (.d (.int k), H) from rfl), int_eq]
  have d1 : m_are_sources = mSeq (mIfS (mBl (mBin (fEqD false) (mOn (orC fLen fLenD) (mCons (mVar 0) mNil)) (mC (.int 1)))) (mRet (e_on 0)) mSkip) (mSeq (mIfS (mBl (mBin (fEqD false) (mOn (orC fLen fLenD) (mCons (mVar 0) mNil)) (mC (.int 2)))) (mRet (mAnd (e_on 0) (mAnd (e_on 1) e_ne))) mSkip) (mRet (mC (.bl false)))) := rfl
  rw [d1]
  match xs, ho, ln, at_, on_, t1 with
  | [], _, _, _, _, t1 => simp [mSeq, mIfS, t1, mSkip, mRet, mC, finP, cut_same, okSrc]
  | [a], _, _, _, on_, t1 =>
    have o0 : e_on 0 [some (.d (SQ b [a])), some y] H = some (.d (.bl (decide (a ∈ ks.map (·.1)))), H) := on_ 0 (by simp)
    have q1 : (decide ((([a] : List Str).length : Int) = 1)) = true := rfl
    simp only [mSeq, mIfS, t1, q1, mRet, o0]
    simp [finP, cut_same, okSrc]
  | [a, c], ho, _, at_, on_, t1 =>
    have o0 : e_on 0 [some (.d (SQ b [a, c])), some y] H = some (.d (.bl (decide (a ∈ ks.map (·.1)))), H) := on_ 0 (by simp)
    have o1 : e_on 1 [some (.d (SQ b [a, c])), some y] H = some (.d (.bl (decide (c ∈ ks.map (·.1)))), H) := on_ 1 (by simp)
    have ne : e_ne [some (.d (SQ b [a, c])), some y] H = some (.d (.bl (!decide (a = c))), H) := (bin_of (at_ 0 (by simp)) (at_ 1 (by simp))).trans (str_ne (ho a (by simp)) (ho c (by simp)) H)
    have q1 : (decide ((([a, c] : List Str).length : Int) = 1)) = false := rfl
    have q2 : (decide ((([a, c] : List Str).length : Int) = 2)) = true := rfl
    simp only [mSeq, mIfS, t1, q1, q2, mRet, mAnd, o0, o1, ne, mSkip]
    cases h1 : decide (a ∈ ks.map (·.1)) <;> cases h2 : decide (c ∈ ks.map (·.1)) <;> simp_all [finP, cut_same, okSrc, truthA]
  | a :: c :: e :: r, _, _, _, _, t1 =>
    have n1 : ¬ ((a :: c :: e :: r).length : Int) = 1 := by simp only [List.length_cons]; omega
    have n2 : ¬ ((a :: c :: e :: r).length : Int) = 2 := by simp only [List.length_cons]; omega
    simp only [mSeq, mIfS, t1, mRet, mSkip, mC, decide_eq_false n1, decide_eq_false n2]
    simp [finP, cut_same, okSrc]
end K02
set_option Elab.async false
set_option linter.all false
set_option maxRecDepth 100000
set_option maxHeartbeats 1000000
namespace K02
open PySem PySem.Spec PyProof.Rows L2 F2
theorem at_tab {x : Str} {y a : A} {ks : List (Str × A)} {H : Hh} (ht : F2.tabOf y H = some (.k (tabL ks))) (e : lookG (tabL ks) (.inr x : Key) = some a) : fIx y (.d (.str x)) H = some (a, H) := by
  have e1 : fIx y (.d (.str x)) H = fIxK y (.d (.str x)) H := rfl
  rw [e1]
  unfold fIxK
  rw [ht]
  have e2 : dget (.k (tabL ks)) (.d (.str x)) = some (lookG (tabL ks) (.inr x)) := rfl
  dsimp only
  rw [e2, e]
/-- how many stand at a name -/
def Cnt (H : Hh) (ks : List (Str × A)) (s : Str) (c : Int) : Prop := ∃ a, lookG (tabL ks) (.inr s : Key) = some a ∧ orC fLen fLenD [a] H = some (.d (.int c), H)
def b_full : SI := (mIfS (mBl (mBin (fEqD false) (mOn (orC fLen fLenD) (mCons (mBin fIx (mVar 1) (mVar 2)) mNil)) (mC (.int 2)))) (mRet (mVar 2)) mSkip)
theorem full_none {b : Bool} {xs : List Str} {y : A} {ks : List (Str × A)} {H : Hh} (ht : F2.tabOf y H = some (.k (tabL ks))) (hc : ∀ s ∈ xs, ∃ c, Cnt H ks s c ∧ c ≠ 2) : fn_first_full [.d (SQ b xs), y] H = some (.d .non, H) := by
  have z : fn_first_full [.d (SQ b xs), y] H = finP H.length (m_first_full [some (.d (SQ b xs)), some y, none] H) := mkFn_eq rfl
  obtain ⟨s, e1, e2, e3⟩ := sq_src (b := b) (xs := xs) (m := mVar 0) (ρ := [some (.d (SQ b xs)), some y, none]) (h := H) (h1 := H) rfl
  obtain ⟨ρ', H', e4, x2, e5, e6⟩ := for_items (items := LA xs) (g := gN 2) (b := b_full) (I := fun _ ρ h => ∃ x2 : Option A, ρ = [some (.d (SQ b xs)), some y, x2] ∧ h = H) e3 e2 e1
    (fun i ρ h hi ⟨x2, e5, e6⟩ => by
      subst e5 e6
      have hi' : i < xs.length := by rw [LA_len] at hi; exact hi
      have gi : (LA xs)[i] = .d (.str xs[i]) := by simp [LA]
      obtain ⟨c, ⟨a, h1, h2⟩, hne⟩ := hc xs[i] (List.getElem_mem hi')
      have q1 : mOn (orC fLen fLenD) (mCons (mBin fIx (mVar 1) (mVar 2)) mNil) [some (.d (SQ b xs)), some y, some (.d (.str xs[i]))] h = some (.d (.int c), h) :=
        (on_of (cons_of ((bin_of (show mVar 1 [some (.d (SQ b xs)), some y, some (.d (.str xs[i]))] h = some (y, h) from rfl) (show mVar 2 [some (.d (SQ b xs)), some y, some (.d (.str xs[i]))] h = some (.d (.str xs[i]), h) from rfl)).trans (at_tab ht h1)) (show mNil [some (.d (SQ b xs)), some y, some (.d (.str xs[i]))] h = some ([], h) from rfl))).trans h2
      refine ⟨[some (.d (SQ b xs)), some y, some (.d (.str xs[i]))], h, ?_, _, rfl, rfl⟩
      rw [gi]
      show b_full [some (.d (SQ b xs)), some y, some (.d (.str xs[i]))] h = _
      unfold b_full mIfS mBl
      rw [bin_of q1 (show mC (.int 2) [some (.d (SQ b xs)), some y, some (.d (.str xs[i]))] h = some (.d (.int 2), h) from rfl), int_eq, decide_eq_false hne]
      rfl) ⟨none, rfl, rfl⟩
  subst e5 e6
  have d1 : m_first_full = mSeq (mFor (srcQ (mVar 0)) (gN 2) b_full) (mRet (mC .non)) := rfl
  rw [z, d1, seq_nx e4]
  show some (cut H'.length _ H') = _
  rw [cut_same rfl]
/-- sources that may be chosen -/
theorem may_eq {xs : List Str} {l : Nat} {ks : List (Str × A)} {H : Hh} (hl : H[l]? = some (.dK (tabL ks))) (ho : ∀ x ∈ xs, PyData.strOk x = true) (hok : if ks = [] then xs = [] else okSrc xs (ks.map (·.1)) = true) (hc : ∀ s ∈ xs, ∃ c, Cnt H ks s c ∧ c ≠ 2) :
    fn_may_be_chosen [.d (LS xs), .ref l] H = some (.d (.bl true), H) := by
  have ht : F2.tabOf (.ref l) H = some (.k (tabL ks)) := by simp [F2.tabOf, hl]
  have z : fn_may_be_chosen [.d (LS xs), .ref l] H = finP H.length (m_may_be_chosen [some (.d (LS xs)), some (.ref l)] H) := mkFn_eq rfl
  have t1 : mNotT (mTru (mVar 1)) [some (.d (LS xs)), some (.ref l)] H = some (decide (ks = []), H) := by
    cases ks with
    | nil => simp [mNotT, mTru, mVar, truthA, hl, tabL]
    | cons k ks => simp [mNotT, mTru, mVar, truthA, hl, tabL]
  have d1 : m_may_be_chosen = mSeq (mIfS (mNotT (mTru (mVar 1))) (mRet (mNot (mVar 0))) mSkip) (mRet (mAnd (mCall 2 fn_are_sources (mCons (mVar 0) (mCons (mVar 1) mNil))) (mBin (fIs false) (mCall 2 fn_first_full (mCons (mVar 0) (mCons (mVar 1) mNil))) (mC .non)))) := rfl
  have aa : mCons (mVar 0) (mCons (mVar 1) mNil) [some (.d (LS xs)), some (.ref l)] H = some ([.d (LS xs), .ref l], H) := rfl
  rw [z, d1]
  by_cases hk : ks = []
  · rw [if_pos hk] at hok
    subst hok
    unfold mSeq mIfS
    rw [t1, decide_eq_true hk]
    simp [mRet, mNot, mVar, truthA, LS, finP, cut_same]
  · rw [if_neg hk] at hok
    have a1 := (call_of (n := 2) (F := fn_are_sources) aa rfl).trans (are_eq (b := false) ht ho)
    have f1 := (call_of (n := 2) (F := fn_first_full) aa rfl).trans (full_none (b := false) ht hc)
    have i1 : mBin (fIs false) (mCall 2 fn_first_full (mCons (mVar 0) (mCons (mVar 1) mNil))) (mC .non) [some (.d (LS xs)), some (.ref l)] H = some (.d (.bl true), H) := (bin_of f1 (show mC .non [some (.d (LS xs)), some (.ref l)] H = some (.d .non, H) from rfl)).trans rfl
    rw [hok] at a1
    unfold mSeq mIfS
    rw [t1, decide_eq_false hk]
    unfold mSkip mRet mAnd
    dsimp only
    rw [a1]
    simp [truthA, i1, finP, cut_same]
end K02
set_option Elab.async false
set_option linter.all false
set_option maxRecDepth 100000
set_option maxHeartbeats 1000000
namespace K02
open PySem PySem.Spec PyProof.Rows L2 F2
theorem look_at : ∀ {ks : List (Str × A)}, (ks.map (·.1)).Nodup → ∀ {j : Nat} {k : Str × A}, ks[j]? = some k → lookG (tabL ks) (.inr k.1 : Key) = some k.2
  | [], _, j, k, e => by simp at e
  | q :: ks, hn, 0, k, e => by
    simp at e
    subst e
    simp [lookG, tabL]
  | q :: ks, hn, j + 1, k, e => by
    have e' : ks[j]? = some k := by simpa using e
    rw [List.map_cons, List.nodup_cons] at hn
    have hm : k.1 ∈ ks.map (·.1) := List.mem_map.mpr ⟨k, List.mem_of_getElem? e', rfl⟩
    have ne : q.1 ≠ k.1 := fun z => hn.1 (z ▸ hm)
    have h1 : decide ((Sum.inr q.1 : Key) = Sum.inr k.1) = false := by simp [ne]
    have ih := look_at hn.2 e'
    unfold lookG at ih ⊢
    show ((((.inr q.1, q.2) :: tabL ks).find? fun kv => decide (kv.1 = (Sum.inr k.1 : Key))).map (·.2)) = _
    rw [List.find?_cons]
    simp only [h1]
    exact ih
theorem put_new {ks : List (Str × A)} {x : Str} {v : A} (h : x ∉ ks.map (·.1)) : putG (tabL ks) (.inr x : Key) v = tabL (ks ++ [(x, v)]) := by
  unfold putG
  have e : ((tabL ks).any fun kv => decide (kv.1 = (Sum.inr x : Key))) = false := by
    rw [List.any_eq_false]
    intro kv hkv
    obtain ⟨k, hk, rfl⟩ := List.mem_map.mp hkv
    simp
    intro z
    exact h (List.mem_map.mpr ⟨k, hk, z⟩)
  rw [if_neg (by rw [e]; exact Bool.false_ne_true)]
  simp [tabL]
/-! ### webs by their rows -/
/-- the copies of x, in order -/
def copiesOf (rows : List Row) (x : Str) : List Str := (rows.filter fun r => decide (x ∈ r.2)).map (·.1)
theorem copies_snoc (rows : List Row) (r : Row) (x : Str) : copiesOf (rows ++ [r]) x = copiesOf rows x ++ (if x ∈ r.2 then [r.1] else []) := by
  unfold copiesOf
  rw [List.filter_append, List.map_append]
  congr 1
  by_cases h : x ∈ r.2 <;> simp [h]
/-- a row that may follow these -/
structure Fit (pre : List Row) (r : Row) : Prop where
  small : Small r
  name : isName r.1 = true
  new : r.1 ∉ pre.map (·.1)
  src : if pre = [] then r.2 = [] else okSrc r.2 (pre.map (·.1)) = true
  room : ∀ s ∈ r.2, (copiesOf pre s).length < 2
  ok : ∀ s ∈ r.2, PyData.strOk s = true
  semi : 59 ∉ TL.tl (rowText r)
  gapN : 32 ∉ TL.tl r.1
  gapS : ∀ s ∈ r.2, 32 ∉ TL.tl s
inductive Fits : List Row → List Row → Prop
  | nil {pre : List Row} : Fits pre []
  | cons {pre : List Row} {r : Row} {rest : List Row} (h : Fit pre r) (t : Fits (pre ++ [r]) rest) : Fits pre (r :: rest)
theorem ok_mem {xs names : List Str} (h : okSrc xs names = true) : (∀ s ∈ xs, s ∈ names) ∧ xs.Nodup := by
  unfold okSrc at h
  split at h
  · rename_i a
    exact ⟨fun s hs => by simp at hs; subst hs; exact of_decide_eq_true h, by simp⟩
  · rename_i a b
    rw [Bool.and_eq_true, Bool.and_eq_true] at h
    obtain ⟨h1, h2, h3⟩ := h
    refine ⟨fun s hs => ?_, ?_⟩
    · simp at hs
      rcases hs with rfl | rfl
      · exact of_decide_eq_true h1
      · exact of_decide_eq_true h2
    · simp at h3 ⊢
      exact h3
  · cases h
end K02
set_option Elab.async false
set_option linter.all false
set_option maxRecDepth 100000
set_option maxHeartbeats 1000000
namespace K02
open PySem PySem.Spec PyProof.Rows L2 F2
def srcKs (pre : List Row) : List (Str × A) := pre.map fun r => (r.1, .d (LS r.2))
def cpyK (n : Nat) (pre : List Row) : List (Str × A) := pre.mapIdx fun j r => (r.1, .ref (n + 2 + j))
theorem cpy_names (n : Nat) (pre : List Row) : (cpyK n pre).map (·.1) = pre.map (·.1) := by
  unfold cpyK
  apply List.ext_getElem?
  intro i
  simp
  cases pre[i]? <;> rfl
theorem cpy_at {n : Nat} {pre : List Row} {j : Nat} {r : Row} (e : pre[j]? = some r) : (cpyK n pre)[j]? = some (r.1, .ref (n + 2 + j)) := by
  unfold cpyK
  rw [List.getElem?_mapIdx, e]
  rfl
/-- read_web's cells behind so many rows; so many sources of the row r told -/
structure RW (n : Nat) (H : Hh) (pre : List Row) (r : Row) (k : Nat) (h : Hh) : Prop where
  old : ∀ j, j < n → h[j]? = H[j]?
  s : h[n]? = some (.dK (tabL (srcKs pre)))
  c : h[n + 1]? = some (.dK (tabL (cpyK n pre)))
  len : h.length = n + 2 + pre.length
  cell : ∀ (j : Nat) (q : Row), pre[j]? = some q → h[n + 2 + j]? = some (.lst (LA (copiesOf pre q.1 ++ (if q.1 ∈ r.2.take k then [r.1] else []))))
def b_in : SI := (mDrop (mMet "list" fAppend (mBin fIx (mVar 2) (mVar 6)) (mCons (mVar 4) mNil)))
theorem copies_le {pre : List Row} {x : Str} : (copiesOf pre x).length ≤ pre.length := by
  unfold copiesOf
  rw [List.length_map]
  exact List.length_filter_le _ _
theorem in_turn {n : Nat} {H h : Hh} {pre : List Row} {r : Row} {k : Nat} (w : RW n H pre r k h) (hn : (pre.map (·.1)).Nodup) (hz : pre.length < 500) (hd : r.2.Nodup) {s : Str} (hk : r.2[k]? = some s) (hm : s ∈ pre.map (·.1)) (x0 x1 x3 x5 : Option A) :
    ∃ h', b_in [x0, x1, some (.ref (n + 1)), x3, some (.d (.str r.1)), x5, some (.d (.str s))] h = some (.nx [x0, x1, some (.ref (n + 1)), x3, some (.d (.str r.1)), x5, some (.d (.str s))] h') ∧ RW n H pre r (k + 1) h' := by
  obtain ⟨q, hq, hqs⟩ := List.mem_map.mp hm
  obtain ⟨j, hj⟩ := List.mem_iff_getElem?.mp hq
  have hjl : j < pre.length := (List.getElem?_eq_some_iff.mp hj).1
  have ht : F2.tabOf (.ref (n + 1)) h = some (.k (tabL (cpyK n pre))) := by simp [F2.tabOf, w.c]
  have e1 := look_at (ks := cpyK n pre) (by rw [cpy_names]; exact hn) (cpy_at hj)
  have snot : s ∉ r.2.take k := fun z => by
    obtain ⟨i, hi⟩ := List.mem_iff_getElem?.mp z
    have hik : i < k := by
      have := (List.getElem?_eq_some_iff.mp hi).1
      rw [List.length_take] at this
      omega
    rw [List.getElem?_take_of_lt hik] at hi
    have e := ((List.getElem?_inj (List.getElem?_eq_some_iff.mp hi).1 hd).mp (hi.trans hk.symm))
    omega
  have c0 := w.cell j q hj
  rw [hqs, if_neg snot, List.append_nil] at c0
  have e2 : fIx (.ref (n + 1)) (.d (.str s)) h = some (.ref (n + 2 + j), h) := at_tab ht (by rw [← hqs]; exact e1)
  have e3 := append_eq (y := .d (.str r.1)) c0 (by rw [LA_len]; have := copies_le (pre := pre) (x := s); omega)
  rw [LA_snoc] at e3
  refine ⟨h.set (n + 2 + j) (.lst (LA (copiesOf pre s ++ [r.1]))), ?_, ?_⟩
  · have a1 : mBin fIx (mVar 2) (mVar 6) [x0, x1, some (.ref (n + 1)), x3, some (.d (.str r.1)), x5, some (.d (.str s))] h = some (.ref (n + 2 + j), h) := (bin_of (show mVar 2 [x0, x1, some (.ref (n + 1)), x3, some (.d (.str r.1)), x5, some (.d (.str s))] h = some (.ref (n + 1), h) from rfl) (show mVar 6 [x0, x1, some (.ref (n + 1)), x3, some (.d (.str r.1)), x5, some (.d (.str s))] h = some (.d (.str s), h) from rfl)).trans e2
    have a2 := (met_of (T := "list") (F := fAppend) a1 (isT_list c0) (show mCons (mVar 4) mNil [x0, x1, some (.ref (n + 1)), x3, some (.d (.str r.1)), x5, some (.d (.str s))] h = some ([.d (.str r.1)], h) from rfl)).trans e3
    unfold b_in mDrop
    rw [a2]
  · have tk : r.2.take (k + 1) = r.2.take k ++ [s] := by rw [List.take_succ, hk]; rfl
    refine ⟨fun i hi => ?_, ?_, ?_, ?_, fun i p hp => ?_⟩
    · rw [List.getElem?_set_ne (by omega)]; exact w.old i hi
    · rw [List.getElem?_set_ne (by omega)]; exact w.s
    · rw [List.getElem?_set_ne (by omega)]; exact w.c
    · rw [List.length_set]; exact w.len
    · by_cases hij : i = j
      · subst hij
        rw [hj] at hp
        cases hp
        rw [List.getElem?_set_self (by rw [w.len]; omega), hqs, tk, if_pos (by simp)]
      · rw [List.getElem?_set_ne (by omega), w.cell i p hp]
        have ne : p.1 ≠ s := fun z => hij (by
          have e1 : (pre.map (·.1))[i]? = some s := by rw [List.getElem?_map, hp, ← z]; rfl
          have e2 : (pre.map (·.1))[j]? = some s := by rw [List.getElem?_map, hj, ← hqs]; rfl
          exact (List.getElem?_inj (List.getElem?_eq_some_iff.mp e1).1 hn).mp (e1.trans e2.symm))
        rw [tk]
        simp [ne]
end K02
set_option Elab.async false
set_option linter.all false
set_option maxRecDepth 100000
set_option maxHeartbeats 1000000
namespace K02
open PySem PySem.Spec PyProof.Rows L2 F2
def Closed (pre : List Row) : Prop := ∀ q ∈ pre, ∀ s ∈ q.2, s ∈ pre.map (·.1)
theorem RW.re {n : Nat} {H h : Hh} {pre : List Row} {r r' : Row} (w : RW n H pre r 0 h) : RW n H pre r' 0 h :=
  ⟨w.old, w.s, w.c, w.len, fun j q e => by have z := w.cell j q e; simpa using z⟩
theorem loop_in {n : Nat} {H h : Hh} {pre : List Row} {r : Row} (w : RW n H pre r 0 h) (hn : (pre.map (·.1)).Nodup) (hz : pre.length < 500) (hd : r.2.Nodup) (hm : ∀ s ∈ r.2, s ∈ pre.map (·.1)) (x0 x1 x3 x6 : Option A) :
    ∃ x6' h', mFor (srcQ (mVar 5)) (gN 6) b_in [x0, x1, some (.ref (n + 1)), x3, some (.d (.str r.1)), some (.d (LS r.2)), x6] h = some (.nx [x0, x1, some (.ref (n + 1)), x3, some (.d (.str r.1)), some (.d (LS r.2)), x6'] h') ∧ RW n H pre r r.2.length h' := by
  obtain ⟨s, e1, e2, e3⟩ := sq_src (b := false) (xs := r.2) (m := mVar 5) (ρ := [x0, x1, some (.ref (n + 1)), x3, some (.d (.str r.1)), some (.d (LS r.2)), x6]) (h := h) (h1 := h) rfl
  obtain ⟨ρ', h', e4, x6', e5, e6⟩ := for_items (items := LA r.2) (g := gN 6) (b := b_in) (I := fun i ρ h => ∃ x6 : Option A, ρ = [x0, x1, some (.ref (n + 1)), x3, some (.d (.str r.1)), some (.d (LS r.2)), x6] ∧ RW n H pre r i h) e3 e2 e1
    (fun i ρ h hi ⟨x6, e5, e6⟩ => by
      subst e5
      have hi' : i < r.2.length := by rw [LA_len] at hi; exact hi
      have gi : (LA r.2)[i] = .d (.str r.2[i]) := by simp [LA]
      obtain ⟨h', e7, e8⟩ := in_turn e6 hn hz hd (List.getElem?_eq_getElem hi') (hm _ (List.getElem_mem hi')) x0 x1 x3 (some (.d (LS r.2)))
      exact ⟨_, h', by rw [gi]; exact e7, _, rfl, e8⟩) ⟨x6, rfl, w⟩
  subst e5
  rw [LA_len] at e6
  exact ⟨x6', h', e4, e6⟩
def b_test : SI := (mIfS (mOrT (mNotT (mTru (mCall 2 fn_is_new_name (mCons (mVar 4) (mCons (mVar 2) mNil))))) (mNotT (mTru (mCall 2 fn_may_be_chosen (mCons (mVar 5) (mCons (mVar 2) mNil)))))) (mRet (mC .non)) mSkip)
def b_split : SI := (mAsg (mMet "str" (fSplit false) (mVar 3) (mCons (mC (.str " ")) mNil)) (gStar1 (gN 4) (gN 5)))
def b_row : SI := mSeq b_split (mSeq b_test (mSeq (mFor (srcQ (mVar 5)) (gN 6) b_in) (mSeq (mAsg (mVar 5) (F2.gSub (mVar 1) (mVar 4))) (mAsg (mOn (mkL true) mNil) (F2.gSub (mVar 2) (mVar 4))))))
theorem LS_app (x : Str) (xs : List Str) : itemsL (.d (LS (x :: xs))) = fun _ => some (.d (.str x) :: LA xs) := by
  funext h
  show some (((x :: xs).map D.str).map A.d) = _
  simp [LA, List.map_map]
theorem split_ok {r : Row} (hs : Small r) (h1 : 32 ∉ TL.tl r.1) (h2 : ∀ s ∈ r.2, 32 ∉ TL.tl s) (x0 x1 x2 x4 x5 x6 : Option A) (h : Hh) :
    b_split [x0, x1, x2, some (.d (.str (rowText r))), x4, x5, x6] h = some (.nx [x0, x1, x2, some (.d (.str (rowText r))), some (.d (.str r.1)), some (.d (LS r.2)), x6] h) := by
  have lv := LIMv
  have l26 := rowText_len hs
  have l2 := hs.l
  have e1 : fSplit false (.d (.str (rowText r))) [.d (.str " ")] h = some (.d (LS (r.1 :: r.2)), h) := by
    unfold fSplit
    dsimp only
    rw [if_pos ⟨by decide, by omega⟩, split_row h1 h2]
    have z := mkL_data (xs := (r.1 :: r.2).map D.str) (h := h) (by rw [List.length_map, List.length_cons]; omega)
    rw [List.map_map] at z
    exact z
  have e2 : mMet "str" (fSplit false) (mVar 3) (mCons (mC (.str " ")) mNil) [x0, x1, x2, some (.d (.str (rowText r))), x4, x5, x6] h = some (.d (LS (r.1 :: r.2)), h) :=
    (met_of (T := "str") (F := fSplit false) (show mVar 3 [x0, x1, x2, some (.d (.str (rowText r))), x4, x5, x6] h = some (.d (.str (rowText r)), h) from rfl) rfl (show mCons (mC (.str " ")) mNil [x0, x1, x2, some (.d (.str (rowText r))), x4, x5, x6] h = some ([.d (.str " ")], h) from rfl)).trans e1
  unfold b_split mAsg
  rw [e2]
  dsimp only
  unfold gStar1
  rw [LS_app]
  dsimp only
  have e3 : mkL false (LA r.2) h = some (.d (LS r.2), h) := by
    have z := mkL_data (xs := r.2.map D.str) (h := h) (by rw [List.length_map]; omega)
    rw [List.map_map] at z
    exact z
  rw [if_pos (by rw [LA_len]; omega)]
  dsimp only [gN]
  rw [e3]
  rfl
theorem test_ok {n : Nat} {H h : Hh} {pre : List Row} {r r' : Row} (w : RW n H pre r' 0 h) (hn : (pre.map (·.1)).Nodup) (hz : pre.length < 500) (f : Fit pre r) (x0 x1 x3 x6 : Option A) :
    b_test [x0, x1, some (.ref (n + 1)), x3, some (.d (.str r.1)), some (.d (LS r.2)), x6] h = some (.nx [x0, x1, some (.ref (n + 1)), x3, some (.d (.str r.1)), some (.d (LS r.2)), x6] h) := by
  have ht : F2.tabOf (.ref (n + 1)) h = some (.k (tabL (cpyK n pre))) := by simp [F2.tabOf, w.c]
  have l8 := f.small.n
  have i1 : (isName r.1 && !decide (r.1 ∈ (cpyK n pre).map (·.1))) = true := by
    rw [f.name, cpy_names, decide_eq_false f.new]; rfl
  have e1 := (call_of (n := 2) (F := fn_is_new_name) (show mCons (mVar 4) (mCons (mVar 2) mNil) [x0, x1, some (.ref (n + 1)), x3, some (.d (.str r.1)), some (.d (LS r.2)), x6] h = some ([.d (.str r.1), .ref (n + 1)], h) from rfl) rfl).trans (is_new_eq (by omega) ht)
  rw [i1] at e1
  have hs : ∀ s ∈ r.2, s ∈ pre.map (·.1) := fun s hs => by
    have z := f.src
    split at z
    · rw [z] at hs; cases hs
    · exact (ok_mem z).1 s hs
  have hc : ∀ s ∈ r.2, ∃ c, Cnt h (cpyK n pre) s c ∧ c ≠ 2 := fun s hsm => by
    obtain ⟨q, hq, hqs⟩ := List.mem_map.mp (hs s hsm)
    obtain ⟨j, hj⟩ := List.mem_iff_getElem?.mp hq
    have e2 := look_at (ks := cpyK n pre) (by rw [cpy_names]; exact hn) (cpy_at hj)
    have c0 := w.cell j q hj
    have c1 : h[n + 2 + j]? = some (.lst (LA (copiesOf pre s))) := by rw [c0, hqs]; simp
    refine ⟨((copiesOf pre s).length : Int), ⟨.ref (n + 2 + j), by rw [← hqs]; exact e2, ?_⟩, ?_⟩
    · have z := len_eq c1
      rw [LA_len] at z
      exact z
    · have z := f.room s hsm
      omega
  have e3 := (call_of (n := 2) (F := fn_may_be_chosen) (show mCons (mVar 5) (mCons (mVar 2) mNil) [x0, x1, some (.ref (n + 1)), x3, some (.d (.str r.1)), some (.d (LS r.2)), x6] h = some ([.d (LS r.2), .ref (n + 1)], h) from rfl) rfl).trans (may_eq w.c f.ok (by
    rw [cpy_names]
    have z := f.src
    by_cases hp : pre = []
    · rw [if_pos hp] at z
      rw [if_pos (by rw [hp]; rfl)]
      exact z
    · rw [if_neg hp] at z
      rw [if_neg (fun y => hp (by
        have y2 := congrArg List.length y
        unfold cpyK at y2
        rw [List.length_mapIdx] at y2
        exact List.length_eq_zero_iff.mp y2))]
      exact z) hc)
  unfold b_test mIfS mOrT mNotT mTru
  rw [e1]
  simp [truthA, e3, mSkip]
end K02
set_option Elab.async false
set_option linter.all false
set_option maxRecDepth 100000
set_option maxHeartbeats 1000000
namespace K02
open PySem PySem.Spec PyProof.Rows L2 F2
theorem put_eq {h : Hh} {l : Nat} {ks : List (Str × A)} {x : Str} {v : A} (hl : h[l]? = some (.dK (tabL ks))) (hz : ks.length < 1000) (hx : x ∉ ks.map (·.1)) : stF (.ref l) (.d (.str x)) v h = some (h.set l (.dK (tabL (ks ++ [(x, v)])))) := by
  have lv := LIMv
  unfold stF
  dsimp only
  rw [hl]
  dsimp only
  have e : keyOf (.str x) = some (.inr x) := rfl
  rw [e]
  dsimp only
  rw [if_pos (by unfold tabL; rw [List.length_map]; omega), put_new hx]
theorem asg_sub {m mo mi : EI} {ρ : En} {h h1 h2 h3 h4 : Hh} {v o i : A} (e1 : m ρ h = some (v, h1)) (e2 : mo ρ h1 = some (o, h2)) (e3 : mi ρ h2 = some (i, h3)) (e4 : stF o i v h3 = some h4) : mAsg m (F2.gSub mo mi) ρ h = some (.nx ρ h4) := by
  unfold mAsg
  rw [e1]
  dsimp only
  unfold F2.gSub
  rw [e2]
  dsimp only
  rw [e3]
  dsimp only
  rw [e4]
  rfl
theorem src_names (pre : List Row) : (srcKs pre).map (·.1) = pre.map (·.1) := by
  unfold srcKs
  rw [List.map_map]
  rfl
theorem cpy_snoc (n : Nat) (pre : List Row) (r : Row) : cpyK n pre ++ [(r.1, .ref (n + 2 + pre.length))] = cpyK n (pre ++ [r]) := by
  unfold cpyK
  rw [List.mapIdx_append]
  simp
theorem none_copies {pre : List Row} {x : Str} (h : ∀ q ∈ pre, x ∉ q.2) : copiesOf pre x = [] := by
  unfold copiesOf
  rw [List.map_eq_nil_iff, List.filter_eq_nil_iff]
  intro q hq
  simp [h q hq]
theorem row_turn {n : Nat} {H h : Hh} {pre : List Row} {r r' : Row} (w : RW n H pre r' 0 h) (hn : (pre.map (·.1)).Nodup) (hz : pre.length < 500) (hcl : Closed pre) (f : Fit pre r) (x0 x4 x5 x6 : Option A) :
    ∃ x6' h', b_row [x0, some (.ref n), some (.ref (n + 1)), some (.d (.str (rowText r))), x4, x5, x6] h = some (.nx [x0, some (.ref n), some (.ref (n + 1)), some (.d (.str (rowText r))), some (.d (.str r.1)), some (.d (LS r.2)), x6'] h') ∧ RW n H (pre ++ [r]) r 0 h' := by
  have hs : (∀ s ∈ r.2, s ∈ pre.map (·.1)) ∧ r.2.Nodup := by
    have z := f.src
    split at z
    · rw [z]; exact ⟨fun s hs => (by cases hs), List.nodup_nil⟩
    · exact ok_mem z
  have s1 := split_ok f.small f.gapN f.gapS x0 (some (.ref n)) (some (.ref (n + 1))) x4 x5 x6 h
  have s2 := test_ok (r := r) w hn hz f x0 (some (.ref n)) (some (.d (.str (rowText r)))) x6
  obtain ⟨x6', h2, s3, w2⟩ := loop_in (r := r) (w.re) hn hz hs.2 hs.1 x0 (some (.ref n)) (some (.d (.str (rowText r)))) x6
  let ρ : En := [x0, some (.ref n), some (.ref (n + 1)), some (.d (.str (rowText r))), some (.d (.str r.1)), some (.d (LS r.2)), x6']
  have hlen := w2.len
  have p1 := put_eq (v := .d (LS r.2)) w2.s (by unfold srcKs; rw [List.length_map]; omega) (by rw [src_names]; exact f.new)
  have s4 : mAsg (mVar 5) (F2.gSub (mVar 1) (mVar 4)) ρ h2 = some (.nx ρ (h2.set n (.dK (tabL (srcKs pre ++ [(r.1, .d (LS r.2))]))))) := asg_sub (show mVar 5 ρ h2 = some (.d (LS r.2), h2) from rfl) (show mVar 1 ρ h2 = some (.ref n, h2) from rfl) (show mVar 4 ρ h2 = some (.d (.str r.1), h2) from rfl) p1
  let h3 : Hh := h2.set n (.dK (tabL (srcKs pre ++ [(r.1, .d (LS r.2))])))
  have l3 : h3.length = n + 2 + pre.length := by simp only [h3, List.length_set]; exact hlen
  have c3 : (h3 ++ [O.lst []])[n + 1]? = some (.dK (tabL (cpyK n pre))) := by
    rw [List.getElem?_append_left (by omega)]
    simp only [h3]
    rw [List.getElem?_set_ne (by omega)]
    exact w2.c
  have p2 := put_eq (v := .ref (n + 2 + pre.length)) c3 (by unfold cpyK; rw [List.length_mapIdx]; omega) (by rw [cpy_names]; exact f.new)
  have nc := nil_cell ρ h3
  rw [l3] at nc
  have s5 : mAsg (mOn (mkL true) mNil) (F2.gSub (mVar 2) (mVar 4)) ρ h3 = some (.nx ρ ((h3 ++ [O.lst []]).set (n + 1) (.dK (tabL (cpyK n pre ++ [(r.1, .ref (n + 2 + pre.length))]))))) := asg_sub nc (show mVar 2 ρ (h3 ++ [O.lst []]) = some (.ref (n + 1), h3 ++ [O.lst []]) from rfl) (show mVar 4 ρ (h3 ++ [O.lst []]) = some (.d (.str r.1), h3 ++ [O.lst []]) from rfl) p2
  refine ⟨x6', _, (seq_nx s1).trans ((seq_nx s2).trans ((seq_nx s3).trans ((seq_nx s4).trans s5))), ?_⟩
  have g3 : ∀ j, j ≠ n → j < n + 2 + pre.length → (h3 ++ [O.lst []])[j]? = h2[j]? := fun j j1 j2 => by
    rw [List.getElem?_append_left (by omega)]
    simp only [h3]
    rw [List.getElem?_set_ne (Ne.symm j1)]
  refine ⟨fun j hj => ?_, ?_, ?_, ?_, fun j q hq => ?_⟩
  · rw [List.getElem?_set_ne (by omega), g3 j (by omega) (by omega)]
    exact w2.old j hj
  · rw [List.getElem?_set_ne (by omega), List.getElem?_append_left (by omega)]
    simp only [h3]
    rw [List.getElem?_set_self (by omega)]
    unfold srcKs
    rw [List.map_append]
    rfl
  · rw [List.getElem?_set_self (by rw [List.length_append]; omega), cpy_snoc]
  · rw [List.length_set, List.length_append, List.length_append, l3]
    simp
    omega
  · rw [List.take_zero, if_neg (by simp), List.append_nil, copies_snoc]
    by_cases hj : j < pre.length
    · rw [List.getElem?_append_left hj] at hq
      have z := w2.cell j q hq
      rw [List.take_length] at z
      rw [List.getElem?_set_ne (by omega), g3 (n + 2 + j) (by omega) (by omega)]
      exact z
    · have hjl : j = pre.length := by
        have := (List.getElem?_eq_some_iff.mp hq).1
        rw [List.length_append] at this
        simp at this
        omega
      subst hjl
      rw [List.getElem?_append_right (Nat.le_refl _), Nat.sub_self] at hq
      simp at hq
      subst hq
      have nin : r.1 ∉ r.2 := fun z => f.new (hs.1 _ z)
      rw [if_neg nin, List.append_nil, none_copies fun q hq z => f.new (hcl q hq _ z)]
      rw [List.getElem?_set_ne (by omega), List.getElem?_append_right (by omega), l3, Nat.sub_self]
      rfl
end K02
set_option Elab.async false
set_option linter.all false
set_option maxRecDepth 100000
set_option maxHeartbeats 1000000
namespace K02
open PySem PySem.Spec PyProof.Rows L2 F2
theorem Fits.at {pre rest : List Row} (h : Fits pre rest) : ∀ {i : Nat} {r : Row}, rest[i]? = some r → Fit (pre ++ rest.take i) r := by
  induction h with
  | nil => intro i r e; simp at e
  | cons h t ih =>
    intro i r e
    cases i with
    | zero => simp at e; subst e; simpa using h
    | succ i =>
      have z := ih (i := i) (r := r) (by simpa using e)
      simpa using z
theorem Fit.srcs {pre : List Row} {r : Row} (f : Fit pre r) : ∀ s ∈ r.2, s ∈ pre.map (·.1) := by
  have z := f.src
  split at z
  · rw [z]; exact fun s hs => by cases hs
  · exact (ok_mem z).1
theorem Fits.good {pre rest : List Row} (h : Fits pre rest) : (pre.map (·.1)).Nodup → Closed pre → ((pre ++ rest).map (·.1)).Nodup ∧ Closed (pre ++ rest) := by
  induction h with
  | nil => intro h1 h2; simpa using ⟨h1, h2⟩
  | @cons pre r rest f t ih =>
    intro h1 h2
    have g1 : ((pre ++ [r]).map (·.1)).Nodup := by
      rw [List.map_append, List.nodup_append]
      refine ⟨h1, by simp, fun a ha b hb => ?_⟩
      simp at hb
      subst hb
      exact fun z => f.new (z ▸ ha)
    have g2 : Closed (pre ++ [r]) := fun q hq s hs => by
      rw [List.map_append, List.mem_append]
      rcases List.mem_append.mp hq with z | z
      · exact .inl (h2 q z s hs)
      · simp at z
        subst z
        exact .inl (f.srcs s hs)
    have z := ih g1 g2
    rw [List.append_assoc] at z
    exact z
theorem Fits.take {pre rest : List Row} (h : Fits pre rest) : ∀ i, Fits pre (rest.take i) := by
  induction h with
  | nil => intro i; simp; exact .nil
  | cons f t ih =>
    intro i
    cases i with
    | zero => exact .nil
    | succ i => exact .cons f (ih i)
def b_max : SI := (mIfS (mBl (mBin fGt (mOn (orC fLen fLenD) (mCons (mVar 1) mNil)) (mC (.int 40)))) (mRet (mC .non)) mSkip)
def b_str : SI := (mIfS (mNotT (mTru (mIsi "str" (mVar 0)))) (mRet (mC .non)) mSkip)
def e_parts : EI := (mMet "str" (fSplit false) (mVar 0) (mCons (mC (.str "; ")) mNil))
theorem lenD_eq {h : Hh} {l : Nat} {kvs : List (Key × A)} (hl : h[l]? = some (.dK kvs)) : orC fLen fLenD [.ref l] h = some (.d (.int kvs.length), h) := by
  simp [orC, fLen, itemsL, hl, fLenD]
theorem said_len {rows : List Row} (hs : ∀ r ∈ rows, Small r) (hz : rows.length ≤ 40) : (said rows).length ≤ 2000 := by
  unfold said
  rw [join_len]
  have h1 := sum_le (xs := rows.map rowText) (b := 26) (fun x hx => by
    obtain ⟨r, hr, rfl⟩ := List.mem_map.mp hx
    exact rowText_len (hs r hr))
  have e : ("; " : Str).length = 2 := rfl
  rw [List.length_map] at h1 ⊢
  rw [e]
  omega
theorem Fits.mem {rows : List Row} (h : Fits [] rows) {r : Row} (hr : r ∈ rows) : ∃ pre, Fit pre r := by
  obtain ⟨i, hi⟩ := List.mem_iff_getElem?.mp hr
  exact ⟨_, h.at hi⟩
theorem read_eq {rows : List Row} (hv : Fits [] rows) (hne : rows ≠ []) (hz : rows.length ≤ 40) (H : Hh) (r0 : Row) :
    ∃ h', fn_read_web [.d (.str (said rows))] H = some (.tp [.ref H.length, .ref (H.length + 1)], h') ∧ RW H.length H rows r0 0 h' := by
  have hsm : ∀ r ∈ rows, Small r := fun r hr => (hv.mem hr).choose_spec.small
  have hse : ∀ r ∈ rows, 59 ∉ TL.tl (rowText r) := fun r hr => (hv.mem hr).choose_spec.semi
  let n := H.length
  let h0 : Hh := H ++ [.dK []] ++ [.dK []]
  have z : fn_read_web [.d (.str (said rows))] H = finP H.length (m_read_web [some (.d (.str (said rows))), none, none, none, none, none, none] H) := mkFn_eq rfl
  have d1 : m_read_web = mSeq b_str (mSeq (mAsg (mDnewK true) (gN 1)) (mSeq (mAsg (mDnewK true) (gN 2)) (mSeq (mFor (srcQ e_parts) (gN 3) b_row) (mSeq b_max (mRet (mOn mkT (mCons (mVar 1) (mCons (mVar 2) mNil)))))))) := rfl
  have s1 : b_str [some (.d (.str (said rows))), none, none, none, none, none, none] H = some (.nx [some (.d (.str (said rows))), none, none, none, none, none, none] H) := rfl
  have s2 : mAsg (mDnewK true) (gN 1) [some (.d (.str (said rows))), none, none, none, none, none, none] H = some (.nx [some (.d (.str (said rows))), some (.ref n), none, none, none, none, none] (H ++ [.dK []])) := rfl
  have s3 : mAsg (mDnewK true) (gN 2) [some (.d (.str (said rows))), some (.ref n), none, none, none, none, none] (H ++ [.dK []]) = some (.nx [some (.d (.str (said rows))), some (.ref n), some (.ref (n + 1)), none, none, none, none] h0) := by
    have e : mAsg (mDnewK true) (gN 2) [some (.d (.str (said rows))), some (.ref n), none, none, none, none, none] (H ++ [.dK []]) = some (.nx [some (.d (.str (said rows))), some (.ref n), some (.ref (H ++ [O.dK []]).length), none, none, none, none] h0) := rfl
    rw [e, List.length_append]
    rfl
  have w0 : RW n H [] r0 0 h0 := ⟨fun j hj => by simp only [h0]; rw [List.append_assoc, List.getElem?_append_left hj], by simp [h0, n, tabL, srcKs], by
    simp only [h0]
    rw [List.getElem?_append_right (by simp [n])]
    simp [n, tabL, cpyK], by simp [h0, n], fun j q e => by simp at e⟩
  have p1 : e_parts [some (.d (.str (said rows))), some (.ref n), some (.ref (n + 1)), none, none, none, none] h0 = some (.d (LS (rows.map rowText)), h0) := by
    have lv := LIMv
    have ls := said_len hsm hz
    have e1 : fSplit false (.d (.str (said rows))) [.d (.str "; ")] h0 = some (.d (LS (rows.map rowText)), h0) := by
      have lim : (said rows).length + 2 ≤ LIM := by show (said rows).length + 2 ≤ 1000000; omega
      unfold fSplit
      dsimp only
      rw [if_pos ⟨by decide, lim⟩, split_said hne hse]
      have z := mkL_data (xs := (rows.map rowText).map D.str) (h := h0) (by rw [List.length_map, List.length_map]; omega)
      rw [List.map_map] at z
      exact z
    exact (met_of (T := "str") (F := fSplit false) (show mVar 0 [some (.d (.str (said rows))), some (.ref n), some (.ref (n + 1)), none, none, none, none] h0 = some (.d (.str (said rows)), h0) from rfl) rfl (show mCons (mC (.str "; ")) mNil [some (.d (.str (said rows))), some (.ref n), some (.ref (n + 1)), none, none, none, none] h0 = some ([.d (.str "; ")], h0) from rfl)).trans e1
  obtain ⟨s, e1, e2, e3⟩ := sq_src (b := false) (xs := rows.map rowText) p1
  obtain ⟨ρ', h', e4, x3, x4, x5, x6, e5, w⟩ := for_items (items := LA (rows.map rowText)) (g := gN 3) (b := b_row) (I := fun i ρ h => ∃ x3 x4 x5 x6 : Option A, ρ = [some (.d (.str (said rows))), some (.ref n), some (.ref (n + 1)), x3, x4, x5, x6] ∧ RW n H (rows.take i) r0 0 h) e3 e2 e1
    (fun i ρ h hi ⟨x3, x4, x5, x6, e5, w⟩ => by
      subst e5
      have hi' : i < rows.length := by rw [LA_len, List.length_map] at hi; exact hi
      have gi : (LA (rows.map rowText))[i] = .d (.str (rowText rows[i])) := by simp [LA]
      have f := hv.at (List.getElem?_eq_getElem hi')
      rw [List.nil_append] at f
      have g := (hv.take i).good (by simp) (fun q hq => by cases hq)
      rw [List.nil_append] at g
      obtain ⟨x6', h', e6, w'⟩ := row_turn w g.1 (by rw [List.length_take]; omega) g.2 f (some (.d (.str (said rows)))) x4 x5 x6
      refine ⟨_, h', by rw [gi]; exact e6, _, _, _, _, rfl, ?_⟩
      rw [List.take_succ, List.getElem?_eq_getElem hi']
      exact w'.re) ⟨none, none, none, none, rfl, by rw [List.take_zero]; exact w0⟩
  subst e5
  have ln : (LA (rows.map rowText)).length = rows.length := by rw [LA_len, List.length_map]
  rw [ln, List.take_length] at w
  have s5 : b_max [some (.d (.str (said rows))), some (.ref n), some (.ref (n + 1)), x3, x4, x5, x6] h' = some (.nx [some (.d (.str (said rows))), some (.ref n), some (.ref (n + 1)), x3, x4, x5, x6] h') := by
    have ll := lenD_eq w.s
    have l2 : ((tabL (srcKs rows)).length : Int) = (rows.length : Int) := by simp [tabL, srcKs]
    rw [l2] at ll
    have q := (on_of (F := orC fLen fLenD) (show mCons (mVar 1) mNil [some (.d (.str (said rows))), some (.ref n), some (.ref (n + 1)), x3, x4, x5, x6] h' = some ([.ref n], h') from rfl)).trans ll
    have ng : ¬ (40 : Int) < (rows.length : Int) := by omega
    have gt : fGt (.d (.int (rows.length : Int))) (.d (.int 40)) h' = some (.d (.bl false), h') := by
      show some (A.d (.bl (decide ((40 : Int) < (rows.length : Int)))), h') = _
      rw [decide_eq_false ng]
    unfold b_max mIfS mBl
    rw [bin_of q (show mC (.int 40) [some (.d (.str (said rows))), some (.ref n), some (.ref (n + 1)), x3, x4, x5, x6] h' = some (.d (.int 40), h') from rfl), gt]
    rfl
  refine ⟨h', ?_, w⟩
  rw [z, d1, seq_nx s1, seq_nx s2, seq_nx s3, seq_nx e4, seq_nx s5]
  show some (cut n (.tp [.ref n, .ref (n + 1)]) h') = _
  have c : cut n (.tp [.ref n, .ref (n + 1)]) h' = (.tp [.ref n, .ref (n + 1)], h') := by
    unfold cut
    have z : low n (.tp [.ref n, .ref (n + 1)]) = false := by simp [low, lows]
    rw [z]
    rfl
  rw [c]
end K02
set_option Elab.async false
set_option linter.all false
set_option maxRecDepth 100000
set_option maxHeartbeats 1000000
namespace K02
open PySem PySem.Spec PyProof.Rows L2 F2
/-! ### a dict made over names, its values data -/
def tabD (val : Str → D) (xs : List Str) : List (Str × A) := xs.map fun x => (x, .d (val x))
def dictD (val : Str → D) (xs : List Str) : List (Key × D) := xs.map fun x => (.inr x, val x)
theorem tabD_names (val : Str → D) (xs : List Str) : (tabD val xs).map (·.1) = xs := by
  unfold tabD
  rw [List.map_map]
  exact List.map_id _
theorem allK_tab (val : Str → D) : ∀ xs : List Str, allK (tabL (tabD val xs)) = some (dictD val xs)
  | [] => rfl
  | x :: xs => by
    show (allK (tabL (tabD val xs))).map ((.inr x, val x) :: ·) = _
    rw [allK_tab val xs]
    rfl
theorem dc_go {names : List Str} {s : Src} {V : EI} {val : Str → D} {ρ : En} {h : Hh} {i5 : Nat} (hs : ∀ i h, s.nxt i h = some (LA names)[i]?) (hn : names.Nodup) (hz : names.length < 500) (h5 : ∀ x, mVar i5 (ρ.set i5 (some (.d (.str x)))) h = some (.d (.str x), h))
    (hV : ∀ x ∈ names, V (ρ.set i5 (some (.d (.str x)))) h = some (.d (val x), h)) :
    ∀ (m i : Nat), i + m = names.length → dcGo s (gN i5) mYes (mVar i5) V ρ m i (tabL (tabD val (names.take i))) h = some (tabL (tabD val names), h) := by
  intro m
  induction m with
  | zero =>
    intro i hi
    have e : i = names.length := by omega
    subst e
    unfold dcGo
    rw [hs, List.getElem?_eq_none (by rw [LA_len]; omega), List.take_length]
  | succ m ih =>
    intro i hi
    have hlt : i < names.length := by omega
    have lv := LIMv
    have gi : (LA names)[i]? = some (.d (.str names[i])) := by simp [LA, hlt]
    have hp : putG (tabL (tabD val (names.take i))) (.inr names[i] : Key) (.d (val names[i])) = tabL (tabD val (names.take (i + 1))) := by
      rw [put_new (by
        rw [tabD_names]
        intro z
        obtain ⟨j, hj⟩ := List.mem_iff_getElem?.mp z
        have hji : j < i := by
          have := (List.getElem?_eq_some_iff.mp hj).1
          rw [List.length_take] at this
          omega
        rw [List.getElem?_take_of_lt hji] at hj
        have := (List.getElem?_inj (List.getElem?_eq_some_iff.mp hj).1 hn).mp (hj.trans (List.getElem?_eq_getElem hlt).symm)
        omega)]
      rw [List.take_succ, List.getElem?_eq_getElem hlt]
      unfold tabD
      rw [List.map_append]
      rfl
    unfold dcGo
    rw [hs, gi]
    dsimp only [gN, mYes]
    rw [h5]
    dsimp only
    have ek : keyOf (.str names[i]) = some (.inr names[i]) := rfl
    rw [ek]
    dsimp only
    rw [hV _ (List.getElem_mem hlt)]
    dsimp only
    have lim : (tabL (tabD val (names.take i))).length < LIM := by
      unfold tabL tabD
      rw [List.length_map, List.length_map, List.length_take]
      omega
    rw [if_pos lim, hp]
    exact ih (i + 1) (by omega)
theorem dc_eq {names : List Str} {s : Src} {it : SrcI} {V : EI} {val : Str → D} {ρ : En} {h : Hh} {i5 : Nat} (hit : it ρ h = some (s, h)) (hs : ∀ i h, s.nxt i h = some (LA names)[i]?) (hf : s.fuel = names.length) (hn : names.Nodup) (hz : names.length < 500)
    (h5 : ∀ x, mVar i5 ((wipeE ρ [i5]).set i5 (some (.d (.str x)))) h = some (.d (.str x), h)) (hV : ∀ x ∈ names, V ((wipeE ρ [i5]).set i5 (some (.d (.str x)))) h = some (.d (val x), h)) :
    mDc it (gN i5) mYes (mVar i5) V [i5] ρ h = some (.d (.dK (dictD val names)), h) := by
  have g := dc_go hs hn hz h5 hV names.length 0 (by omega)
  rw [List.take_zero] at g
  unfold mDc
  rw [hit]
  dsimp only
  rw [hf]
  have e0 : tabL (tabD val []) = [] := rfl
  rw [e0] at g
  rw [g]
  dsimp only
  rw [allK_tab]
  rfl
/-- the keys of a locked table -/
theorem keys_src {m : EI} {ρ : En} {h h1 : Hh} {l : Nat} {ks : List (Str × A)} (e : m ρ h = some (.ref l, h1)) (hl : h1[l]? = some (.lK (tabL ks))) : ∃ s, srcK m ρ h = some (s, h1) ∧ s.fuel = (ks.map (·.1)).length ∧ ∀ i h, s.nxt i h = some (LA (ks.map (·.1)))[i]? := by
  refine ⟨⟨keysN (tabL ks), (tabL ks).length⟩, ?_, by simp [tabL], fun i h => ?_⟩
  · unfold srcK
    rw [e]
    dsimp only
    rw [hl]
  · show some (((tabL ks)[i]?).map fun p => A.d (keyD p.1)) = _
    unfold tabL LA
    rw [List.getElem?_map, List.getElem?_map, List.getElem?_map]
    cases ks[i]? <;> rfl
theorem lock_of {i l : Nat} {m : EI} {ρ : En} {h : Hh} {kvs : List (Key × A)} {a : A} (e0 : ρ[i]? = some (some (.ref l))) (e1 : h[l]? = some (.dK kvs)) (e2 : m ρ (h.set l (.lK kvs)) = some (a, h.set l (.lK kvs))) : mLock i m ρ h = some (a, h) := by
  have hlt := (List.getElem?_eq_some_iff.mp e1).1
  unfold mLock
  rw [e0]
  dsimp only
  rw [e1]
  dsimp only
  rw [e2]
  dsimp only
  rw [List.getElem?_set_self hlt]
  dsimp only
  rw [List.set_set]
  have z : h.set l (.dK kvs) = h := by
    apply List.ext_getElem?
    intro j
    by_cases hj : j = l
    · subst hj
      rw [List.getElem?_set_self hlt, e1]
    · rw [List.getElem?_set_ne (Ne.symm hj)]
  rw [z]
end K02
set_option Elab.async false
set_option linter.all false
set_option maxRecDepth 100000
set_option maxHeartbeats 1000000
namespace K02
open PySem PySem.Spec PyProof.Rows L2 F2
theorem mkT_LA {ys : List Str} {h : Hh} (hz : ys.length < 1000) : mkT (LA ys) h = some (.d (.tup (ys.map .str)), h) := by
  have lv := LIMv
  unfold mkT
  rw [if_pos (by rw [LA_len]; omega), allD_LA]
theorem tuple_of {x : A} {ys : List Str} {h : Hh} (e : itemsL x h = some (LA ys)) (hz : ys.length < 1000) : orC fTuple fTupD [x] h = some (.d (.tup (ys.map .str)), h) := by
  unfold orC fTuple
  dsimp only
  rw [e]
  dsimp only
  rw [mkT_LA hz]
/-- the sources of x -/
def sourcesOf (rows : List Row) (x : Str) : List Str := match rows.find? fun r => decide (r.1 = x) with
  | some r => r.2
  | none => []
theorem sources_at : ∀ {rows : List Row}, (rows.map (·.1)).Nodup → ∀ {r : Row}, r ∈ rows → sourcesOf rows r.1 = r.2
  | [], _, r, h => by cases h
  | q :: rows, hn, r, h => by
    rw [List.map_cons, List.nodup_cons] at hn
    rcases List.mem_cons.mp h with rfl | h
    · unfold sourcesOf
      rw [List.find?_cons]
      simp
    · have ne : q.1 ≠ r.1 := fun z => hn.1 (List.mem_map.mpr ⟨r, h, z.symm⟩)
      have ih := sources_at hn.2 h
      unfold sourcesOf at ih ⊢
      rw [List.find?_cons]
      simp only [ne, decide_false]
      exact ih
def V (i : Nat) : EI := (mOn (orC fTuple fTupD) (mCons (mBin fIx (mVar i) (mVar 5)) mNil))
def e_tab (i : Nat) : EI := (mLock i (mDc (srcK (mVar i)) (gN 5) mYes (mVar 5) (V i) [5]))
def srcV (rows : List Row) (x : Str) : D := .tup ((sourcesOf rows x).map .str)
def cpyV (rows : List Row) (x : Str) : D := .tup ((copiesOf rows x).map .str)
abbrev namesOf (rows : List Row) : List Str := rows.map (·.1)
section
variable {n : Nat} {H h : Hh} {rows : List Row} {r0 : Row}
theorem src_ok (w : RW n H rows r0 0 h) (hn : (namesOf rows).Nodup) (hz : rows.length ≤ 40) (hs : ∀ r ∈ rows, r.2.length ≤ 2) (x0 x1 x2 x4 x5 x6 x7 : Option A) :
    e_tab 3 [x0, x1, x2, some (.ref n), x4, x5, x6, x7] h = some (.d (.dK (dictD (srcV rows) (namesOf rows))), h) := by
  have hlt := (List.getElem?_eq_some_iff.mp w.s).1
  have hL : (h.set n (.lK (tabL (srcKs rows))))[n]? = some (.lK (tabL (srcKs rows))) := List.getElem?_set_self hlt
  obtain ⟨s, e1, e2, e3⟩ := keys_src (m := mVar 3) (ρ := [x0, x1, x2, some (.ref n), x4, x5, x6, x7]) (h := h.set n (.lK (tabL (srcKs rows)))) (h1 := h.set n (.lK (tabL (srcKs rows)))) (l := n) rfl hL
  rw [src_names] at e2 e3
  have ht : F2.tabOf (.ref n) (h.set n (.lK (tabL (srcKs rows)))) = some (.k (tabL (srcKs rows))) := by simp only [F2.tabOf, hL]
  refine lock_of (l := n) (kvs := tabL (srcKs rows)) rfl w.s (dc_eq (val := srcV rows) e1 e3 (by rw [e2]) hn (by rw [List.length_map]; omega) (fun x => rfl) fun x hx => ?_)
  obtain ⟨r, hr, rfl⟩ := List.mem_map.mp hx
  obtain ⟨j, hj⟩ := List.mem_iff_getElem?.mp hr
  have e4 := look_at (ks := srcKs rows) (j := j) (k := (r.1, .d (LS r.2))) (by rw [src_names]; exact hn) (by unfold srcKs; rw [List.getElem?_map, hj]; rfl)
  have e5 := at_tab ht e4
  have e6 : orC fTuple fTupD [.d (LS r.2)] (h.set n (.lK (tabL (srcKs rows)))) = some (.d (.tup (r.2.map .str)), h.set n (.lK (tabL (srcKs rows)))) := tuple_of (by
    show some ((r.2.map D.str).map A.d) = _
    rw [List.map_map]; rfl) (by have := hs r hr; omega)
  have a1 : mBin fIx (mVar 3) (mVar 5) [x0, x1, x2, some (.ref n), x4, some (.d (.str r.1)), x6, x7] (h.set n (.lK (tabL (srcKs rows)))) = some (.d (LS r.2), h.set n (.lK (tabL (srcKs rows)))) := (bin_of (show mVar 3 [x0, x1, x2, some (.ref n), x4, some (.d (.str r.1)), x6, x7] _ = some (.ref n, _) from rfl) (show mVar 5 [x0, x1, x2, some (.ref n), x4, some (.d (.str r.1)), x6, x7] _ = some (.d (.str r.1), _) from rfl)).trans e5
  have a2 := (on_of (F := orC fTuple fTupD) (cons_of a1 (show mNil [x0, x1, x2, some (.ref n), x4, some (.d (.str r.1)), x6, x7] _ = some ([], _) from rfl))).trans e6
  unfold srcV
  rw [sources_at hn hr]
  exact a2
theorem cpy_ok (w : RW n H rows r0 0 h) (hn : (namesOf rows).Nodup) (hz : rows.length ≤ 40) (x0 x1 x2 x3 x5 x6 x7 : Option A) :
    e_tab 4 [x0, x1, x2, x3, some (.ref (n + 1)), x5, x6, x7] h = some (.d (.dK (dictD (cpyV rows) (namesOf rows))), h) := by
  have hlt := (List.getElem?_eq_some_iff.mp w.c).1
  have hL : (h.set (n + 1) (.lK (tabL (cpyK n rows))))[n + 1]? = some (.lK (tabL (cpyK n rows))) := List.getElem?_set_self hlt
  obtain ⟨s, e1, e2, e3⟩ := keys_src (m := mVar 4) (ρ := [x0, x1, x2, x3, some (.ref (n + 1)), x5, x6, x7]) (h := h.set (n + 1) (.lK (tabL (cpyK n rows)))) (h1 := h.set (n + 1) (.lK (tabL (cpyK n rows)))) (l := n + 1) rfl hL
  rw [cpy_names] at e2 e3
  have ht : F2.tabOf (.ref (n + 1)) (h.set (n + 1) (.lK (tabL (cpyK n rows)))) = some (.k (tabL (cpyK n rows))) := by simp only [F2.tabOf, hL]
  refine lock_of (l := n + 1) (kvs := tabL (cpyK n rows)) rfl w.c (dc_eq (val := cpyV rows) e1 e3 (by rw [e2]) hn (by rw [List.length_map]; omega) (fun x => rfl) fun x hx => ?_)
  obtain ⟨r, hr, rfl⟩ := List.mem_map.mp hx
  obtain ⟨j, hj⟩ := List.mem_iff_getElem?.mp hr
  have e4 := look_at (ks := cpyK n rows) (by rw [cpy_names]; exact hn) (cpy_at hj)
  have e5 := at_tab ht e4
  have c0 := w.cell j r hj
  rw [List.take_zero, if_neg (by simp), List.append_nil] at c0
  have c1 : (h.set (n + 1) (.lK (tabL (cpyK n rows))))[n + 2 + j]? = some (.lst (LA (copiesOf rows r.1))) := by rw [List.getElem?_set_ne (by omega)]; exact c0
  have e6 : orC fTuple fTupD [.ref (n + 2 + j)] (h.set (n + 1) (.lK (tabL (cpyK n rows)))) = some (.d (.tup ((copiesOf rows r.1).map .str)), h.set (n + 1) (.lK (tabL (cpyK n rows)))) := tuple_of (by simp only [itemsL, c1]) (by have := copies_le (pre := rows) (x := r.1); omega)
  have a1 : mBin fIx (mVar 4) (mVar 5) [x0, x1, x2, x3, some (.ref (n + 1)), some (.d (.str r.1)), x6, x7] (h.set (n + 1) (.lK (tabL (cpyK n rows)))) = some (.ref (n + 2 + j), h.set (n + 1) (.lK (tabL (cpyK n rows)))) := (bin_of (show mVar 4 [x0, x1, x2, x3, some (.ref (n + 1)), some (.d (.str r.1)), x6, x7] _ = some (.ref (n + 1), _) from rfl) (show mVar 5 [x0, x1, x2, x3, some (.ref (n + 1)), some (.d (.str r.1)), x6, x7] _ = some (.d (.str r.1), _) from rfl)).trans e5
  exact (on_of (F := orC fTuple fTupD) (cons_of a1 (show mNil [x0, x1, x2, x3, some (.ref (n + 1)), some (.d (.str r.1)), x6, x7] _ = some ([], _) from rfl))).trans e6
theorem names_ok (w : RW n H rows r0 0 h) (hz : rows.length ≤ 40) (x0 x1 x2 x4 x5 x6 x7 : Option A) :
    mOn (orC fTuple fTupD) (mCons (mVar 3) mNil) [x0, x1, x2, some (.ref n), x4, x5, x6, x7] h = some (.d (.tupN ((namesOf rows).map .str)), h) := by
  have lv := LIMv
  refine (on_of (show mCons (mVar 3) mNil [x0, x1, x2, some (.ref n), x4, x5, x6, x7] h = some ([.ref n], h) from rfl)).trans ?_
  have i1 : itemsL (.ref n) h = none := by simp only [itemsL, w.s]
  unfold orC fTuple fTupD
  dsimp only
  rw [i1]
  dsimp only
  rw [w.s]
  dsimp only
  rw [if_pos (by unfold tabL srcKs; rw [List.length_map, List.length_map]; omega)]
  have e : (tabL (srcKs rows)).map (fun p => keyD p.1) = (namesOf rows).map D.str := by
    unfold tabL srcKs
    rw [List.map_map, List.map_map, List.map_map]
    rfl
  rw [e]
end
end K02
set_option Elab.async false
set_option linter.all false
set_option maxRecDepth 100000
set_option maxHeartbeats 1000000
namespace K02
open PySem PySem.Spec PyProof.Rows L2 F2
def isEnd (rows : List Row) (x : Str) : Bool := (copiesOf rows x).isEmpty
def endsOf (rows : List Row) : List Str := (namesOf rows).filter (isEnd rows)
def linesOf (rows : List Row) : List (Str × Str) := rows.flatMap fun r => r.2.map fun s => (s, r.1)
def pairD (p : Str × Str) : D := .tup [.str p.1, .str p.2]
def e_ends : EI := (mOn (orC fTuple fTupD) (mCons (mLock 4 (mLc false (srcK (mVar 4)) (gN 5) (mNotT (mTru (mBin fIx (mVar 4) (mVar 5)))) (mVar 5) [5])) mNil))
theorem take_snoc {α : Type} {xs : List α} {i : Nat} (h : i < xs.length) : xs.take (i + 1) = xs.take i ++ [xs[i]] := by
  rw [List.take_succ, List.getElem?_eq_getElem h]
  rfl
section
variable {n : Nat} {H h : Hh} {rows : List Row} {r0 : Row}
theorem ends_ok (w : RW n H rows r0 0 h) (hn : (namesOf rows).Nodup) (hz : rows.length ≤ 40) (x0 x1 x2 x3 x5 x6 x7 : Option A) :
    e_ends [x0, x1, x2, x3, some (.ref (n + 1)), x5, x6, x7] h = some (.d (.tup ((endsOf rows).map .str)), h) := by
  have hlt := (List.getElem?_eq_some_iff.mp w.c).1
  let hL : Hh := h.set (n + 1) (.lK (tabL (cpyK n rows)))
  have hL1 : hL[n + 1]? = some (.lK (tabL (cpyK n rows))) := List.getElem?_set_self hlt
  obtain ⟨s, e1, e2, e3⟩ := keys_src (m := mVar 4) (ρ := [x0, x1, x2, x3, some (.ref (n + 1)), x5, x6, x7]) (h := hL) (h1 := hL) (l := n + 1) rfl hL1
  rw [cpy_names] at e2 e3
  have ht : F2.tabOf (.ref (n + 1)) hL = some (.k (tabL (cpyK n rows))) := by simp only [F2.tabOf, hL1]
  obtain ⟨acc, H', ⟨ea, eh⟩, e4⟩ := lc_items (items := LA (namesOf rows)) (g := gN 5) (t := mNotT (mTru (mBin fIx (mVar 4) (mVar 5)))) (m := mVar 5) (vs := [5]) (I := fun i acc h => acc = LA (((namesOf rows).take i).filter (isEnd rows)) ∧ h = hL) e3 (by rw [e2, LA_len]) e1
    (fun i acc h' hi ⟨ea, eh⟩ => by
      subst eh
      have hi' : i < rows.length := by rw [LA_len, List.length_map] at hi; exact hi
      have hi2 : i < (namesOf rows).length := by rw [List.length_map]; exact hi'
      have gi : (LA (namesOf rows))[i] = .d (.str rows[i].1) := by simp [LA]
      have ni : (namesOf rows)[i] = rows[i].1 := by simp
      have e5 := at_tab ht (look_at (ks := cpyK n rows) (by rw [cpy_names]; exact hn) (cpy_at (List.getElem?_eq_getElem hi')))
      have c0 := w.cell i rows[i] (List.getElem?_eq_getElem hi')
      rw [List.take_zero, if_neg (by simp), List.append_nil] at c0
      have c1 : hL[n + 2 + i]? = some (.lst (LA (copiesOf rows rows[i].1))) := by simp only [hL]; rw [List.getElem?_set_ne (by omega)]; exact c0
      have tr : truthA (.ref (n + 2 + i)) hL = some !(isEnd rows rows[i].1) := by
        simp only [truthA, c1, isEnd]
        cases copiesOf rows rows[i].1 <;> rfl
      have a1 : mBin fIx (mVar 4) (mVar 5) [x0, x1, x2, x3, some (.ref (n + 1)), some (.d (.str rows[i].1)), x6, x7] hL = some (.ref (n + 2 + i), hL) := (bin_of (show mVar 4 [x0, x1, x2, x3, some (.ref (n + 1)), some (.d (.str rows[i].1)), x6, x7] hL = some (.ref (n + 1), hL) from rfl) (show mVar 5 [x0, x1, x2, x3, some (.ref (n + 1)), some (.d (.str rows[i].1)), x6, x7] hL = some (.d (.str rows[i].1), hL) from rfl)).trans e5
      have t1 : mNotT (mTru (mBin fIx (mVar 4) (mVar 5))) [x0, x1, x2, x3, some (.ref (n + 1)), some (.d (.str rows[i].1)), x6, x7] hL = some (isEnd rows rows[i].1, hL) := by
        unfold mNotT mTru
        rw [a1]
        dsimp only
        rw [tr]
        simp
      refine ⟨[x0, x1, x2, x3, some (.ref (n + 1)), some (.d (.str rows[i].1)), x6, x7], hL, isEnd rows rows[i].1, hL, by rw [gi]; rfl, t1, fun z => ⟨?_, rfl⟩, fun z => ⟨.d (.str rows[i].1), hL, rfl, ⟨?_, rfl⟩, ?_⟩⟩
      · rw [ea, take_snoc hi2, List.filter_append, ni, List.filter_cons, z]
        simp
      · rw [ea, take_snoc hi2, List.filter_append, ni, List.filter_cons, z, LA_snoc]
        simp
      · rw [ea, LA_len]
        have := List.length_filter_le (isEnd rows) ((namesOf rows).take i)
        rw [List.length_take, List.length_map] at this
        omega) ⟨rfl, rfl⟩
  subst eh
  rw [LA_len, List.take_length] at ea
  have hle : (endsOf rows).length ≤ 40 := by
    unfold endsOf
    have := List.length_filter_le (isEnd rows) (namesOf rows)
    rw [List.length_map] at this
    omega
  have l1 : mLc false (srcK (mVar 4)) (gN 5) (mNotT (mTru (mBin fIx (mVar 4) (mVar 5)))) (mVar 5) [5] [x0, x1, x2, x3, some (.ref (n + 1)), x5, x6, x7] hL = some (.d (LS (endsOf rows)), hL) := by
    rw [e4 false, ea]
    have z := mkL_data (xs := (endsOf rows).map D.str) (h := hL) (by rw [List.length_map]; omega)
    rw [List.map_map] at z
    exact z
  have l2 := lock_of (i := 4) (ρ := [x0, x1, x2, x3, some (.ref (n + 1)), x5, x6, x7]) rfl w.c l1
  refine (on_of (cons_of l2 (show mNil [x0, x1, x2, x3, some (.ref (n + 1)), x5, x6, x7] h = some ([], h) from rfl))).trans (tuple_of (by
    show some (((endsOf rows).map D.str).map A.d) = _
    rw [List.map_map]; rfl) (by omega))
end
end K02
set_option Elab.async false
set_option linter.all false
set_option maxRecDepth 100000
set_option maxHeartbeats 1000000
namespace K02
open PySem PySem.Spec PyProof.Rows L2 F2
theorem lc2_pure {items : List A} {s : Src} {g g1 : GI} {t t1 : TI'} {it1 : SrcI} {m : EI} {vs1 : List Nat} {ρ : En} {h : Hh} (hs : ∀ i h, s.nxt i h = some items[i]?) {F : Nat → List A}
    (step : ∀ (i : Nat) (hi : i < items.length), ∃ ρ1 s1, g items[i] ρ h = some (ρ1, h) ∧ t ρ1 h = some (true, h) ∧ it1 ρ1 h = some (s1, h) ∧ lcGo s1 g1 t1 m (wipeE ρ1 vs1) s1.fuel 0 (F i) h = some (F (i + 1), h)) :
    ∀ (k i : Nat), i + k = items.length → lc2Go s g t it1 g1 t1 m vs1 ρ k i (F i) h = some (F items.length, h) := by
  intro k
  induction k with
  | zero =>
    intro i hi
    have e : i = items.length := by omega
    subst e
    unfold lc2Go
    rw [hs, List.getElem?_eq_none (Nat.le_refl _)]
  | succ k ih =>
    intro i hi
    have hlt : i < items.length := by omega
    obtain ⟨ρ1, s1, e1, e2, e3, e4⟩ := step i hlt
    unfold lc2Go
    rw [hs, List.getElem?_eq_getElem hlt]
    dsimp only
    rw [e1]
    dsimp only
    rw [e2]
    dsimp only
    rw [e3]
    dsimp only
    rw [e4]
    exact ih (i + 1) (by omega)
theorem lines_len {rows : List Row} (h : ∀ r ∈ rows, r.2.length ≤ 2) : (linesOf rows).length ≤ 2 * rows.length := by
  induction rows with
  | nil => simp [linesOf]
  | cons r rows ih =>
    have h1 := h r List.mem_cons_self
    have h2 := ih fun q hq => h q (List.mem_cons_of_mem _ hq)
    unfold linesOf at h2 ⊢
    rw [List.flatMap_cons, List.length_append, List.length_map, List.length_cons]
    omega
def LP (ps : List (Str × Str)) : List A := ps.map fun p => .d (pairD p)
theorem LP_snoc (ps : List (Str × Str)) (p : Str × Str) : LP ps ++ [.d (pairD p)] = LP (ps ++ [p]) := by simp [LP]
theorem pair_eq (a b : Str) (h : Hh) : mkT [.d (.str a), .d (.str b)] h = some (.d (pairD (a, b)), h) := mkT_LA (ys := [a, b]) (by simp)
def e_pair : EI := (mOn mkT (mCons (mVar 7) (mCons (mVar 6) mNil)))
def e_lines : EI := (mOn (orC fTuple fTupD) (mCons (mLock 3 (mLc2 false (srcK (mVar 3)) (gN 6) mYes (srcQ (mBin fIx (mVar 3) (mVar 6))) (gN 7) mYes e_pair [6, 7] [7])) mNil))
section
variable {n : Nat} {H h : Hh} {rows : List Row} {r0 : Row}
theorem lines_ok (w : RW n H rows r0 0 h) (hn : (namesOf rows).Nodup) (hz : rows.length ≤ 40) (hs : ∀ r ∈ rows, r.2.length ≤ 2) (x0 x1 x2 x4 x5 x6 x7 : Option A) :
    e_lines [x0, x1, x2, some (.ref n), x4, x5, x6, x7] h = some (.d (.tup ((linesOf rows).map pairD)), h) := by
  have hlt := (List.getElem?_eq_some_iff.mp w.s).1
  let hL : Hh := h.set n (.lK (tabL (srcKs rows)))
  have hL1 : hL[n]? = some (.lK (tabL (srcKs rows))) := List.getElem?_set_self hlt
  obtain ⟨s, e1, e2, e3⟩ := keys_src (m := mVar 3) (ρ := [x0, x1, x2, some (.ref n), x4, x5, x6, x7]) (h := hL) (h1 := hL) (l := n) rfl hL1
  rw [src_names] at e2 e3
  have ht : F2.tabOf (.ref n) hL = some (.k (tabL (srcKs rows))) := by simp only [F2.tabOf, hL1]
  have go := lc2_pure (items := LA (namesOf rows)) (g := gN 6) (t := mYes) (it1 := srcQ (mBin fIx (mVar 3) (mVar 6))) (g1 := gN 7) (t1 := mYes) (m := e_pair) (vs1 := [7]) (ρ := [x0, x1, x2, some (.ref n), x4, x5, none, none]) (h := hL) e3 (F := fun i => LP (linesOf (rows.take i)))
    (fun i hi => by
      have hi' : i < rows.length := by rw [LA_len, List.length_map] at hi; exact hi
      have gi : (LA (namesOf rows))[i] = .d (.str rows[i].1) := by simp [LA]
      have hm : rows[i] ∈ rows := List.getElem_mem hi'
      have e5 := at_tab ht (look_at (ks := srcKs rows) (j := i) (k := (rows[i].1, .d (LS rows[i].2))) (by rw [src_names]; exact hn) (by unfold srcKs; rw [List.getElem?_map, List.getElem?_eq_getElem hi']; rfl))
      have a1 : mBin fIx (mVar 3) (mVar 6) [x0, x1, x2, some (.ref n), x4, x5, some (.d (.str rows[i].1)), none] hL = some (.d (LS rows[i].2), hL) := (bin_of (show mVar 3 [x0, x1, x2, some (.ref n), x4, x5, some (.d (.str rows[i].1)), none] hL = some (.ref n, hL) from rfl) (show mVar 6 [x0, x1, x2, some (.ref n), x4, x5, some (.d (.str rows[i].1)), none] hL = some (.d (.str rows[i].1), hL) from rfl)).trans e5
      obtain ⟨s1, q1, q2, q3⟩ := sq_src (b := false) (xs := rows[i].2) a1
      have tl := lines_len (rows := rows.take i) (fun q hq => hs q (List.mem_of_mem_take hq))
      rw [List.length_take] at tl
      obtain ⟨acc', H', q4, ea, eh⟩ := lc_go (items := LA rows[i].2) (g := gN 7) (t := mYes) (m := e_pair) (ρ := [x0, x1, x2, some (.ref n), x4, x5, some (.d (.str rows[i].1)), none]) q3 (I := fun k acc H => acc = LP (linesOf (rows.take i) ++ (rows[i].2.take k).map fun s => (s, rows[i].1)) ∧ H = hL)
        (fun k acc H hk ⟨ea, eh⟩ => by
          subst eh
          have hk' : k < rows[i].2.length := by rw [LA_len] at hk; exact hk
          have gk : (LA rows[i].2)[k] = .d (.str rows[i].2[k]) := by simp [LA]
          have z : e_pair [x0, x1, x2, some (.ref n), x4, x5, some (.d (.str rows[i].1)), some (.d (.str rows[i].2[k]))] hL = some (.d (pairD (rows[i].2[k], rows[i].1)), hL) := (on_of (show mCons (mVar 7) (mCons (mVar 6) mNil) [x0, x1, x2, some (.ref n), x4, x5, some (.d (.str rows[i].1)), some (.d (.str rows[i].2[k]))] hL = some ([.d (.str rows[i].2[k]), .d (.str rows[i].1)], hL) from rfl)).trans (pair_eq _ _ _)
          refine ⟨[x0, x1, x2, some (.ref n), x4, x5, some (.d (.str rows[i].1)), some (.d (.str rows[i].2[k]))], hL, true, hL, by rw [gk]; rfl, rfl, (fun z => by cases z), fun _ => ⟨_, hL, z, ⟨?_, rfl⟩, ?_⟩⟩
          · rw [ea, LP_snoc, take_snoc hk', List.map_append, List.append_assoc]
            rfl
          · have := hs _ hm
            rw [ea]
            unfold LP
            rw [List.length_map, List.length_append, List.length_map, List.length_take]
            omega) s1.fuel 0 (LP (linesOf (rows.take i))) hL (by omega) ⟨by simp, rfl⟩
      subst eh
      refine ⟨[x0, x1, x2, some (.ref n), x4, x5, some (.d (.str rows[i].1)), none], s1, by rw [gi]; rfl, rfl, q1, ?_⟩
      refine q4.trans ?_
      rw [ea, LA_len, List.take_length, take_snoc hi']
      unfold linesOf
      rw [List.flatMap_append]
      simp) (LA (namesOf rows)).length 0 (by omega)
  have ln : (LA (namesOf rows)).length = rows.length := by rw [LA_len, List.length_map]
  have ll := lines_len hs
  have l1 : mLc2 false (srcK (mVar 3)) (gN 6) mYes (srcQ (mBin fIx (mVar 3) (mVar 6))) (gN 7) mYes e_pair [6, 7] [7] [x0, x1, x2, some (.ref n), x4, x5, x6, x7] hL = some (.d (.lst ((linesOf rows).map pairD)), hL) := by
    unfold mLc2
    rw [e1]
    dsimp only
    have wp : wipeE [x0, x1, x2, some (.ref n), x4, x5, x6, x7] [6, 7] = [x0, x1, x2, some (.ref n), x4, x5, none, none] := rfl
    have f0 : s.fuel = (LA (namesOf rows)).length := by rw [e2, LA_len]
    have g2 : lc2Go s (gN 6) mYes (srcQ (mBin fIx (mVar 3) (mVar 6))) (gN 7) mYes e_pair [7] [x0, x1, x2, some (.ref n), x4, x5, none, none] (LA (namesOf rows)).length 0 [] hL = some (LP (linesOf (rows.take (LA (namesOf rows)).length)), hL) := go
    rw [wp, f0, g2]
    dsimp only
    rw [ln, List.take_length]
    have z := mkL_data (xs := (linesOf rows).map pairD) (h := hL) (by rw [List.length_map]; omega)
    rw [List.map_map] at z
    exact z
  have l2 := lock_of (i := 3) (ρ := [x0, x1, x2, some (.ref n), x4, x5, x6, x7]) rfl w.s l1
  refine (on_of (cons_of l2 (show mNil [x0, x1, x2, some (.ref n), x4, x5, x6, x7] h = some ([], h) from rfl))).trans ?_
  have lv := LIMv
  unfold orC fTuple
  dsimp only
  have i1 : itemsL (.d (.lst ((linesOf rows).map pairD))) h = some (((linesOf rows).map pairD).map A.d) := rfl
  rw [i1]
  dsimp only
  unfold mkT
  rw [if_pos (by rw [List.length_map, List.length_map]; omega), allD_map]
end
end K02
set_option Elab.async false
set_option linter.all false
set_option maxRecDepth 100000
set_option maxHeartbeats 1000000
namespace K02
open PySem PySem.Spec PyProof.Rows L2 F2
/-- a web, by its rows -/
def webF (rows : List Row) : List (Str × D) := [("_text", .str (said rows)), ("_sources", .dK (dictD (srcV rows) (namesOf rows))), ("_copies", .dK (dictD (cpyV rows) (namesOf rows))), ("_names", .tupN ((namesOf rows).map .str)), ("_lines", .tup ((linesOf rows).map pairD)), ("_ends", .tup ((endsOf rows).map .str))]
def webOf (rows : List Row) : D := .ins "Web" (webF rows)
theorem fld_of {f : Str} {fs : List (Str × A)} {v : A} {m : EI} {ρ : En} {h : Hh} {n0 : Nat} (e : m ρ h = some (v, h)) (e0 : ρ[0]? = some (some (.ref n0))) (hs : h[n0]? = some (.ins "Web" fs)) (hl : fs.length < 100) : mFldS "Web" f (mVar 0) m ρ h = some (.nx ρ (h.set n0 (.ins "Web" (putFA f v fs)))) := by
  have e1 : mVar 0 ρ h = some (.ref n0, h) := by
    unfold mVar
    rw [e0]
  unfold mFldS
  rw [e]
  dsimp only
  rw [e1]
  dsimp only
  rw [hs]
  dsimp only
  rw [if_pos ⟨rfl, hl⟩]
theorem RW.set0 {n n0 : Nat} {H h : Hh} {rows : List Row} {r : Row} {o : O} (w : RW n H rows r 0 h) (hn : n0 < n) : RW n (h.set n0 o) rows r 0 (h.set n0 o) :=
  ⟨fun j hj => rfl, by rw [List.getElem?_set_ne (by omega)]; exact w.s, by rw [List.getElem?_set_ne (by omega)]; exact w.c, by rw [List.length_set]; exact w.len, fun j q e => by rw [List.getElem?_set_ne (by omega)]; exact w.cell j q e⟩
theorem web_eq {rows : List Row} (hv : Fits [] rows) (hne : rows ≠ []) (hz : rows.length ≤ 40) {H : Hh} (hd : DH H) : mkObj "Web" fn_Web__init_ [.d (.str (said rows))] H = some (.d (webOf rows), H) := by
  have good := hv.good (by simp) (fun q hq => by cases hq)
  rw [List.nil_append] at good
  have hn : (namesOf rows).Nodup := good.1
  have hs2 : ∀ r ∈ rows, r.2.length ≤ 2 := fun r hr => (hv.mem hr).choose_spec.small.l
  let n0 := H.length
  let n := n0 + 1
  let H1 : Hh := H ++ [.ins "Web" []]
  have l1 : H1.length = n := by simp [H1, n, n0]
  obtain ⟨h0, e1, w0⟩ := read_eq hv hne hz H1 ("", [])
  rw [l1] at e1 w0
  let T : D := .str (said rows)
  let ρ2 : En := [some (.ref n0), some (.d T), some (.tp [.ref n, .ref (n + 1)]), none, none, none, none, none]
  let ρ : En := [some (.ref n0), some (.d T), some (.tp [.ref n, .ref (n + 1)]), some (.ref n), some (.ref (n + 1)), none, none, none]
  have a1 : mCall 1 fn_read_web (mCons (mVar 1) mNil) [some (.ref n0), some (.d T), none, none, none, none, none, none] H1 = some (.tp [.ref n, .ref (n + 1)], h0) := (call_of (n := 1) (F := fn_read_web) (show mCons (mVar 1) mNil [some (.ref n0), some (.d T), none, none, none, none, none, none] H1 = some ([.d T], H1) from rfl) rfl).trans e1
  have s1 := asg_N (i := 2) a1
  have s2 : (mIfS (mBl (mBin (fIs false) (mVar 2) (mC .non))) mStuck mSkip) ρ2 h0 = some (.nx ρ2 h0) := rfl
  have s3 : mAsg (mVar 2) (gT 2 (gsCons (gN 3) (gsCons (gN 4) gsNil))) ρ2 h0 = some (.nx ρ h0) := rfl
  have c0 : h0[n0]? = some (.ins "Web" []) := by
    rw [w0.old n0 (by simp [n])]
    simp [H1, n0]
  have lt0 : n0 < h0.length := (List.getElem?_eq_some_iff.mp c0).1
  have f1 := fld_of (f := "_text") (m := mVar 1) (ρ := ρ) (v := .d T) rfl rfl c0 (by simp)
  let fs1 : List (Str × A) := [("_text", .d T)]
  let h1 : Hh := h0.set n0 (.ins "Web" fs1)
  have w1 : RW n h1 rows ("", []) 0 h1 := w0.set0 (by simp [n])
  have g : ∀ (h : Hh) (o : O), n0 < h.length → (h.set n0 o)[n0]? = some o := fun h o hl => List.getElem?_set_self hl
  have lt1 : n0 < h1.length := by simp only [h1, List.length_set]; exact lt0
  have f2 := fld_of (f := "_sources") (ρ := ρ) (src_ok w1 hn hz hs2 (some (.ref n0)) (some (.d T)) (some (.tp [.ref n, .ref (n + 1)])) (some (.ref (n + 1))) none none none) rfl (g h0 _ lt0) (by simp [fs1])
  let fs2 : List (Str × A) := fs1 ++ ([("_sources", .d (.dK (dictD (srcV rows) (namesOf rows))))] : List (Str × A))
  let h2 : Hh := h1.set n0 (.ins "Web" fs2)
  have w2 : RW n h2 rows ("", []) 0 h2 := w1.set0 (by simp [n])
  have lt2 : n0 < h2.length := by simp only [h2, List.length_set]; exact lt1
  have f3 := fld_of (f := "_copies") (ρ := ρ) (cpy_ok w2 hn hz (some (.ref n0)) (some (.d T)) (some (.tp [.ref n, .ref (n + 1)])) (some (.ref n)) none none none) rfl (g h1 _ lt1) (by simp [fs2, fs1])
  let fs3 : List (Str × A) := fs2 ++ ([("_copies", .d (.dK (dictD (cpyV rows) (namesOf rows))))] : List (Str × A))
  let h3 : Hh := h2.set n0 (.ins "Web" fs3)
  have w3 : RW n h3 rows ("", []) 0 h3 := w2.set0 (by simp [n])
  have lt3 : n0 < h3.length := by simp only [h3, List.length_set]; exact lt2
  have f4 := fld_of (f := "_names") (ρ := ρ) (names_ok w3 hz (some (.ref n0)) (some (.d T)) (some (.tp [.ref n, .ref (n + 1)])) (some (.ref (n + 1))) none none none) rfl (g h2 _ lt2) (by simp [fs3, fs2, fs1])
  let fs4 : List (Str × A) := fs3 ++ ([("_names", .d (.tupN ((namesOf rows).map .str)))] : List (Str × A))
  let h4 : Hh := h3.set n0 (.ins "Web" fs4)
  have w4 : RW n h4 rows ("", []) 0 h4 := w3.set0 (by simp [n])
  have lt4 : n0 < h4.length := by simp only [h4, List.length_set]; exact lt3
  have f5 := fld_of (f := "_lines") (ρ := ρ) (lines_ok w4 hn hz hs2 (some (.ref n0)) (some (.d T)) (some (.tp [.ref n, .ref (n + 1)])) (some (.ref (n + 1))) none none none) rfl (g h3 _ lt3) (by simp [fs4, fs3, fs2, fs1])
  let fs5 : List (Str × A) := fs4 ++ ([("_lines", .d (.tup ((linesOf rows).map pairD)))] : List (Str × A))
  let h5 : Hh := h4.set n0 (.ins "Web" fs5)
  have w5 : RW n h5 rows ("", []) 0 h5 := w4.set0 (by simp [n])
  have lt5 : n0 < h5.length := by simp only [h5, List.length_set]; exact lt4
  have f6 := fld_of (f := "_ends") (ρ := ρ) (ends_ok w5 hn hz (some (.ref n0)) (some (.d T)) (some (.tp [.ref n, .ref (n + 1)])) (some (.ref n)) none none none) rfl (g h4 _ lt4) (by simp [fs5, fs4, fs3, fs2, fs1])
  let fs6 : List (Str × A) := fs5 ++ ([("_ends", .d (.tup ((endsOf rows).map .str)))] : List (Str × A))
  let h6 : Hh := h5.set n0 (.ins "Web" fs6)
  have d1 : m_Web__init_ = mSeq (mAsg (mCall 1 fn_read_web (mCons (mVar 1) mNil)) (gN 2)) (mSeq (mIfS (mBl (mBin (fIs false) (mVar 2) (mC .non))) mStuck mSkip) (mSeq (mAsg (mVar 2) (gT 2 (gsCons (gN 3) (gsCons (gN 4) gsNil)))) (mSeq (mFldS "Web" "_text" (mVar 0) (mVar 1)) (mSeq (mFldS "Web" "_sources" (mVar 0) (e_tab 3)) (mSeq (mFldS "Web" "_copies" (mVar 0) (e_tab 4)) (mSeq (mFldS "Web" "_names" (mVar 0) (mOn (orC fTuple fTupD) (mCons (mVar 3) mNil))) (mSeq (mFldS "Web" "_lines" (mVar 0) e_lines) (mFldS "Web" "_ends" (mVar 0) e_ends)))))))) := rfl
  have body : m_Web__init_ [some (.ref n0), some (.d T), none, none, none, none, none, none] H1 = some (.nx ρ h6) := by
    rw [d1]
    exact (seq_nx s1).trans ((seq_nx s2).trans ((seq_nx s3).trans ((seq_nx f1).trans ((seq_nx f2).trans ((seq_nx f3).trans ((seq_nx f4).trans ((seq_nx f5).trans f6)))))))
  have z : fn_Web__init_ [.ref n0, .d T] H1 = finP H1.length (m_Web__init_ [some (.ref n0), some (.d T), none, none, none, none, none, none] H1) := mkFn_eq rfl
  have g6 : h6[n0]? = some (.ins "Web" fs6) := g h5 _ lt5
  have tk : h6.take n0 = H := by
    apply List.ext_getElem?
    intro j
    by_cases hj : j < n0
    · rw [List.getElem?_take_of_lt hj]
      simp only [h6, h5, h4, h3, h2, h1]
      rw [List.getElem?_set_ne (by omega), List.getElem?_set_ne (by omega), List.getElem?_set_ne (by omega), List.getElem?_set_ne (by omega), List.getElem?_set_ne (by omega), List.getElem?_set_ne (by omega), w0.old j (by simp [n]; omega)]
      simp only [H1]
      rw [List.getElem?_append_left hj]
    · rw [List.getElem?_eq_none (by rw [List.length_take]; omega), List.getElem?_eq_none (by simp only [n0] at hj; omega)]
  have cc : ∃ hh, cut H1.length (.d .non) h6 = (.d .non, hh) ∧ hh[n0]? = some (.ins "Web" fs6) ∧ hh.take n0 = H := by
    unfold cut
    split
    · refine ⟨_, rfl, ?_, ?_⟩
      · rw [List.getElem?_take_of_lt (by rw [l1]; simp [n])]
        exact g6
      · rw [List.take_take, l1, Nat.min_eq_left (by simp [n])]
        exact tk
    · exact ⟨_, rfl, g6, tk⟩
  obtain ⟨hh, c1, c2, c3⟩ := cc
  have fin : fn_Web__init_ [.ref n0, .d T] H1 = some (.d .non, hh) := by
    rw [z, body]
    show some (cut H1.length (.d .non) h6) = _
    rw [c1]
  have af : allF fs6 = some (webF rows) := rfl
  unfold mkObj
  have fin' : fn_Web__init_ (A.ref H.length :: [A.d (.str (said rows))]) (H ++ [.ins "Web" []]) = some (.d .non, hh) := fin
  rw [fin']
  dsimp only
  rw [show hh[H.length]? = some (.ins "Web" fs6) from c2]
  dsimp only
  rw [if_pos rfl, af]
  dsimp only
  rw [show hh.take H.length = H from c3, if_pos hd.low]
  rfl
end K02
set_option Elab.async false
set_option linter.all false
set_option maxRecDepth 100000
set_option maxHeartbeats 1000000
namespace K02
open PySem PySem.Spec PyProof.Rows L2 F2
theorem join_snoc (y : Str) : ∀ {xs : List Str}, xs ≠ [] → ∀ z : Str, Txt.join y [Txt.join y xs, z] = Txt.join y (xs ++ [z])
  | [], h, _ => absurd rfl h
  | a :: as, _, z => by
    show (⟨(as.foldl (fun acc p => acc ++ y.cps ++ p.cps) a.cps) ++ y.cps ++ z.cps⟩ : Str) = ⟨(as ++ [z]).foldl (fun acc p => acc ++ y.cps ++ p.cps) a.cps⟩
    rw [List.foldl_append]
    rfl
theorem said_snoc {rows : List Row} (h : rows ≠ []) (r : Row) : Txt.join "; " [said rows, rowText r] = said (rows ++ [r]) := by
  unfold said
  rw [join_snoc "; " (by simpa using h), List.map_append]
  rfl
/-! fields of a web -/
theorem f_text (rows : List Row) (H : Hh) : fFld "Web" "_text" (.d (webOf rows)) H = some (.d (.str (said rows)), H) := by kernel_rfl
theorem f_names (rows : List Row) (H : Hh) : fFld "Web" "_names" (.d (webOf rows)) H = some (.d (.tupN ((namesOf rows).map .str)), H) := by kernel_rfl
theorem f_copies (rows : List Row) (H : Hh) : fFld "Web" "_copies" (.d (webOf rows)) H = some (.d (.dK (dictD (cpyV rows) (namesOf rows))), H) := by kernel_rfl
theorem f_lines (rows : List Row) (H : Hh) : fFld "Web" "_lines" (.d (webOf rows)) H = some (.d (.tup ((linesOf rows).map pairD)), H) := by kernel_rfl
theorem f_ends (rows : List Row) (H : Hh) : fFld "Web" "_ends" (.d (webOf rows)) H = some (.d (.tup ((endsOf rows).map .str)), H) := by kernel_rfl
theorem un_of {f : A → Hh → Option (A × Hh)} {m : EI} {ρ : En} {h h1 : Hh} {x : A} (e : m ρ h = some (x, h1)) : mUn f m ρ h = f x h1 := by
  unfold mUn
  rw [e]
theorem tab_dict (val : Str → D) (xs : List Str) (H : Hh) : F2.tabOf (.d (.dK (dictD val xs))) H = some (.k (tabL (tabD val xs))) := by
  show some (Tab.k ((dictD val xs).map fun p => (p.1, A.d p.2))) = _
  unfold dictD tabL tabD
  rw [List.map_map, List.map_map]
  rfl
end K02
set_option Elab.async false
set_option linter.all false
set_option maxRecDepth 100000
set_option maxHeartbeats 1000000
namespace K02
open PySem PySem.Spec PyProof.Rows L2 F2
theorem Fits.snoc {pre rows : List Row} (h : Fits pre rows) {r : Row} (f : Fit (pre ++ rows) r) : Fits pre (rows ++ [r]) := by
  induction h with
  | nil => rw [List.append_nil] at f; exact .cons f .nil
  | cons g t ih =>
    refine .cons g (ih ?_)
    rw [List.append_assoc]
    exact f
theorem if_skip {c : TI'} {a : SI} {ρ : En} {h : Hh} (e : c ρ h = some (false, h)) : mIfS c a mSkip ρ h = some (.nx ρ h) := by
  unfold mIfS
  rw [e]
  rfl
theorem not_tru {m : EI} {ρ : En} {h : Hh} (e : m ρ h = some (.d (.bl true), h)) : mNotT (mTru m) ρ h = some (false, h) := by
  unfold mNotT mTru
  rw [e]
  rfl
theorem or_ff {a b : TI'} {ρ : En} {h : Hh} (e1 : a ρ h = some (false, h)) (e2 : b ρ h = some (false, h)) : mOrT a b ρ h = some (false, h) := by
  unfold mOrT
  rw [e1]
  exact e2
theorem bl_of {m : EI} {ρ : En} {h : Hh} {k : Bool} (e : m ρ h = some (.d (.bl k), h)) : mBl m ρ h = some (k, h) := by
  unfold mBl
  rw [e]
theorem ret_of {m : EI} {ρ : En} {h h1 : Hh} {a : A} (e : m ρ h = some (a, h1)) : mRet m ρ h = some (.rt a h1) := by
  unfold mRet
  rw [e]
theorem make_of {c : Str} {n : Nat} {F : FnI} {m : AI} {ρ : En} {h h1 : Hh} {xs : List A} (e : m ρ h = some (xs, h1)) (hl : xs.length + 1 = n) : mMake c n F m ρ h = mkObj c F xs h1 := by
  unfold mMake
  rw [on_of e, if_pos hl]
end K02
set_option Elab.async false
set_option linter.all false
set_option maxRecDepth 100000
set_option maxHeartbeats 1000000
namespace K02
open PySem PySem.Spec PyProof.Rows L2 F2
theorem dtxts_eq : ∀ xs : List Str, dtxts (xs.map D.str) = some xs
  | [] => rfl
  | x :: xs => by
    show (dtxts (xs.map D.str)).map (x :: ·) = _
    rw [dtxts_eq xs]
    rfl
theorem cut_low {n : Nat} {x : D} {h G : Hh} (ht : h.take n = G) (hd : DH G) : cut n (.d x) h = (.d x, G) := by
  unfold cut
  have z : low n (.d x) = true := by simp [low]
  rw [z, ht, hd.low]
  rfl
theorem idx_at {xs : List Str} (hn : xs.Nodup) {i : Nat} {x : Str} (e : xs[i]? = some x) : xs.idxOf? x = some i := by
  obtain ⟨hlt, ex⟩ := List.getElem?_eq_some_iff.mp e
  refine List.idxOf?_eq_some_iff.mpr ⟨hlt, ex, fun j hj z => ?_⟩
  have z2 : xs[j]? = some x := by rw [List.getElem?_eq_getElem (by omega), z]
  have := (List.getElem?_inj (by omega : j < xs.length) hn).mp (z2.trans e.symm)
  omega
end K02
set_option Elab.async false
set_option linter.all false
set_option maxRecDepth 100000
set_option maxHeartbeats 1000000
namespace K02
open PySem PySem.Spec PyProof.Rows L2 F2
/-- x in the tuple of these texts -/
theorem inV_strs (x : Str) : ∀ ys : List Str, inV (.str x) (ys.map V.str) = decide (x ∈ ys)
  | [] => rfl
  | y :: ys => by
    have ih := inV_strs x ys
    unfold inV at ih ⊢
    rw [List.map_cons, List.any_cons, ih]
    have e : eqV (.str y) (.str x) = decide (y = x) := by
      by_cases h : y = x <;> simp [eqV, h]
    rw [e]
    by_cases h : y = x
    · simp [h]
    · have h2 : ¬ x = y := fun z => h z.symm
      simp [h, h2]
theorem str_eq {i j : Str} (hi : PyData.strOk i = true) (hj : PyData.strOk j = true) (H : Hh) : fEqD false (.d (.str i)) (.d (.str j)) H = some (.d (.bl (decide (i = j))), H) := by
  by_cases h : i = j
  · subst h
    simp [fEqD, pyOf, toPy, SeqAt.shaped, PyData.eqv, PyData.canLay0, PyData.depth, hi]
  · simp [fEqD, pyOf, toPy, SeqAt.shaped, PyData.eqv, h, PyData.canLay0, PyData.depth, hi, hj]
/-! ### a web less one row -/
theorem erase_names (rows : List Row) (i : Nat) : namesOf (rows.eraseIdx i) = (namesOf rows).eraseIdx i := (map_erase _ _ _).symm
theorem copies_erase_le (pre : List Row) (i : Nat) (x : Str) : (copiesOf (pre.eraseIdx i) x).length ≤ (copiesOf pre x).length := by
  unfold copiesOf
  rw [List.length_map, List.length_map]
  exact (List.Sublist.filter _ (List.eraseIdx_sublist pre i)).length_le
theorem okSrc_sub {xs n1 n2 : List Str} (h : okSrc xs n1 = true) (hs : ∀ s ∈ xs, s ∈ n2) : okSrc xs n2 = true := by
  unfold okSrc at h ⊢
  split at h
  · rename_i a
    exact decide_eq_true (hs a (by simp))
  · rename_i a b
    rw [Bool.and_eq_true, Bool.and_eq_true] at h
    rw [Bool.and_eq_true, Bool.and_eq_true]
    exact ⟨decide_eq_true (hs a (by simp)), decide_eq_true (hs b (by simp)), h.2.2⟩
  · cases h
/-- a row that may follow, one row fewer ahead, whose name it does not use -/
theorem Fit.less {pre : List Row} {r : Row} (f : Fit pre r) {i : Nat} (h0 : 0 < i) {q : Row} (hq : pre[i]? = some q) (hx : q.1 ∉ r.2) : Fit (pre.eraseIdx i) r where
  small := f.small
  name := f.name
  new := fun z => f.new (by
    obtain ⟨p, hp, e⟩ := List.mem_map.mp z
    exact List.mem_map.mpr ⟨p, List.mem_of_mem_eraseIdx hp, e⟩)
  src := by
    have hl : i < pre.length := (List.getElem?_eq_some_iff.mp hq).1
    have z := f.src
    rw [if_neg (by intro e; rw [e] at hl; simp at hl)] at z
    rw [if_neg (by
      intro e
      have := congrArg List.length e
      rw [List.length_eraseIdx_of_lt hl] at this
      simp at this
      omega)]
    refine okSrc_sub z fun s hs => ?_
    obtain ⟨p, hp, e⟩ := List.mem_map.mp (f.srcs s hs)
    obtain ⟨j, hj⟩ := List.mem_iff_getElem?.mp hp
    have ne : j ≠ i := fun z => hx (by rw [z, hq] at hj; cases hj; rw [e]; exact hs)
    refine List.mem_map.mpr ⟨p, List.mem_eraseIdx_iff_getElem?.mpr ⟨j, ne, hj⟩, e⟩
  room := fun s hs => Nat.lt_of_le_of_lt (copies_erase_le pre i s) (f.room s hs)
  ok := f.ok
  semi := f.semi
  gapN := f.gapN
  gapS := f.gapS
theorem Fits.lessA {pre rest : List Row} (h : Fits pre rest) : ∀ {i : Nat} {q : Row}, 0 < i → pre[i]? = some q → (∀ r ∈ rest, q.1 ∉ r.2) → Fits (pre.eraseIdx i) rest := by
  induction h with
  | nil => intro i q _ _ _; exact .nil
  | @cons pre r rest f t ih =>
    intro i q h0 hq hx
    have hl : i < pre.length := (List.getElem?_eq_some_iff.mp hq).1
    refine .cons (f.less h0 hq (hx r List.mem_cons_self)) ?_
    have z := ih (i := i) (q := q) h0 (by rw [List.getElem?_append_left hl]; exact hq) fun p hp => hx p (List.mem_cons_of_mem _ hp)
    rw [List.eraseIdx_append_of_lt_length hl] at z
    exact z
theorem Fits.lessB {pre rest : List Row} (h : Fits pre rest) : ∀ {k : Nat} {q : Row}, 0 < pre.length + k → rest[k]? = some q → (∀ r ∈ rest, q.1 ∉ r.2) → Fits pre (rest.eraseIdx k) := by
  induction h with
  | nil => intro k q _ hq; simp at hq
  | @cons pre r rest f t ih =>
    intro k q h0 hq hx
    cases k with
    | zero =>
      simp at hq
      subst hq
      have z := t.lessA (i := pre.length) (q := r) (by omega) (by simp) fun p hp => hx p (List.mem_cons_of_mem _ hp)
      rw [List.eraseIdx_append_of_length_le (Nat.le_refl _), Nat.sub_self] at z
      simpa using z
    | succ k =>
      refine .cons f (ih (k := k) (q := q) (by rw [List.length_append]; simp; omega) (by simpa using hq) fun p hp => hx p (List.mem_cons_of_mem _ hp))
theorem none_used {rows : List Row} {x : Str} (h : copiesOf rows x = []) : ∀ r ∈ rows, x ∉ r.2 := fun r hr z => by
  have : r.1 ∈ copiesOf rows x := List.mem_map.mpr ⟨r, List.mem_filter.mpr ⟨hr, decide_eq_true z⟩, rfl⟩
  rw [h] at this
  cases this
theorem Fits.erase {rows : List Row} (h : Fits [] rows) {i : Nat} {q : Row} (h0 : 0 < i) (hq : rows[i]? = some q) (he : copiesOf rows q.1 = []) : Fits [] (rows.eraseIdx i) := h.lessB (by simp; exact h0) hq (none_used he)
end K02
set_option Elab.async false
set_option linter.all false
set_option maxRecDepth 100000
set_option maxHeartbeats 1000000
namespace K02
open PySem PySem.Spec PyProof.Rows L2 F2
theorem fvs_strs : ∀ ys : List Str, fvs ((ys.map D.str).map A.d) = some (ys.map V.str)
  | [] => rfl
  | y :: ys => by
    show (fvs ((ys.map D.str).map A.d)).map (V.str y :: ·) = _
    rw [fvs_strs ys]
    rfl
theorem not_in_tup (x : Str) (ys : List Str) (H : Hh) : fIn true (.d (.str x)) (.d (.tup (ys.map .str))) H = some (.d (.bl (!decide (x ∈ ys))), H) := by
  have e : fInF true (.d (.str x)) (.d (.tup (ys.map .str))) H = some (.d (.bl (!decide (x ∈ ys))), H) := by
    unfold fInF
    rw [show fvs [.d (.str x)] = some [V.str x] from rfl]
    dsimp only
    rw [show itemsL (.d (.tup (ys.map .str))) H = none from rfl]
    dsimp only
    rw [show itemsT (.d (.tup (ys.map .str))) = some ((ys.map D.str).map A.d) from rfl]
    dsimp only
    rw [fvs_strs]
    simp [inV_strs]
  have k : fInK true (.d (.str x)) (.d (.tup (ys.map .str))) H = none := rfl
  unfold fIn orF
  rw [k]
  dsimp only
  rw [e]
theorem known_ok {x : Str} {y : A} {ks : List (Str × A)} {H : Hh} (ht : F2.tabOf y H = some (.k (tabL ks))) (hx : x ∈ ks.map (·.1)) : fn_check_known [.d (.str x), y] H = some (.d .non, H) := by
  have z : fn_check_known [.d (.str x), y] H = finP H.length (m_check_known [some (.d (.str x)), some y] H) := mkFn_eq rfl
  have q := (call_of (n := 2) (F := fn_is_one_of) (show mCons (mVar 0) (mCons (mVar 1) mNil) [some (.d (.str x)), some y] H = some ([.d (.str x), y], H) from rfl) rfl).trans (is_one_eq ht)
  rw [decide_eq_true hx] at q
  have b : m_check_known [some (.d (.str x)), some y] H = some (.nx [some (.d (.str x)), some y] H) := if_skip (a := mStuck) (not_tru q)
  rw [z, b]
  show some (cut H.length _ H) = _
  rw [cut_same rfl]
theorem or_ff2 {a b : TI'} {ρ : En} {h : Hh} (e1 : a ρ h = some (false, h)) (e2 : b ρ h = some (false, h)) : mOrT a b ρ h = some (false, h) := or_ff e1 e2
end K02
set_option Elab.async false
set_option linter.all false
set_option maxRecDepth 100000
set_option maxHeartbeats 1000000
namespace K02
open PySem PySem.Spec PyProof.Rows L2 F2
def e_prs : EI := (mLc false (srcQ (mVar 3)) (gN 4) mYes (mOn mkT (mCons (mVar 4) (mCons (mVar 2) mNil))) [4])
theorem prs_ok (x0 x1 x4 : Option A) (a : Str) {ss : List Str} (hz : ss.length ≤ 2) (H : Hh) : e_prs [x0, x1, some (.d (.str a)), some (.d (.tup (ss.map .str))), x4] H = some (.d (.lst ((ss.map fun s => (s, a)).map pairD)), H) := by
  obtain ⟨s, q1, q2, q3⟩ := sq_src (b := true) (xs := ss) (m := mVar 3) (ρ := [x0, x1, some (.d (.str a)), some (.d (.tup (ss.map .str))), x4]) (h := H) (h1 := H) rfl
  obtain ⟨acc, H', ⟨ea, eh⟩, e2⟩ := lc_items (items := LA ss) (g := gN 4) (t := mYes) (m := mOn mkT (mCons (mVar 4) (mCons (mVar 2) mNil))) (vs := [4]) (I := fun k acc h => acc = LP ((ss.take k).map fun s => (s, a)) ∧ h = H) q3 q2 q1
    (fun k acc h hk ⟨ea, eh⟩ => by
      subst eh
      have hk' : k < ss.length := by rw [LA_len] at hk; exact hk
      have gk : (LA ss)[k] = .d (.str ss[k]) := by simp [LA]
      refine ⟨[x0, x1, some (.d (.str a)), some (.d (.tup (ss.map .str))), some (.d (.str ss[k]))], h, true, h, by rw [gk]; rfl, rfl, (fun z => by cases z), fun _ => ⟨.d (pairD (ss[k], a)), h, (on_of (show mCons (mVar 4) (mCons (mVar 2) mNil) [x0, x1, some (.d (.str a)), some (.d (.tup (ss.map .str))), some (.d (.str ss[k]))] h = some ([.d (.str ss[k]), .d (.str a)], h) from rfl)).trans (pair_eq _ _ _), ⟨?_, rfl⟩, ?_⟩⟩
      · rw [ea, LP_snoc, take_snoc hk', List.map_append]
        rfl
      · rw [ea]
        unfold LP
        rw [List.length_map, List.length_map, List.length_take]
        omega) ⟨rfl, rfl⟩
  subst eh
  rw [LA_len, List.take_length] at ea
  unfold e_prs
  rw [e2 false, ea]
  have z := mkL_data (xs := (ss.map fun s => (s, a)).map pairD) (h := H') (by rw [List.length_map, List.length_map]; omega)
  rw [List.map_map] at z
  exact z
def b_prs : SI := (mAsg (mBin (fAdd false) (mVar 1) e_prs) (gN 1))
def g_prs : GI := (gT 2 (gsCons (gN 2) (gsCons (gN 3) gsNil)))
theorem pairs_eq {rows : List Row} (hs : ∀ r ∈ rows, r.2.length ≤ 2) (hz : rows.length ≤ 40) (H : Hh) : fn_law_pairs [.d (rowsD rows)] H = some (.d (.lst ((linesOf rows).map pairD)), H) := by
  have src := srcQ_data (m := mVar 0) (ρ := [some (.d (rowsD rows)), some (.d (.lst [])), none, none, none]) (h := H) (h1 := H) (xs := rows.map rowD) rfl
  obtain ⟨ρ', H', e4, x2, x3, x4, e5, e6⟩ := for_items (items := (rows.map rowD).map A.d) (g := g_prs) (b := b_prs) (I := fun i ρ h => ∃ x2 x3 x4 : Option A, ρ = [some (.d (rowsD rows)), some (.d (.lst ((linesOf (rows.take i)).map pairD))), x2, x3, x4] ∧ h = H) (fun i h => items_map _ h i) (by simp) src
    (fun i ρ h hi ⟨x2, x3, x4, e5, e6⟩ => by
      subst e5 e6
      have hi' : i < rows.length := by simpa using hi
      have gi : ((rows.map rowD).map A.d)[i] = .d (rowD rows[i]) := by simp
      have hm : rows[i] ∈ rows := List.getElem_mem hi'
      have tl := lines_len (rows := rows.take i) (fun q hq => hs q (List.mem_of_mem_take hq))
      rw [List.length_take] at tl
      have h2 := hs _ hm
      let ρ1 : En := [some (.d (rowsD rows)), some (.d (.lst ((linesOf (rows.take i)).map pairD))), some (.d (.str rows[i].1)), some (.d (.tup (rows[i].2.map .str))), x4]
      have q1 := prs_ok (some (.d (rowsD rows))) (some (.d (.lst ((linesOf (rows.take i)).map pairD)))) x4 rows[i].1 h2 h
      have q2 := (bin_of (f := fAdd false) (show mVar 1 ρ1 h = some (.d (.lst ((linesOf (rows.take i)).map pairD)), h) from rfl) q1).trans (addL_data (by rw [List.length_map, List.length_map, List.length_map]; omega))
      have q3 := asg_N (i := 1) q2
      have el : (linesOf (rows.take i)).map pairD ++ (rows[i].2.map fun s => (s, rows[i].1)).map pairD = (linesOf (rows.take (i + 1))).map pairD := by
        rw [take_snoc hi', ← List.map_append]
        unfold linesOf
        rw [List.flatMap_append]
        simp
      rw [el] at q3
      refine ⟨[some (.d (rowsD rows)), some (.d (.lst ((linesOf (rows.take (i + 1))).map pairD))), some (.d (.str rows[i].1)), some (.d (.tup (rows[i].2.map .str))), x4], h, ?_, _, _, _, rfl, rfl⟩
      rw [gi]
      exact q3) ⟨none, none, none, rfl, rfl⟩
  subst e5 e6
  have ln : ((rows.map rowD).map A.d).length = rows.length := by simp
  rw [ln, List.take_length] at e4
  have z : fn_law_pairs [.d (rowsD rows)] H' = finF H'.length (m_law_pairs [some (.d (rowsD rows)), none, none, none, none] H') := mkFnF_eq rfl
  have d1 : m_law_pairs = mSeq (mAsg (mOn (mkL false) mNil) (gN 1)) (mSeq (mFor (srcQ (mVar 0)) g_prs b_prs) (mRet (mVar 1))) := rfl
  have b : m_law_pairs [some (.d (rowsD rows)), none, none, none, none] H' = some (.rt (.d (.lst ((linesOf rows).map pairD))) H') := by
    rw [d1]
    exact (seq_nx (asg_N (nil_data _ H'))).trans ((seq_nx e4).trans rfl)
  rw [z, b]
  show some (cutF H'.length _ H') = _
  have c : cutF H'.length (.d (.lst ((linesOf rows).map pairD))) H' = cut H'.length (.d (.lst ((linesOf rows).map pairD))) H' := rfl
  rw [c, cut_same rfl]
end K02
set_option Elab.async false
set_option linter.all false
set_option maxRecDepth 100000
set_option maxHeartbeats 1000000
namespace K02
open PySem PySem.Spec PyProof.Rows L2 F2
/-! ### what the drawn names are -/
def poolOk (x : Str) : Bool := decide (x.length ≤ 8) && (isName x && (PyData.strOk x && (decide (32 ∉ TL.tl x) && decide (59 ∉ TL.tl x))))
theorem pool_all : POOL.all poolOk = true := by kernel_rfl
structure Good (x : Str) : Prop where
  len : x.length ≤ 8
  name : isName x = true
  ok : PyData.strOk x = true
  gap : 32 ∉ TL.tl x
  semi : 59 ∉ TL.tl x
theorem pool_ok {x : Str} (h : x ∈ POOL) : Good x := by
  have z := List.all_eq_true.mp pool_all x h
  unfold poolOk at z
  rw [Bool.and_eq_true, Bool.and_eq_true, Bool.and_eq_true, Bool.and_eq_true] at z
  exact ⟨of_decide_eq_true z.1, z.2.1, z.2.2.1, of_decide_eq_true z.2.2.2.1, of_decide_eq_true z.2.2.2.2⟩
theorem mem_joinL {S : List Nat} {c : Nat} : ∀ {ps : List (List Nat)}, c ∈ TL.joinL S ps → c ∈ S ∨ ∃ p ∈ ps, c ∈ p
  | [], h => by cases h
  | [p], h => .inr ⟨p, by simp, h⟩
  | p :: q :: r, h => by
    have h' : c ∈ p ++ (S ++ TL.joinL S (q :: r)) := h
    rcases List.mem_append.mp h' with h1 | h1
    · exact .inr ⟨p, by simp, h1⟩
    · rcases List.mem_append.mp h1 with h2 | h2
      · exact .inl h2
      · rcases mem_joinL h2 with h3 | ⟨p', hp, hc⟩
        · exact .inl h3
        · exact .inr ⟨p', List.mem_cons_of_mem _ hp, hc⟩
theorem mem_join {y : Str} {parts : List Str} {c : Nat} (h : c ∈ TL.tl (Txt.join y parts)) : c ∈ TL.tl y ∨ ∃ p ∈ parts, c ∈ TL.tl p := by
  rw [TL.join_eq, TL.tl_join] at h
  rcases mem_joinL h with h | ⟨p, hp, hc⟩
  · exact .inl h
  · obtain ⟨q, hq, rfl⟩ := List.mem_map.mp hp
    exact .inr ⟨q, hq, hc⟩
theorem strOk_iff {x : Str} : PyData.strOk x = true ↔ ∀ c ∈ TL.tl x, c < 0x110000 := by
  unfold PyData.strOk
  rw [← Array.all_toList, List.all_eq_true]
  exact ⟨fun h c hc => of_decide_eq_true (h c hc), fun h c hc => decide_eq_true (h c hc)⟩
theorem row_semi {r : Row} (h1 : 59 ∉ TL.tl r.1) (h2 : ∀ s ∈ r.2, 59 ∉ TL.tl s) : 59 ∉ TL.tl (rowText r) := fun z => by
  rcases mem_join z with z | ⟨p, hp, z⟩
  · exact absurd z (by decide +kernel)
  · rcases List.mem_cons.mp hp with rfl | hp
    · exact h1 z
    · exact h2 p hp z
theorem rowText_ok {r : Row} (h1 : PyData.strOk r.1 = true) (h2 : ∀ s ∈ r.2, PyData.strOk s = true) : PyData.strOk (rowText r) = true := strOk_iff.mpr fun c z => by
  rcases mem_join z with z | ⟨p, hp, z⟩
  · exact (strOk_iff (x := " ")).mp (by decide +kernel) c z
  · rcases List.mem_cons.mp hp with rfl | hp
    · exact strOk_iff.mp h1 c z
    · exact strOk_iff.mp (h2 p hp) c z
theorem said_ok {rows : List Row} (h : ∀ r ∈ rows, PyData.strOk r.1 = true ∧ ∀ s ∈ r.2, PyData.strOk s = true) : PyData.strOk (said rows) = true := strOk_iff.mpr fun c z => by
  rcases mem_join z with z | ⟨p, hp, z⟩
  · exact (strOk_iff (x := "; ")).mp (by decide +kernel) c z
  · obtain ⟨r, hr, rfl⟩ := List.mem_map.mp hp
    exact strOk_iff.mp (rowText_ok (h r hr).1 (h r hr).2) c z
/-- rows of drawn names -/
def Pooled (rows : List Row) : Prop := ∀ r ∈ rows, r.1 ∈ POOL
theorem fit_of {rows : List Row} {r : Row} (hx : r.1 ∈ POOL) (hn : r.1 ∉ namesOf rows) (hp : Pooled rows) (hs : if rows = [] then r.2 = [] else okSrc r.2 (namesOf rows) = true) (hc : ∀ s ∈ r.2, (copiesOf rows s).length < 2) : Fit rows r := by
  have hm : (∀ s ∈ r.2, s ∈ namesOf rows) ∧ r.2.length ≤ 2 := by
    split at hs
    · rw [hs]
      exact ⟨(fun s hs => by cases hs), by simp⟩
    · refine ⟨(ok_mem hs).1, ?_⟩
      unfold okSrc at hs
      split at hs
      · rename_i e; rw [e]; simp
      · rename_i e; rw [e]; simp
      · cases hs
  have hq : ∀ s ∈ r.2, Good s := fun s hs => by
    obtain ⟨q, hq, e⟩ := List.mem_map.mp (hm.1 s hs)
    rw [← e]
    exact pool_ok (hp q hq)
  have g := pool_ok hx
  exact ⟨⟨g.len, hm.2, fun s hs => (hq s hs).len⟩, g.name, hn, hs, hc, fun s hs => (hq s hs).ok, row_semi g.semi fun s hs => (hq s hs).semi, g.gap, fun s hs => (hq s hs).gap⟩
/-! ### rows and lines compared -/
def rowP (r : Row) : PyData := .tuple [.str r.1, .tuple (r.2.map .str)]
def pairP (p : Str × Str) : PyData := .tuple [.str p.1, .str p.2]
theorem toPys_map {α : Type} {f : α → D} {g : α → PyData} (h : ∀ x, toPy (f x) = some (g x)) : ∀ xs : List α, toPys (xs.map f) = some (xs.map g)
  | [] => by simp [toPys]
  | x :: xs => by simp [toPys, h x, toPys_map h xs]
theorem row_py (r : Row) : toPy (rowD r) = some (rowP r) := by
  have e := toPys_map (f := D.str) (g := PyData.str) (fun x => by simp [toPy]) r.2
  simp [rowD, toPy, toPys, e, rowP]
theorem pair_py (p : Str × Str) : toPy (pairD p) = some (pairP p) := by simp [pairD, toPy, toPys, pairP]
theorem lay_map {α : Type} {g : α → PyData} {xs : List α} (h : ∀ x ∈ xs, (g x).canLay0 = true) : PyData.canLayAll0 (xs.map g) = true := by
  induction xs with
  | nil => simp [PyData.canLayAll0]
  | cons x xs ih => simp [PyData.canLayAll0, h x List.mem_cons_self, ih fun y hy => h y (List.mem_cons_of_mem _ hy)]
theorem depth_map {α : Type} {g : α → PyData} {d : Nat} {xs : List α} (h : ∀ x ∈ xs, (g x).depth ≤ d) : PyData.depthAll (xs.map g) ≤ d := by
  induction xs with
  | nil => simp [PyData.depthAll]
  | cons x xs ih =>
    have h1 := h x List.mem_cons_self
    have h2 := ih fun y hy => h y (List.mem_cons_of_mem _ hy)
    simp only [List.map_cons, PyData.depthAll]
    omega
theorem row_lay {r : Row} (h1 : PyData.strOk r.1 = true) (h2 : ∀ s ∈ r.2, PyData.strOk s = true) : (rowP r).canLay0 = true ∧ (rowP r).depth ≤ 2 := by
  have e1 := lay_map (g := PyData.str) (xs := r.2) fun s hs => by simp [PyData.canLay0, h2 s hs]
  have e2 := depth_map (g := PyData.str) (xs := r.2) (d := 0) fun s hs => by simp [PyData.depth]
  refine ⟨by simp [rowP, PyData.canLay0, PyData.canLayAll0, h1, e1], ?_⟩
  simp only [rowP, PyData.depth, PyData.depthAll]
  omega
theorem rows_found {rows : List Row} (ho : ∀ r ∈ rows, PyData.strOk r.1 = true ∧ ∀ s ∈ r.2, PyData.strOk s = true) {h : Hh} {f : Nat} (hf : h[f]? = some (.lst ((rows.map rowD).map A.d))) : fEqD true (.ref f) (.d (.lst [])) h = some (.d (.bl (!decide (rows = []))), h) := by
  have e1 : pyOf (.ref f) h = some (.list (rows.map rowP)) := by
    unfold pyOf
    dsimp only
    rw [show itemsL (.ref f) h = some ((rows.map rowD).map A.d) by simp [itemsL, hf]]
    dsimp only
    rw [allD_map]
    dsimp only
    rw [toPys_map row_py]
    rfl
  have e2 : pyOf (.d (.lst [])) h = some (.list []) := by simp [pyOf, toPy, toPys]
  have s1 : SeqAt.shaped (.list (rows.map rowP)) = true := by
    have a := lay_map (g := rowP) (xs := rows) fun r hr => (row_lay (ho r hr).1 (ho r hr).2).1
    have b := depth_map (g := rowP) (xs := rows) (d := 2) fun r hr => (row_lay (ho r hr).1 (ho r hr).2).2
    unfold SeqAt.shaped
    rw [Bool.and_eq_true, decide_eq_true_eq]
    refine ⟨by simp only [PyData.canLay0]; exact a, ?_⟩
    simp only [PyData.depth]
    omega
  have s2 : SeqAt.shaped (.list []) = true := by simp [SeqAt.shaped, PyData.canLay0, PyData.canLayAll0, PyData.depth, PyData.depthAll]
  unfold fEqD
  rw [e1, e2]
  dsimp only
  rw [s1, s2]
  cases rows with
  | nil => simp [PyData.eqv, PyData.eqvAll]
  | cons r rows => simp [PyData.eqv, PyData.eqvAll]
theorem pair_lay {p : Str × Str} (h : PyData.strOk p.1 = true ∧ PyData.strOk p.2 = true) : (pairP p).canLay0 = true ∧ (pairP p).depth ≤ 1 := by
  refine ⟨by simp [pairP, PyData.canLay0, PyData.canLayAll0, h.1, h.2], ?_⟩
  simp only [pairP, PyData.depth, PyData.depthAll]
  omega
theorem pairs_eqv : ∀ ps : List (Str × Str), PyData.eqvAll (ps.map pairP) (ps.map pairP) = true
  | [] => by simp [PyData.eqvAll]
  | p :: ps => by
    simp only [List.map_cons, PyData.eqvAll, pairs_eqv ps, Bool.and_true]
    simp [pairP, PyData.eqv, PyData.eqvAll]
theorem lines_same {ps : List (Str × Str)} (ho : ∀ p ∈ ps, PyData.strOk p.1 = true ∧ PyData.strOk p.2 = true) (h : Hh) : fEqD true (.d (.tup (ps.map pairD))) (.d (.tup (ps.map pairD))) h = some (.d (.bl false), h) := by
  have e1 : pyOf (.d (.tup (ps.map pairD))) h = some (.tuple (ps.map pairP)) := by
    unfold pyOf
    dsimp only
    unfold toPy
    rw [toPys_map pair_py]
    rfl
  have s1 : SeqAt.shaped (.tuple (ps.map pairP)) = true := by
    have a := lay_map (g := pairP) (xs := ps) fun p hp => (pair_lay (ho p hp)).1
    have b := depth_map (g := pairP) (xs := ps) (d := 1) fun p hp => (pair_lay (ho p hp)).2
    unfold SeqAt.shaped
    rw [Bool.and_eq_true, decide_eq_true_eq]
    refine ⟨by simp only [PyData.canLay0]; exact a, ?_⟩
    simp only [PyData.depth]
    omega
  unfold fEqD
  rw [e1]
  dsimp only
  rw [s1]
  have q : PyData.eqv (.tuple (ps.map pairP)) (.tuple (ps.map pairP)) = true := by
    simp only [PyData.eqv]
    exact pairs_eqv ps
  rw [q]
  rfl
end K02
set_option Elab.async false
set_option linter.all false
set_option maxRecDepth 100000
set_option maxHeartbeats 1000000
namespace K02
open PySem PySem.Spec PyProof.Rows L2 F2
/-! ### the drawn names are unlike ones -/
theorem erase_perm {α : Type} : ∀ (xs : List α) (i : Nat) (h : i < xs.length), (xs[i] :: xs.eraseIdx i).Perm xs
  | x :: xs, 0, _ => List.Perm.refl _
  | x :: xs, i + 1, h => by
    have ih := erase_perm xs i (by simpa using h)
    show ((xs[i]'(by simpa using h)) :: x :: xs.eraseIdx i).Perm (x :: xs)
    exact (List.Perm.swap _ _ _).trans (ih.cons x)
theorem lbl_good : ∀ (n : Nat) (left found : List Str) (p : Int × Int), n ≤ left.length → (found ++ left).Nodup → (∀ x ∈ found ++ left, x ∈ POOL) → (lbl n left found p).1.Nodup ∧ ∀ x ∈ (lbl n left found p).1, x ∈ POOL
  | 0, left, found, p, _, h, hp => ⟨(List.nodup_append.mp h).1, fun x hx => hp x (List.mem_append.mpr (.inl hx))⟩
  | n + 1, left, found, p, hn, h, hp => by
    have hpos : 0 < (left.length : Int) := by omega
    have lo := drw_lo (p := p) hpos
    have hi := drw_hi (p := p) hpos
    have hi2 : (drw p left.length).1.toNat < left.length := by omega
    have e : left.getD (drw p left.length).1.toNat Str.empty = left[(drw p left.length).1.toNat] := by simp [List.getD, hi2]
    have pm : (found ++ [left[(drw p left.length).1.toNat]] ++ left.eraseIdx (drw p left.length).1.toNat).Perm (found ++ left) := by
      rw [List.append_assoc]
      exact List.Perm.append_left _ (erase_perm left _ hi2)
    show (lbl n (left.eraseIdx (drw p left.length).1.toNat) (found ++ [left.getD (drw p left.length).1.toNat Str.empty]) (drw p left.length).2).1.Nodup ∧ _
    rw [e]
    have z := lbl_good n (left.eraseIdx (drw p left.length).1.toNat) (found ++ [left[(drw p left.length).1.toNat]]) (drw p left.length).2 (by rw [List.length_eraseIdx_of_lt hi2]; omega) (pm.nodup_iff.mpr h) fun x hx => hp x (pm.mem_iff.mp hx)
    refine ⟨z.1, ?_⟩
    have e2 : lbl (n + 1) left found p = lbl n (left.eraseIdx (drw p left.length).1.toNat) (found ++ [left.getD (drw p left.length).1.toNat Str.empty]) (drw p left.length).2 := rfl
    rw [e2, e]
    exact z.2
theorem labels_good {p : Int × Int} {n : Nat} (hn : n ≤ 44) : (labels p n).1.Nodup ∧ (∀ x ∈ (labels p n).1, x ∈ POOL) ∧ (labels p n).1.length = n := by
  have z := lbl_good n POOL [] p (by rw [pool_len]; exact hn) (by simpa using pool_nodup) (fun x hx => by simpa using hx)
  have l := lbl_len n POOL [] p
  have e : lbl n POOL [] p = labels p n := by unfold labels; rfl
  rw [e] at z l
  exact ⟨z.1, z.2, by simpa using l⟩
/-! ### the room that is left at each name -/
def room (rows : List Row) (x : Str) : Int := 2 - ((copiesOf rows x).length : Int)
def roomK (rows : List Row) : List (Str × A) := rows.map fun r => (r.1, .d (.int (room rows r.1)))
theorem room_names (rows : List Row) : (roomK rows).map (·.1) = namesOf rows := by simp [roomK]
theorem room_at {rows : List Row} {j : Nat} {q : Row} (h : rows[j]? = some q) : (roomK rows)[j]? = some (q.1, .d (.int (room rows q.1))) := by simp [roomK, h]
def isFree (rows : List Row) (x : Str) : Bool := decide (0 < room rows x)
def freeOf (rows : List Row) : List Str := (namesOf rows).filter (isFree rows)
def t_free : TI' := mBl (mBin fGt (mBin fIx (mVar 4) (mVar 7)) (mC (.int 0)))
def e_free : EI := mLc false (srcK (mVar 4)) (gN 7) t_free (mVar 7) [7]
theorem free_ok {rows : List Row} {t : Nat} {h : Hh} (ht : h[t]? = some (.dK (tabL (roomK rows)))) (hn : (namesOf rows).Nodup) (hz : rows.length ≤ 40) (x0 x1 x2 x3 x5 x6 x7 x8 x9 : Option A) :
    mLockS 4 (mAsg e_free (gN 6)) [x0, x1, x2, x3, some (.ref t), x5, x6, x7, x8, x9] h = some (.nx [x0, x1, x2, x3, some (.ref t), x5, some (.d (LS (freeOf rows))), x7, x8, x9] h) := by
  have hlt := (List.getElem?_eq_some_iff.mp ht).1
  let hL : Hh := h.set t (.lK (tabL (roomK rows)))
  have hL1 : hL[t]? = some (.lK (tabL (roomK rows))) := List.getElem?_set_self hlt
  obtain ⟨s, e1, e2, e3⟩ := keys_src (m := mVar 4) (ρ := [x0, x1, x2, x3, some (.ref t), x5, x6, x7, x8, x9]) (h := hL) (h1 := hL) (l := t) rfl hL1
  rw [room_names] at e2 e3
  have tb : F2.tabOf (.ref t) hL = some (.k (tabL (roomK rows))) := by simp only [F2.tabOf, hL1]
  obtain ⟨acc, H', ⟨ea, eh⟩, e4⟩ := lc_items (items := LA (namesOf rows)) (g := gN 7) (t := t_free) (m := mVar 7) (vs := [7]) (I := fun i acc h => acc = LA (((namesOf rows).take i).filter (isFree rows)) ∧ h = hL) e3 (by rw [e2, LA_len]) e1
    (fun i acc h' hi ⟨ea, eh⟩ => by
      subst eh
      have hi' : i < rows.length := by rw [LA_len, List.length_map] at hi; exact hi
      have hi2 : i < (namesOf rows).length := by rw [List.length_map]; exact hi'
      have gi : (LA (namesOf rows))[i] = .d (.str rows[i].1) := by simp [LA]
      have ni : (namesOf rows)[i] = rows[i].1 := by simp
      have e5 := at_tab tb (look_at (ks := roomK rows) (by rw [room_names]; exact hn) (room_at (List.getElem?_eq_getElem hi')))
      let ρ1 : En := [x0, x1, x2, x3, some (.ref t), x5, x6, some (.d (.str rows[i].1)), x8, x9]
      have a1 : mBin fIx (mVar 4) (mVar 7) ρ1 hL = some (.d (.int (room rows rows[i].1)), hL) := (bin_of (show mVar 4 ρ1 hL = some (.ref t, hL) from rfl) (show mVar 7 ρ1 hL = some (.d (.str rows[i].1), hL) from rfl)).trans e5
      have t1 : t_free ρ1 hL = some (isFree rows rows[i].1, hL) := bl_of ((bin_of (f := fGt) a1 (show mC (.int 0) ρ1 hL = some (.d (.int 0), hL) from rfl)).trans rfl)
      refine ⟨ρ1, hL, isFree rows rows[i].1, hL, by rw [gi]; rfl, t1, fun z => ⟨?_, rfl⟩, fun z => ⟨.d (.str rows[i].1), hL, rfl, ⟨?_, rfl⟩, ?_⟩⟩
      · rw [ea, take_snoc hi2, List.filter_append, ni, List.filter_cons, z]
        simp
      · rw [ea, take_snoc hi2, List.filter_append, ni, List.filter_cons, z, LA_snoc]
        simp
      · rw [ea, LA_len]
        have := List.length_filter_le (isFree rows) ((namesOf rows).take i)
        rw [List.length_take, List.length_map] at this
        omega) ⟨rfl, rfl⟩
  subst eh
  rw [LA_len, List.take_length] at ea
  have hle : (freeOf rows).length ≤ 40 := by
    unfold freeOf
    have := List.length_filter_le (isFree rows) (namesOf rows)
    rw [List.length_map] at this
    omega
  have l1 : e_free [x0, x1, x2, x3, some (.ref t), x5, x6, x7, x8, x9] hL = some (.d (LS (freeOf rows)), hL) := by
    unfold e_free
    rw [e4 false, ea]
    have z := mkL_data (xs := (freeOf rows).map D.str) (h := hL) (by rw [List.length_map]; omega)
    rw [List.map_map] at z
    exact z
  have back : hL.set t (.dK (tabL (roomK rows))) = h := by
    simp only [hL]
    rw [List.set_set]
    apply List.ext_getElem?
    intro j
    by_cases hj : t = j
    · subst hj
      rw [List.getElem?_set_self hlt, ht]
    · rw [List.getElem?_set_ne hj]
  have a1 := asg_N (i := 6) l1
  unfold mLockS
  simp only [List.getElem?_cons_succ, List.getElem?_cons_zero, ht]
  rw [show h.set t (.lK (tabL (roomK rows))) = hL from rfl, a1]
  simp only [Out.heap, hL1, Out.to, back]
  rfl
/-- the last one of some rows has no copies yet -/
theorem last_free {rows : List Row} {r : Row} (h : Fits [] (rows ++ [r])) : copiesOf (rows ++ [r]) r.1 = [] := by
  have good := h.good (by simp) (fun q hq => by cases hq)
  rw [List.nil_append] at good
  have hn := good.1
  rw [List.map_append, List.nodup_append] at hn
  have nw : r.1 ∉ namesOf rows := fun z => hn.2.2 _ z r.1 (by simp) rfl
  unfold copiesOf
  rw [List.map_eq_nil_iff, List.filter_eq_nil_iff]
  intro q hq z
  have z := of_decide_eq_true z
  obtain ⟨i, hi⟩ := List.mem_iff_getElem?.mp hq
  have f := h.at hi
  have s := f.srcs _ z
  rw [List.nil_append] at s
  have hlt := (List.getElem?_eq_some_iff.mp hi).1
  rw [List.length_append, List.length_singleton] at hlt
  have tk : (rows ++ [r]).take i = rows.take i := by
    rw [List.take_append_of_le_length (by omega)]
  rw [tk] at s
  obtain ⟨q', hq', e⟩ := List.mem_map.mp s
  exact nw (List.mem_map.mpr ⟨q', List.mem_of_mem_take hq', e⟩)
end K02
set_option Elab.async false
set_option linter.all false
set_option maxRecDepth 100000
set_option maxHeartbeats 1000000
namespace K02
open PySem PySem.Spec PyProof.Rows L2 F2
/-! ### a turn of rows -/
theorem len_pos {α : Type} {xs : List α} (h : xs ≠ []) : 0 < xs.length := List.length_pos_iff.mpr h
theorem set_self {α : Type} {xs : List α} {i : Nat} {x : α} (h : xs[i]? = some x) : xs.set i x = xs := by
  have hlt := (List.getElem?_eq_some_iff.mp h).1
  apply List.ext_getElem?
  intro j
  by_cases hj : i = j
  · subst hj
    rw [List.getElem?_set_self hlt, h]
  · rw [List.getElem?_set_ne hj]
theorem set_at {α : Type} {xs : List α} {i : Nat} {x y : α} (h : xs[i]? = some x) : (xs.set i y)[i]? = some y := List.getElem?_set_self (List.getElem?_eq_some_iff.mp h).1
structure St (H : Hh) (l : Nat) (p : Int × Int) (rows : List Row) (ks : List (Str × A)) (c : Nat) (ss : List Str) (h : Hh) : Prop where
  lt : l < H.length
  gt : H.length + 1 < c
  old : ∀ k, k < H.length → h[k]? = (H.set l (PUR p))[k]?
  fnd : h[H.length]? = some (.lst ((rows.map rowD).map A.d))
  tab : h[H.length + 1]? = some (.dK (tabL ks))
  cel : h[c]? = some (.lst (LA ss))
section
variable {H : Hh} {l : Nat} {p : Int × Int} {rows : List Row} {ks : List (Str × A)} {c : Nat} {ss : List Str} {h : Hh}
theorem St.pur (s : St H l p rows ks c ss h) : h[l]? = some (PUR p) := by
  rw [s.old l s.lt]
  exact List.getElem?_set_self s.lt
theorem St.setP (s : St H l p rows ks c ss h) (p' : Int × Int) : St H l p' rows ks c ss (h.set l (PUR p')) where
  lt := s.lt
  gt := s.gt
  old := fun k hk => by
    by_cases e : l = k
    · subst e
      rw [set_at s.pur, List.getElem?_set_self hk]
    · rw [List.getElem?_set_ne e, List.getElem?_set_ne e, s.old k hk, List.getElem?_set_ne e]
  fnd := by rw [List.getElem?_set_ne (by have := s.lt; omega)]; exact s.fnd
  tab := by rw [List.getElem?_set_ne (by have := s.lt; omega)]; exact s.tab
  cel := by rw [List.getElem?_set_ne (by have := s.lt; have := s.gt; omega)]; exact s.cel
theorem St.setC (s : St H l p rows ks c ss h) (ss' : List Str) : St H l p rows ks c ss' (h.set c (.lst (LA ss'))) where
  lt := s.lt
  gt := s.gt
  old := fun k hk => by rw [List.getElem?_set_ne (by have := s.gt; omega)]; exact s.old k hk
  fnd := by rw [List.getElem?_set_ne (by have := s.gt; omega)]; exact s.fnd
  tab := by rw [List.getElem?_set_ne (by have := s.gt; omega)]; exact s.tab
  cel := set_at s.cel
theorem St.setT (s : St H l p rows ks c ss h) (ks' : List (Str × A)) : St H l p rows ks' c ss (h.set (H.length + 1) (.dK (tabL ks'))) where
  lt := s.lt
  gt := s.gt
  old := fun k hk => by rw [List.getElem?_set_ne (by omega)]; exact s.old k hk
  fnd := by rw [List.getElem?_set_ne (by omega)]; exact s.fnd
  tab := set_at s.tab
  cel := by rw [List.getElem?_set_ne (by have := s.gt; omega)]; exact s.cel
theorem St.setF (s : St H l p rows ks c ss h) (rows' : List Row) : St H l p rows' ks c ss (h.set H.length (.lst ((rows'.map rowD).map A.d))) where
  lt := s.lt
  gt := s.gt
  old := fun k hk => by rw [List.getElem?_set_ne (by omega)]; exact s.old k hk
  fnd := set_at s.fnd
  tab := by rw [List.getElem?_set_ne (by omega)]; exact s.tab
  cel := by rw [List.getElem?_set_ne (by have := s.gt; omega)]; exact s.cel
def dr (m : Int) : EI := mCall 2 fn_law_draw (mCons (mVar 0) (mCons (mC (.int m)) mNil))
theorem St.draw (s : St H l p rows ks c ss h) {m : Int} (h0 : 0 < m) (h1 : m < 1073741824) (r : En) : dr m (some (.ref l) :: r) h = some (.d (.int (drw p m).1), h.set l (PUR (drw p m).2)) :=
  (call_of (n := 2) (F := fn_law_draw) (show mCons (mVar 0) (mCons (mC (.int m)) mNil) (some (.ref l) :: r) h = some ([.ref l, .d (.int m)], h) from rfl) rfl).trans (draw_eq h0 h1 s.pur)
theorem St.pick (s : St H l p rows ks c ss h) {xs : List Str} (h0 : xs ≠ []) (h1 : xs.length < 1000) {m : EI} {r : En} (e : m (some (.ref l) :: r) h = some (.d (LS xs), h)) :
    ∃ a p', a ∈ xs ∧ mCall 2 fn_law_pick (mCons (mVar 0) (mCons m mNil)) (some (.ref l) :: r) h = some (.d (.str a), h.set l (PUR p')) := by
  refine ⟨(pck p xs).1, (pck p xs).2, ?_, (call_of (n := 2) (F := fn_law_pick) (cons_of (show mVar 0 (some (.ref l) :: r) h = some (.ref l, h) from rfl) (cons_of e (show mNil (some (.ref l) :: r) h = some ([], h) from rfl))) rfl).trans (pick_eq h0 h1 s.pur)⟩
  have hp : 0 < (xs.length : Int) := by have := len_pos h0; omega
  have lo := drw_lo (p := p) hp
  have hi := drw_hi (p := p) hp
  have hi2 : (drw p xs.length).1.toNat < xs.length := by omega
  have e2 : (pck p xs).1 = xs[(drw p xs.length).1.toNat] := by simp [pck, List.getD, hi2]
  rw [e2]
  exact List.getElem_mem hi2
def e_near : EI := (mBin fIx (mVar 6) (mOn fMax2 (mCons (mC (.int 0)) (mCons (mBin fSub (mBin fSub (mOn (orC fLen fLenD) (mCons (mVar 6) mNil)) (mC (.int 1))) (dr 4)) mNil))))
theorem St.near (s : St H l p rows ks c ss h) {free : List Str} (h0 : free ≠ []) (x1 x2 x3 x4 x5 x7 x8 x9 : Option A) :
    ∃ a p', a ∈ free ∧ e_near [some (.ref l), x1, x2, x3, x4, x5, some (.d (LS free)), x7, x8, x9] h = some (.d (.str a), h.set l (PUR p')) := by
  let ρ : En := [some (.ref l), x1, x2, x3, x4, x5, some (.d (LS free)), x7, x8, x9]
  have hp := len_pos h0
  have lo := drw_lo (p := p) (m := 4) (by omega)
  have v6 : mVar 6 ρ h = some (.d (LS free), h) := rfl
  have ln : mOn (orC fLen fLenD) (mCons (mVar 6) mNil) ρ h = some (.d (.int free.length), h) := (on_of (cons_of v6 (show mNil ρ h = some ([], h) from rfl))).trans (sq_len (b := false))
  have s1 : mBin fSub (mOn (orC fLen fLenD) (mCons (mVar 6) mNil)) (mC (.int 1)) ρ h = some (.d (.int ((free.length : Int) - 1)), h) := (bin_of (f := fSub) ln (show mC (.int 1) ρ h = some (.d (.int 1), h) from rfl)).trans rfl
  have s2 : mBin fSub (mBin fSub (mOn (orC fLen fLenD) (mCons (mVar 6) mNil)) (mC (.int 1))) (dr 4) ρ h = some (.d (.int ((free.length : Int) - 1 - (drw p 4).1)), h.set l (PUR (drw p 4).2)) := (bin_of (f := fSub) s1 (s.draw (by omega) (by omega) _)).trans rfl
  generalize hv : (free.length : Int) - 1 - (drw p 4).1 = v at s2
  have s3 : mOn fMax2 (mCons (mC (.int 0)) (mCons (mBin fSub (mBin fSub (mOn (orC fLen fLenD) (mCons (mVar 6) mNil)) (mC (.int 1))) (dr 4)) mNil)) ρ h = some (.d (.int (if v > 0 then v else 0)), h.set l (PUR (drw p 4).2)) := (on_of (cons_of (show mC (.int 0) ρ h = some (.d (.int 0), h) from rfl) (cons_of s2 (show mNil ρ (h.set l (PUR (drw p 4).2)) = some ([], h.set l (PUR (drw p 4).2)) from rfl)))).trans rfl
  have i0 : 0 ≤ (if v > 0 then v else 0) := by split <;> omega
  have i1 : (if v > 0 then v else 0) < (free.length : Int) := by split <;> omega
  obtain ⟨i, hi⟩ := Int.eq_ofNat_of_zero_le i0
  have hil : i < free.length := by omega
  refine ⟨free[i], (drw p 4).2, List.getElem_mem hil, ?_⟩
  rw [hi] at s3
  exact (bin_of (f := fIx) v6 s3).trans (sq_at (b := false) hil)
def e_pick1 : EI := (mIf (mBl (mBin fGt (dr 3) (mC (.int 0)))) (mVar 9) (mCall 2 fn_law_pick (mCons (mVar 0) (mCons (mVar 6) mNil))))
theorem St.pick1 (s : St H l p rows ks c ss h) {free : List Str} (h0 : free ≠ []) (h1 : free.length < 1000) {a : Str} (ha : a ∈ free) (x1 x2 x3 x4 x5 x7 x8 : Option A) :
    ∃ b p', b ∈ free ∧ e_pick1 [some (.ref l), x1, x2, x3, x4, x5, some (.d (LS free)), x7, x8, some (.d (.str a))] h = some (.d (.str b), h.set l (PUR p')) := by
  let ρ : En := [some (.ref l), x1, x2, x3, x4, x5, some (.d (LS free)), x7, x8, some (.d (.str a))]
  have g : mBl (mBin fGt (dr 3) (mC (.int 0))) ρ h = some (decide ((0 : Int) < (drw p 3).1), h.set l (PUR (drw p 3).2)) := by
    unfold mBl
    rw [bin_of (f := fGt) (s.draw (m := 3) (by omega) (by omega) _) (show mC (.int 0) ρ (h.set l (PUR (drw p 3).2)) = some (.d (.int 0), h.set l (PUR (drw p 3).2)) from rfl)]
    rfl
  have s' := s.setP (drw p 3).2
  by_cases z : (0 : Int) < (drw p 3).1
  · rw [decide_eq_true z] at g
    refine ⟨a, (drw p 3).2, ha, ?_⟩
    show e_pick1 ρ h = _
    unfold e_pick1 mIf
    rw [g]
    rfl
  · rw [decide_eq_false z] at g
    obtain ⟨b, p', hb, e⟩ := s'.pick h0 h1 (m := mVar 6) (r := [x1, x2, x3, x4, x5, some (.d (LS free)), x7, x8, some (.d (.str a))]) rfl
    rw [List.set_set] at e
    refine ⟨b, p', hb, ?_⟩
    show e_pick1 ρ h = _
    unfold e_pick1 mIf
    rw [g]
    exact e
def b_near : SI := (mIfS (mBl (mBin (fEqD true) (mVar 3) (mOn (mkL false) mNil))) (mSeq (mAsg e_near (gN 9)) (mDrop (mMet "list" fAppend (mVar 8) (mCons e_pick1 mNil)))) mSkip)
theorem drop_of {m : EI} {ρ : En} {h h1 : Hh} {a : A} (e : m ρ h = some (a, h1)) : mDrop m ρ h = some (.nx ρ h1) := by
  unfold mDrop
  rw [e]
theorem if_yes {t : TI'} {a b : SI} {ρ : En} {h h1 : Hh} (e : t ρ h = some (true, h1)) : mIfS t a b ρ h = a ρ h1 := by
  unfold mIfS
  rw [e]
theorem if_no {t : TI'} {a : SI} {ρ : En} {h h1 : Hh} (e : t ρ h = some (false, h1)) : mIfS t a mSkip ρ h = some (.nx ρ h1) := by
  unfold mIfS
  rw [e]
  rfl
theorem St.b_near (s : St H l p rows ks c [] h) (hne : rows ≠ []) (ho : ∀ r ∈ rows, PyData.strOk r.1 = true ∧ ∀ s ∈ r.2, PyData.strOk s = true) {free : List Str} (h0 : free ≠ []) (h1 : free.length < 1000) (x1 x2 x4 x5 x7 x9 : Option A) :
    ∃ a p' x9' h', a ∈ free ∧ K02.b_near [some (.ref l), x1, x2, some (.ref H.length), x4, x5, some (.d (LS free)), x7, some (.ref c), x9] h = some (.nx [some (.ref l), x1, x2, some (.ref H.length), x4, x5, some (.d (LS free)), x7, some (.ref c), x9'] h') ∧ St H l p' rows ks c [a] h' := by
  have t := rows_found ho s.fnd
  rw [decide_eq_false hne] at t
  have t1 := bl_of ((bin_of (f := fEqD true) (show mVar 3 [some (.ref l), x1, x2, some (.ref H.length), x4, x5, some (.d (LS free)), x7, some (.ref c), x9] h = some (.ref H.length, h) from rfl) (nil_data [some (.ref l), x1, x2, some (.ref H.length), x4, x5, some (.d (LS free)), x7, some (.ref c), x9] h)).trans t)
  obtain ⟨a, p1, ha, e1⟩ := s.near h0 x1 x2 (some (.ref H.length)) x4 x5 x7 (some (.ref c)) x9
  have s1 := s.setP p1
  obtain ⟨b, p2, hb, e2⟩ := s1.pick1 h0 h1 ha x1 x2 (some (.ref H.length)) x4 x5 x7 (some (.ref c))
  rw [List.set_set] at e2
  have s2 := s.setP p2
  have s3 := s2.setC [b]
  have ap := append_eq (y := .d (.str b)) s2.cel (by simp [LA])
  have e3 := (met_of (T := "list") (F := fAppend) (show mVar 8 [some (.ref l), x1, x2, some (.ref H.length), x4, x5, some (.d (LS free)), x7, some (.ref c), some (.d (.str a))] (h.set l (PUR p1)) = some (.ref c, h.set l (PUR p1)) from rfl) (isT_list s1.cel) (cons_of e2 (show mNil [some (.ref l), x1, x2, some (.ref H.length), x4, x5, some (.d (LS free)), x7, some (.ref c), some (.d (.str a))] (h.set l (PUR p2)) = some ([], h.set l (PUR p2)) from rfl))).trans ap
  exact ⟨b, p2, some (.d (.str a)), _, hb, (if_yes t1).trans ((seq_nx (asg_N (i := 9) e1)).trans (drop_of e3)), s3⟩
end
end K02
set_option Elab.async false
set_option linter.all false
set_option maxRecDepth 100000
set_option maxHeartbeats 1000000
namespace K02
open PySem PySem.Spec PyProof.Rows L2 F2
theorem fvs_LA : ∀ ys : List Str, fvs (LA ys) = some (ys.map V.str)
  | [] => rfl
  | y :: ys => by
    show (fvs (LA ys)).map (V.str y :: ·) = _
    rw [fvs_LA ys]
    rfl
theorem not_in_cell {x : Str} {ys : List Str} {h : Hh} {c : Nat} (hc : h[c]? = some (.lst (LA ys))) : fIn true (.d (.str x)) (.ref c) h = some (.d (.bl (!decide (x ∈ ys))), h) := by
  have e : fInF true (.d (.str x)) (.ref c) h = some (.d (.bl (!decide (x ∈ ys))), h) := by
    unfold fInF
    rw [show fvs [.d (.str x)] = some [V.str x] from rfl]
    dsimp only
    rw [show itemsL (.ref c) h = some (LA ys) by simp [itemsL, hc]]
    dsimp only
    rw [fvs_LA]
    simp [inV_strs]
  have k : fInK true (.d (.str x)) (.ref c) h = none := by
    unfold fInK
    simp [F2.tabOf, hc]
  unfold fIn orF
  rw [k]
  dsimp only
  rw [e]
theorem one_of {free ss : List Str} (hf : free.Nodup) (all : ∀ x ∈ free, x ∈ ss) (hs : ss.length ≤ 1) : free.length ≤ 1 := by
  match free, hf, all with
  | [], _, _ => simp
  | [_], _, _ => simp
  | x :: y :: r, hf, all =>
    have h1 := all x (by simp)
    have h2 := all y (by simp)
    match ss, hs, h1, h2 with
    | [], _, h1, _ => cases h1
    | [a], _, h1, h2 =>
      simp at h1 h2
      subst h1
      subst h2
      simp at hf
    | _ :: _ :: _, hs, _, _ => simp at hs
def isNew (ss : List Str) (x : Str) : Bool := !decide (x ∈ ss)
def t_rest : TI' := mBl (mBin (fIn true) (mVar 7) (mVar 8))
def e_rest : EI := mLc false (srcQ (mVar 6)) (gN 7) t_rest (mVar 7) [7]
theorem rest_ok {h : Hh} {c : Nat} {ss free : List Str} (hc : h[c]? = some (.lst (LA ss))) (hz : free.length ≤ 40) (x0 x1 x2 x3 x4 x5 x7 x9 : Option A) :
    e_rest [x0, x1, x2, x3, x4, x5, some (.d (LS free)), x7, some (.ref c), x9] h = some (.d (LS (free.filter (isNew ss))), h) := by
  let ρ : En := [x0, x1, x2, x3, x4, x5, some (.d (LS free)), x7, some (.ref c), x9]
  obtain ⟨s, q1, q2, q3⟩ := sq_src (b := false) (xs := free) (m := mVar 6) (ρ := ρ) (h := h) (h1 := h) rfl
  obtain ⟨acc, H', ⟨ea, eh⟩, e4⟩ := lc_items (items := LA free) (g := gN 7) (t := t_rest) (m := mVar 7) (vs := [7]) (I := fun i acc h' => acc = LA ((free.take i).filter (isNew ss)) ∧ h' = h) q3 q2 q1
    (fun i acc h' hi ⟨ea, eh⟩ => by
      subst eh
      have hi' : i < free.length := by rw [LA_len] at hi; exact hi
      have gi : (LA free)[i] = .d (.str free[i]) := by simp [LA]
      let ρ1 : En := [x0, x1, x2, x3, x4, x5, some (.d (LS free)), some (.d (.str free[i])), some (.ref c), x9]
      have t1 : t_rest ρ1 h' = some (isNew ss free[i], h') := bl_of ((bin_of (f := fIn true) (show mVar 7 ρ1 h' = some (.d (.str free[i]), h') from rfl) (show mVar 8 ρ1 h' = some (.ref c, h') from rfl)).trans (not_in_cell hc))
      refine ⟨ρ1, h', isNew ss free[i], h', by rw [gi]; rfl, t1, fun z => ⟨?_, rfl⟩, fun z => ⟨.d (.str free[i]), h', rfl, ⟨?_, rfl⟩, ?_⟩⟩
      · rw [ea, take_snoc hi', List.filter_append, List.filter_cons, z]
        simp
      · rw [ea, take_snoc hi', List.filter_append, List.filter_cons, z, LA_snoc]
        simp
      · rw [ea, LA_len]
        have := List.length_filter_le (isNew ss) (free.take i)
        rw [List.length_take] at this
        omega) ⟨rfl, rfl⟩
  subst eh
  rw [LA_len, List.take_length] at ea
  have hle := List.length_filter_le (isNew ss) free
  unfold e_rest
  rw [e4 false, ea]
  have z := mkL_data (xs := (free.filter (isNew ss)).map D.str) (h := H') (by rw [List.length_map]; omega)
  rw [List.map_map] at z
  exact z
section
variable {H : Hh} {l : Nat} {p : Int × Int} {rows : List Row} {ks : List (Str × A)} {c : Nat} {ss : List Str} {h : Hh}
def t_join : TI' := (mAndT (mBl (mBin fGt (mOn (orC fLen fLenD) (mCons (mVar 6) mNil)) (mC (.int 1)))) (mAndT (mBl (mBin fGt (mVar 2) (mC (.int 0)))) (mBl (mBin (fEqD false) (dr 2) (mC (.int 0))))))
theorem and_no {a b : TI'} {ρ : En} {h h1 : Hh} (e : a ρ h = some (false, h1)) : mAndT a b ρ h = some (false, h1) := by
  unfold mAndT
  rw [e]
theorem and_yes {a b : TI'} {ρ : En} {h h1 : Hh} (e : a ρ h = some (true, h1)) : mAndT a b ρ h = b ρ h1 := by
  unfold mAndT
  rw [e]
theorem St.t_join (s : St H l p rows ks c ss h) (free : List Str) (j : Int) (x1 x3 x4 x5 x7 x8 x9 : Option A) :
    ∃ b p', K02.t_join [some (.ref l), x1, some (.d (.int j)), x3, x4, x5, some (.d (LS free)), x7, x8, x9] h = some (b, h.set l (PUR p')) ∧ (b = true → 1 < free.length) := by
  let ρ : En := [some (.ref l), x1, some (.d (.int j)), x3, x4, x5, some (.d (LS free)), x7, x8, x9]
  have same : h.set l (PUR p) = h := set_self s.pur
  have a1 : mBl (mBin fGt (mOn (orC fLen fLenD) (mCons (mVar 6) mNil)) (mC (.int 1))) ρ h = some (decide ((1 : Int) < (free.length : Int)), h) := bl_of ((bin_of (f := fGt) ((on_of (cons_of (show mVar 6 ρ h = some (.d (LS free), h) from rfl) (show mNil ρ h = some ([], h) from rfl))).trans (sq_len (b := false))) (show mC (.int 1) ρ h = some (.d (.int 1), h) from rfl)).trans rfl)
  by_cases z1 : (1 : Int) < (free.length : Int)
  · rw [decide_eq_true z1] at a1
    have a2 : mBl (mBin fGt (mVar 2) (mC (.int 0))) ρ h = some (decide ((0 : Int) < j), h) := bl_of ((bin_of (f := fGt) (show mVar 2 ρ h = some (.d (.int j), h) from rfl) (show mC (.int 0) ρ h = some (.d (.int 0), h) from rfl)).trans rfl)
    by_cases z2 : (0 : Int) < j
    · rw [decide_eq_true z2] at a2
      have d := s.draw (m := 2) (by omega) (by omega) [x1, some (.d (.int j)), x3, x4, x5, some (.d (LS free)), x7, x8, x9]
      have a3 : mBl (mBin (fEqD false) (dr 2) (mC (.int 0))) ρ h = some (decide ((drw p 2).1 = 0), h.set l (PUR (drw p 2).2)) := by
        unfold mBl
        rw [(bin_of (f := fEqD false) d (show mC (.int 0) ρ (h.set l (PUR (drw p 2).2)) = some (.d (.int 0), h.set l (PUR (drw p 2).2)) from rfl)).trans (int_eq _ _ _)]
      exact ⟨_, _, (and_yes a1).trans ((and_yes a2).trans a3), fun _ => by omega⟩
    · rw [decide_eq_false z2] at a2
      refine ⟨false, p, ?_, fun z => by cases z⟩
      rw [same]
      exact (and_yes a1).trans (and_no a2)
  · rw [decide_eq_false z1] at a1
    refine ⟨false, p, ?_, fun z => by cases z⟩
    rw [same]
    exact and_no a1
def b_join : SI := (mIfS K02.t_join (mSeq (mAsg (mBin fSub (mVar 2) (mC (.int 1))) (gN 2)) (mDrop (mMet "list" fAppend (mVar 8) (mCons (mCall 2 fn_law_pick (mCons (mVar 0) (mCons e_rest mNil))) mNil)))) mSkip)
theorem St.b_join (s : St H l p rows ks c ss h) (hs : ss.length ≤ 1) {free : List Str} (hf : free.Nodup) (hz : free.length ≤ 40) (j : Int) (x1 x3 x4 x5 x7 x9 : Option A) :
    ∃ j' p' ss' h', K02.b_join [some (.ref l), x1, some (.d (.int j)), x3, x4, x5, some (.d (LS free)), x7, some (.ref c), x9] h = some (.nx [some (.ref l), x1, some (.d (.int j')), x3, x4, x5, some (.d (LS free)), x7, some (.ref c), x9] h') ∧ St H l p' rows ks c ss' h' ∧ (ss' = ss ∨ (1 < free.length ∧ ∃ b, b ∈ free ∧ b ∉ ss ∧ ss' = ss ++ [b])) := by
  obtain ⟨b, p1, t, hb⟩ := s.t_join free j x1 x3 x4 x5 x7 (some (.ref c)) x9
  have s1 := s.setP p1
  cases b with
  | false => exact ⟨j, p1, ss, _, if_no t, s1, .inl rfl⟩
  | true =>
    have h1 := hb rfl
    have hne : free.filter (isNew ss) ≠ [] := by
      intro z
      rw [List.filter_eq_nil_iff] at z
      have all : ∀ x ∈ free, x ∈ ss := fun x hx => by
        have := z x hx
        unfold isNew at this
        simpa using this
      exact absurd h1 (Nat.not_lt.mpr (one_of hf all hs))
    have hle := List.length_filter_le (isNew ss) free
    obtain ⟨a, p2, ha, e⟩ := s1.pick hne (by omega) (m := e_rest) (r := [x1, some (.d (.int (j - 1))), x3, x4, x5, some (.d (LS free)), x7, some (.ref c), x9]) (rest_ok s1.cel hz _ _ _ _ _ _ _ _)
    rw [List.set_set] at e
    have s2 := s.setP p2
    have ap := append_eq (y := .d (.str a)) s2.cel (by rw [LA_len]; omega)
    rw [LA_snoc] at ap
    have e3 := (met_of (T := "list") (F := fAppend) (show mVar 8 [some (.ref l), x1, some (.d (.int (j - 1))), x3, x4, x5, some (.d (LS free)), x7, some (.ref c), x9] (h.set l (PUR p1)) = some (.ref c, h.set l (PUR p1)) from rfl) (isT_list s1.cel) (cons_of e (show mNil [some (.ref l), x1, some (.d (.int (j - 1))), x3, x4, x5, some (.d (LS free)), x7, some (.ref c), x9] (h.set l (PUR p2)) = some ([], h.set l (PUR p2)) from rfl))).trans ap
    have a1 : mBin fSub (mVar 2) (mC (.int 1)) [some (.ref l), x1, some (.d (.int j)), x3, x4, x5, some (.d (LS free)), x7, some (.ref c), x9] (h.set l (PUR p1)) = some (.d (.int (j - 1)), h.set l (PUR p1)) := rfl
    rw [List.mem_filter] at ha
    refine ⟨j - 1, p2, ss ++ [a], _, (if_yes t).trans ((seq_nx (asg_N (i := 2) a1)).trans (drop_of e3)), s2.setC (ss ++ [a]), .inr ⟨h1, a, ha.1, ?_, rfl⟩⟩
    have := ha.2
    unfold isNew at this
    simpa using this
end
/-! ### the table changed at a name that is there -/
theorem put_old {ks : List (Str × A)} {x : Str} {v : A} (h : x ∈ ks.map (·.1)) : putG (tabL ks) (.inr x : Key) v = tabL (ks.map fun k => if k.1 = x then (k.1, v) else k) := by
  unfold putG
  have e : ((tabL ks).any fun kv => decide (kv.1 = (Sum.inr x : Key))) = true := by
    rw [List.any_eq_true]
    obtain ⟨k, hk, rfl⟩ := List.mem_map.mp h
    exact ⟨(.inr k.1, k.2), List.mem_map.mpr ⟨k, hk, rfl⟩, by simp⟩
  rw [if_pos e]
  unfold tabL
  rw [List.map_map, List.map_map]
  apply List.map_congr_left
  intro k hk
  by_cases c : k.1 = x
  · simp [c]
  · simp [c]
/-- the names with a number each -/
def valK (names : List Str) (val : Str → Int) : List (Str × A) := names.map fun x => (x, .d (.int (val x)))
theorem val_names (names : List Str) (val : Str → Int) : (valK names val).map (·.1) = names := by
  unfold valK
  rw [List.map_map]
  exact List.map_id _
theorem val_at {names : List Str} (hn : names.Nodup) (val : Str → Int) {x : Str} (hx : x ∈ names) : lookG (tabL (valK names val)) (.inr x : Key) = some (.d (.int (val x))) := by
  obtain ⟨j, hj⟩ := List.mem_iff_getElem?.mp hx
  exact look_at (ks := valK names val) (by rw [val_names]; exact hn) (j := j) (k := (x, .d (.int (val x)))) (by simp [valK, hj])
theorem val_put (names : List Str) (val : Str → Int) {x : Str} (hx : x ∈ names) (v : Int) : putG (tabL (valK names val)) (.inr x : Key) (.d (.int v)) = tabL (valK names fun y => if y = x then v else val y) := by
  rw [put_old (by rw [val_names]; exact hx)]
  congr 1
  unfold valK
  rw [List.map_map]
  apply List.map_congr_left
  intro y hy
  by_cases c : y = x
  · simp [c]
  · simp [c]
theorem val_new {names : List Str} {val : Str → Int} {x : Str} (hx : x ∉ names) (v : Int) : putG (tabL (valK names val)) (.inr x : Key) (.d (.int v)) = tabL (valK (names ++ [x]) fun y => if y = x then v else val y) := by
  rw [put_new (by rw [val_names]; exact hx)]
  congr 1
  unfold valK
  rw [List.map_append]
  congr 1
  · apply List.map_congr_left
    intro y hy
    have c : ¬ y = x := fun z => hx (z ▸ hy)
    simp [c]
  · simp
end K02
set_option Elab.async false
set_option linter.all false
set_option maxRecDepth 100000
set_option maxHeartbeats 1000000
namespace K02
open PySem PySem.Spec PyProof.Rows L2 F2
/-! ### walks over a cell -/
theorem for_goI {items : List A} {s : Src} {turn : A → En → Hh → Option Out} {I : Nat → En → Hh → Prop} (hs : ∀ i ρ h, I i ρ h → s.nxt i h = some items[i]?)
    (step : ∀ (i : Nat) (ρ : En) (H : Hh) (hi : i < items.length), I i ρ H → ∃ ρ' H', turn items[i] ρ H = some (.nx ρ' H') ∧ I (i + 1) ρ' H') :
    ∀ (m i : Nat) (ρ : En) (H : Hh), i + m = items.length → I i ρ H → ∃ ρ' H', forGo s turn m i ρ H = some (.nx ρ' H') ∧ I items.length ρ' H' := by
  intro m
  induction m with
  | zero =>
    intro i ρ H hi h
    refine ⟨ρ, H, ?_, ?_⟩
    · unfold forGo
      rw [hs i ρ H h, List.getElem?_eq_none (by omega)]
    · have e : i = items.length := by omega
      rw [← e]; exact h
  | succ m ih =>
    intro i ρ H hi h
    have hlt : i < items.length := by omega
    obtain ⟨ρ1, H1, e1, h1⟩ := step i ρ H hlt h
    obtain ⟨ρ2, H2, e2, h2⟩ := ih (i + 1) ρ1 H1 (by omega) h1
    refine ⟨ρ2, H2, ?_, h2⟩
    unfold forGo
    rw [hs i ρ H h, List.getElem?_eq_getElem hlt]
    dsimp only
    rw [e1]
    exact e2
theorem for_itemsI {items : List A} {s : Src} {it : SrcI} {g : GI} {b : SI} {I : Nat → En → Hh → Prop} {ρ : En} {H H1 : Hh} (hs : ∀ i ρ h, I i ρ h → s.nxt i h = some items[i]?) (hf : s.fuel = items.length) (hit : it ρ H = some (s, H1))
    (step : ∀ (i : Nat) (ρ : En) (H : Hh) (hi : i < items.length), I i ρ H → ∃ ρ' H', mTurn g b items[i] ρ H = some (.nx ρ' H') ∧ I (i + 1) ρ' H') (h0 : I 0 ρ H1) : ∃ ρ' H', mFor it g b ρ H = some (.nx ρ' H') ∧ I items.length ρ' H' := by
  unfold mFor
  rw [hit]
  dsimp only
  rw [hf]
  exact for_goI hs step items.length 0 ρ H1 (by omega) h0
theorem cell_src {m : EI} {ρ : En} {h h1 : Hh} {c : Nat} {xs : List A} (e : m ρ h = some (.ref c, h1)) (hc : h1[c]? = some (.lst xs)) : srcQ m ρ h = some (⟨listN (.ref c), xs.length⟩, h1) := by
  unfold srcQ srcL
  rw [e]
  dsimp only
  rw [show itemsL (.ref c) h1 = some xs by simp [itemsL, hc]]
theorem st_key {h : Hh} {t : Nat} {kvs : List (Key × A)} {x : Str} {v : A} (ht : h[t]? = some (.dK kvs)) (hz : kvs.length < 1000) : stF (.ref t) (.d (.str x)) v h = some (h.set t (.dK (putG kvs (.inr x) v))) := by
  have lv := LIMv
  unfold stF
  dsimp only
  rw [ht]
  dsimp only
  rw [show keyOf (.str x) = some (.inr x) from rfl]
  dsimp only
  rw [if_pos (by omega)]
section
variable {H : Hh} {l : Nat} {p : Int × Int} {rows : List Row} {ks : List (Str × A)} {c : Nat} {ss : List Str} {h : Hh}
def b_less : SI := (mAsg (mBin fSub (mBin fIx (mVar 4) (mVar 7)) (mC (.int 1))) (F2.gSub (mVar 4) (mVar 7)))
theorem St.less {val : Str → Int} (hn : (namesOf rows).Nodup) (hz : rows.length ≤ 40) (s : St H l p rows (valK (namesOf rows) val) c ss h) {x : Str} (hx : x ∈ namesOf rows) (x0 x1 x2 x3 x5 x6 x8 x9 : Option A) :
    ∃ h', b_less [x0, x1, x2, x3, some (.ref (H.length + 1)), x5, x6, some (.d (.str x)), x8, x9] h = some (.nx [x0, x1, x2, x3, some (.ref (H.length + 1)), x5, x6, some (.d (.str x)), x8, x9] h') ∧ St H l p rows (valK (namesOf rows) fun y => if y = x then val x - 1 else val y) c ss h' := by
  let ρ : En := [x0, x1, x2, x3, some (.ref (H.length + 1)), x5, x6, some (.d (.str x)), x8, x9]
  have tb : F2.tabOf (.ref (H.length + 1)) h = some (.k (tabL (valK (namesOf rows) val))) := by simp only [F2.tabOf, s.tab]
  have v4 : mVar 4 ρ h = some (.ref (H.length + 1), h) := rfl
  have v7 : mVar 7 ρ h = some (.d (.str x), h) := rfl
  have e1 := (bin_of (f := fIx) v4 v7).trans (at_tab tb (val_at hn val hx))
  have e2 : mBin fSub (mBin fIx (mVar 4) (mVar 7)) (mC (.int 1)) ρ h = some (.d (.int (val x - 1)), h) := (bin_of (f := fSub) e1 (show mC (.int 1) ρ h = some (.d (.int 1), h) from rfl)).trans rfl
  have e3 := st_key (x := x) (v := .d (.int (val x - 1))) s.tab (by simp [tabL, valK]; omega)
  rw [val_put _ _ hx] at e3
  refine ⟨_, ?_, s.setT (valK (namesOf rows) fun y => if y = x then val x - 1 else val y)⟩
  show b_less ρ h = _
  unfold b_less mAsg
  rw [e2]
  dsimp only
  unfold F2.gSub
  rw [v4]
  dsimp only
  rw [v7]
  dsimp only
  rw [e3]
  rfl
def b_take : SI := mFor (srcQ (mVar 8)) (gN 7) b_less
theorem St.b_take {val : Str → Int} (hn : (namesOf rows).Nodup) (hz : rows.length ≤ 40) (s : St H l p rows (valK (namesOf rows) val) c ss h) (hs : ∀ x ∈ ss, x ∈ namesOf rows) (hd : ss.Nodup) (x0 x1 x2 x3 x5 x6 x7 x9 : Option A) :
    ∃ x7' h', K02.b_take [x0, x1, x2, x3, some (.ref (H.length + 1)), x5, x6, x7, some (.ref c), x9] h = some (.nx [x0, x1, x2, x3, some (.ref (H.length + 1)), x5, x6, x7', some (.ref c), x9] h') ∧ St H l p rows (valK (namesOf rows) fun y => val y - if y ∈ ss then 1 else 0) c ss h' := by
  obtain ⟨ρ', h', e, x7', e1, s'⟩ := for_itemsI (items := LA ss) (g := gN 7) (b := b_less) (ρ := [x0, x1, x2, x3, some (.ref (H.length + 1)), x5, x6, x7, some (.ref c), x9]) (H := h)
    (I := fun i ρ h => ∃ x7 : Option A, ρ = [x0, x1, x2, x3, some (.ref (H.length + 1)), x5, x6, x7, some (.ref c), x9] ∧ St H l p rows (valK (namesOf rows) fun y => val y - if y ∈ ss.take i then 1 else 0) c ss h)
    (fun i ρ h' ⟨_, _, s'⟩ => by simp [listN, itemsL, s'.cel]) rfl (cell_src (m := mVar 8) rfl s.cel)
    (fun i ρ h' hi ⟨x7, e, s'⟩ => by
      subst e
      have hi' : i < ss.length := by rw [LA_len] at hi; exact hi
      have gi : (LA ss)[i] = .d (.str ss[i]) := by simp [LA]
      obtain ⟨h2, e2, s2⟩ := s'.less hn hz (hs _ (List.getElem_mem hi')) x0 x1 x2 x3 x5 x6 (some (.ref c)) x9
      refine ⟨_, h2, by rw [gi]; exact e2, _, rfl, ?_⟩
      have hni : ss[i] ∉ ss.take i := fun z => by
        obtain ⟨j, hj⟩ := List.mem_iff_getElem?.mp z
        have hji : j < i := by
          have := (List.getElem?_eq_some_iff.mp hj).1
          rw [List.length_take] at this
          omega
        rw [List.getElem?_take_of_lt hji] at hj
        have e := (List.getElem?_inj (List.getElem?_eq_some_iff.mp hj).1 hd).mp (hj.trans (List.getElem?_eq_getElem hi').symm)
        omega
      have ev : (fun y => if y = ss[i] then (val ss[i] - if ss[i] ∈ ss.take i then 1 else 0) - 1 else val y - if y ∈ ss.take i then 1 else 0) = fun y => val y - if y ∈ ss.take (i + 1) then (1 : Int) else 0 := by
        funext y
        rw [take_snoc hi']
        by_cases c1 : y = ss[i]
        · rw [if_pos c1, if_neg hni, if_pos (by rw [c1]; exact List.mem_append.mpr (.inr (List.mem_singleton.mpr rfl))), c1]
          omega
        · rw [if_neg c1]
          by_cases c2 : y ∈ ss.take i
          · rw [if_pos c2, if_pos (List.mem_append.mpr (.inl c2))]
          · rw [if_neg c2, if_neg (fun z => by
              rcases List.mem_append.mp z with z | z
              · exact c2 z
              · exact c1 (by simpa using z))]
      rw [ev] at s2
      exact s2) ⟨x7, rfl, by simpa using s⟩
  rw [LA_len, List.take_length] at s'
  rw [e1] at e
  exact ⟨x7', h', e, s'⟩
def b_put : SI := (mAsg (mC (.int 2)) (F2.gSub (mVar 4) (mVar 5)))
theorem St.b_put {val : Str → Int} (hz : rows.length ≤ 40) (s : St H l p rows (valK (namesOf rows) val) c ss h) {x : Str} (hx : x ∉ namesOf rows) (x0 x1 x2 x3 x6 x7 x8 x9 : Option A) :
    ∃ h', K02.b_put [x0, x1, x2, x3, some (.ref (H.length + 1)), some (.d (.str x)), x6, x7, x8, x9] h = some (.nx [x0, x1, x2, x3, some (.ref (H.length + 1)), some (.d (.str x)), x6, x7, x8, x9] h') ∧ St H l p rows (valK (namesOf rows ++ [x]) fun y => if y = x then 2 else val y) c ss h' := by
  let ρ : En := [x0, x1, x2, x3, some (.ref (H.length + 1)), some (.d (.str x)), x6, x7, x8, x9]
  have v4 : mVar 4 ρ h = some (.ref (H.length + 1), h) := rfl
  have v5 : mVar 5 ρ h = some (.d (.str x), h) := rfl
  have e3 := st_key (x := x) (v := .d (.int 2)) s.tab (by simp [tabL, valK]; omega)
  rw [val_new hx] at e3
  refine ⟨_, ?_, s.setT (valK (namesOf rows ++ [x]) fun y => if y = x then 2 else val y)⟩
  show K02.b_put ρ h = _
  unfold K02.b_put mAsg
  rw [show mC (.int 2) ρ h = some (.d (.int 2), h) from rfl]
  dsimp only
  unfold F2.gSub
  rw [v4]
  dsimp only
  rw [v5]
  dsimp only
  rw [e3]
  rfl
def e_tup : EI := (mOn (orC fTuple fTupD) (mCons (mIf (mBl (mBin (fEqD false) (dr 2) (mC (.int 0)))) (mVar 8) (mUn (fRev false) (mVar 8))) mNil))
theorem St.tup (s : St H l p rows ks c ss h) (hz : ss.length ≤ 2) (x1 x2 x3 x4 x5 x6 x7 x9 : Option A) :
    ∃ ss' p', (ss' = ss ∨ ss' = ss.reverse) ∧ e_tup [some (.ref l), x1, x2, x3, x4, x5, x6, x7, some (.ref c), x9] h = some (.d (.tup (ss'.map .str)), h.set l (PUR p')) := by
  let ρ : En := [some (.ref l), x1, x2, x3, x4, x5, x6, x7, some (.ref c), x9]
  let h1 := h.set l (PUR (drw p 2).2)
  have s1 := s.setP (drw p 2).2
  have t : mBl (mBin (fEqD false) (dr 2) (mC (.int 0))) ρ h = some (decide ((drw p 2).1 = 0), h1) := by
    unfold mBl
    rw [(bin_of (f := fEqD false) (s.draw (m := 2) (by omega) (by omega) _) (show mC (.int 0) ρ h1 = some (.d (.int 0), h1) from rfl)).trans (int_eq _ _ _)]
  have il : itemsL (.ref c) h1 = some (LA ss) := by simp only [itemsL]; rw [s1.cel]
  by_cases z : (drw p 2).1 = 0
  · rw [decide_eq_true z] at t
    have e : mIf (mBl (mBin (fEqD false) (dr 2) (mC (.int 0)))) (mVar 8) (mUn (fRev false) (mVar 8)) ρ h = some (.ref c, h1) := by
      unfold mIf
      rw [t]
      rfl
    exact ⟨ss, _, .inl rfl, (on_of (cons_of e (show mNil ρ h1 = some ([], h1) from rfl))).trans (tuple_of il (by omega))⟩
  · rw [decide_eq_false z] at t
    have rv : fRev false (.ref c) h1 = some (.d (LS ss.reverse), h1) := by
      unfold fRev
      rw [il]
      dsimp only
      have m := mkL_data (xs := ss.reverse.map D.str) (h := h1) (by simp; omega)
      rw [List.map_map] at m
      unfold LA
      rw [← List.map_reverse]
      exact m
    have e : mIf (mBl (mBin (fEqD false) (dr 2) (mC (.int 0)))) (mVar 8) (mUn (fRev false) (mVar 8)) ρ h = some (.d (LS ss.reverse), h1) := by
      unfold mIf
      rw [t]
      exact (un_of (f := fRev false) (show mVar 8 ρ h1 = some (.ref c, h1) from rfl)).trans rv
    refine ⟨ss.reverse, _, .inr rfl, (on_of (cons_of e (show mNil ρ h1 = some ([], h1) from rfl))).trans (tuple_of ?_ (by simp; omega))⟩
    show some ((ss.reverse.map D.str).map A.d) = _
    rw [List.map_map]
    rfl
def b_found : SI := (mDrop (mMet "list" fAppend (mVar 3) (mCons (mOn mkT (mCons (mVar 5) (mCons e_tup mNil))) mNil)))
theorem St.b_found (s : St H l p rows ks c ss h) (hz : ss.length ≤ 2) (hr : rows.length ≤ 40) (x : Str) (x1 x2 x4 x6 x7 x9 : Option A) :
    ∃ ss' p' h', (ss' = ss ∨ ss' = ss.reverse) ∧ K02.b_found [some (.ref l), x1, x2, some (.ref H.length), x4, some (.d (.str x)), x6, x7, some (.ref c), x9] h = some (.nx [some (.ref l), x1, x2, some (.ref H.length), x4, some (.d (.str x)), x6, x7, some (.ref c), x9] h') ∧ St H l p' (rows ++ [(x, ss')]) ks c ss h' := by
  let ρ : En := [some (.ref l), x1, x2, some (.ref H.length), x4, some (.d (.str x)), x6, x7, some (.ref c), x9]
  obtain ⟨ss', p', h', e⟩ := s.tup hz x1 x2 (some (.ref H.length)) x4 (some (.d (.str x))) x6 x7 x9
  have s1 := s.setP p'
  have e1 : mOn mkT (mCons (mVar 5) (mCons e_tup mNil)) ρ h = some (.d (rowD (x, ss')), h.set l (PUR p')) := by
    rw [on_of (cons_of (show mVar 5 ρ h = some (.d (.str x), h) from rfl) (cons_of e (show mNil ρ (h.set l (PUR p')) = some ([], h.set l (PUR p')) from rfl)))]
    have lv := LIMv
    unfold mkT
    rw [if_pos (by simp; omega)]
    rfl
  have ap := append_eq (y := .d (rowD (x, ss'))) s1.fnd (by simp; omega)
  have e3 := (met_of (T := "list") (F := fAppend) (show mVar 3 ρ h = some (.ref H.length, h) from rfl) (isT_list s.fnd) (cons_of e1 (show mNil ρ (h.set l (PUR p')) = some ([], h.set l (PUR p')) from rfl))).trans ap
  have s2 := s1.setF (rows ++ [(x, ss')])
  have ee : (rows.map rowD).map A.d ++ [.d (rowD (x, ss'))] = ((rows ++ [(x, ss')]).map rowD).map A.d := by simp
  rw [ee] at e3
  exact ⟨ss', p', _, h', drop_of e3, s2⟩
end
end K02
set_option Elab.async false
set_option linter.all false
set_option maxRecDepth 100000
set_option maxHeartbeats 1000000
namespace K02
open PySem PySem.Spec PyProof.Rows L2 F2
/-! ### what a turn of rows leaves -/
theorem roomK_val (rows : List Row) : roomK rows = valK (namesOf rows) (room rows) := by simp [roomK, valK]
structure Bs (H : Hh) (l : Nat) (p : Int × Int) (rows : List Row) (h : Hh) : Prop where
  lt : l < H.length
  len : H.length + 2 ≤ h.length
  old : ∀ k, k < H.length → h[k]? = (H.set l (PUR p))[k]?
  fnd : h[H.length]? = some (.lst ((rows.map rowD).map A.d))
  tab : h[H.length + 1]? = some (.dK (tabL (roomK rows)))
section
variable {H : Hh} {l : Nat} {p : Int × Int} {rows : List Row} {h : Hh}
theorem Bs.st (b : Bs H l p rows h) : St H l p rows (valK (namesOf rows) (room rows)) h.length [] (h ++ [.lst []]) where
  lt := b.lt
  gt := by have := b.len; omega
  old := fun k hk => by rw [List.getElem?_append_left (by have := b.len; omega)]; exact b.old k hk
  fnd := by rw [List.getElem?_append_left (by have := b.len; omega)]; exact b.fnd
  tab := by rw [List.getElem?_append_left (by have := b.len; omega), ← roomK_val]; exact b.tab
  cel := by rw [List.getElem?_append_right (by omega)]; simp [LA]
theorem room_snoc {rows : List Row} {x : Str} {ss : List Str} (hf : copiesOf (rows ++ [(x, ss)]) x = []) (hx : x ∉ namesOf rows) :
    valK (namesOf rows ++ [x]) (fun y => if y = x then 2 else room rows y - if y ∈ ss then 1 else 0) = roomK (rows ++ [(x, ss)]) := by
  rw [roomK_val]
  have en : namesOf (rows ++ [(x, ss)]) = namesOf rows ++ [x] := by simp
  rw [en]
  unfold valK
  apply List.map_congr_left
  intro y hy
  congr 3
  show (if y = x then (2 : Int) else room rows y - if y ∈ ss then 1 else 0) = room (rows ++ [(x, ss)]) y
  by_cases c : y = x
  · subst c
    rw [if_pos rfl]
    unfold room
    rw [hf]
    rfl
  · rw [if_neg c]
    unfold room
    rw [copies_snoc]
    by_cases z : y ∈ ss
    · rw [if_pos z, if_pos z]
      simp
      omega
    · rw [if_neg z, if_neg z]
      simp
theorem mem_free {rows : List Row} {x : Str} (h : x ∈ freeOf rows) : x ∈ namesOf rows ∧ (copiesOf rows x).length < 2 := by
  unfold freeOf at h
  rw [List.mem_filter] at h
  refine ⟨h.1, ?_⟩
  have := of_decide_eq_true h.2
  unfold room at this
  omega
theorem last_row {rows : List Row} (h : rows ≠ []) : ∃ r0 r, rows = r0 ++ [r] := ⟨rows.dropLast, rows.getLast h, (List.dropLast_concat_getLast h).symm⟩
theorem free_ne {rows : List Row} (hv : Fits [] rows) (hne : rows ≠ []) : freeOf rows ≠ [] := by
  obtain ⟨r0, r, e⟩ := last_row hne
  subst e
  have z := last_free hv
  have m : r.1 ∈ freeOf (r0 ++ [r]) := by
    unfold freeOf
    rw [List.mem_filter]
    refine ⟨by simp, ?_⟩
    unfold isFree room
    rw [z]
    rfl
  exact fun e => by rw [e] at m; cases m
def b_rows : SI := (mSeq (mLockS 4 (mAsg e_free (gN 6))) (mSeq (mAsg (mOn (mkL true) mNil) (gN 8)) (mSeq b_near (mSeq b_join (mSeq b_take (mSeq b_put b_found))))))
def OkN (rows : List Row) : Prop := ∀ r ∈ rows, PyData.strOk r.1 = true ∧ ∀ s ∈ r.2, PyData.strOk s = true
theorem okN_of {rows : List Row} (hv : Fits [] rows) (hp : Pooled rows) : OkN rows := fun r hr => ⟨(pool_ok (hp r hr)).ok, (hv.mem hr).choose_spec.ok⟩
/-- the sources that are drawn -/
theorem Bs.some_src (b : Bs H l p rows h) (hv : Fits [] rows) (hp : Pooled rows) (hz : rows.length ≤ 40) (hn : (namesOf rows).Nodup) (j : Int) (x1 x5 x7 x9 : Option A) :
    ∃ j' p' x9' ss h', mSeq b_near b_join [some (.ref l), x1, some (.d (.int j)), some (.ref H.length), some (.ref (H.length + 1)), x5, some (.d (LS (freeOf rows))), x7, some (.ref h.length), x9] (h ++ [.lst []]) = some (.nx [some (.ref l), x1, some (.d (.int j')), some (.ref H.length), some (.ref (H.length + 1)), x5, some (.d (LS (freeOf rows))), x7, some (.ref h.length), x9'] h')
      ∧ St H l p' rows (valK (namesOf rows) (room rows)) h.length ss h' ∧ (∀ s ∈ ss, s ∈ freeOf rows) ∧ ss.Nodup ∧ ss.length ≤ 2 ∧ (if rows = [] then ss = [] else ss ≠ []) := by
  have hfl : (freeOf rows).length ≤ 40 := by
    have := List.length_filter_le (isFree rows) (namesOf rows)
    rw [List.length_map] at this
    unfold freeOf
    omega
  have hfd : (freeOf rows).Nodup := hn.filter _
  have ok := okN_of hv hp
  by_cases hne : rows = []
  · have t := rows_found ok b.st.fnd
    rw [decide_eq_true hne] at t
    let ρ : En := [some (.ref l), x1, some (.d (.int j)), some (.ref H.length), some (.ref (H.length + 1)), x5, some (.d (LS (freeOf rows))), x7, some (.ref h.length), x9]
    have t1 := bl_of ((bin_of (f := fEqD true) (show mVar 3 ρ (h ++ [.lst []]) = some (.ref H.length, h ++ [.lst []]) from rfl) (nil_data ρ (h ++ [.lst []]))).trans t)
    have e1 : b_near ρ (h ++ [.lst []]) = some (.nx ρ (h ++ [.lst []])) := if_no t1
    obtain ⟨j', p', ss', h', e2, s2, q⟩ := b.st.b_join (by simp) hfd hfl j x1 (some (.ref H.length)) (some (.ref (H.length + 1))) x5 x7 x9
    have hf0 : freeOf rows = [] := by rw [hne]; rfl
    have q' : ss' = [] := by
      rcases q with q | ⟨q, _⟩
      · exact q
      · rw [hf0] at q; simp at q
    refine ⟨j', p', x9, ss', h', (seq_nx e1).trans e2, s2, ?_, ?_, ?_, ?_⟩
    · rw [q']; exact fun s hs => by cases hs
    · rw [q']; simp
    · rw [q']; simp
    · rw [if_pos hne]; exact q'
  · have h0 := free_ne hv hne
    obtain ⟨a, p1, x9', h1, ha, e1, s1⟩ := b.st.b_near hne ok h0 (by omega) x1 (some (.d (.int j))) (some (.ref (H.length + 1))) x5 x7 x9
    obtain ⟨j', p', ss', h', e2, s2, q⟩ := s1.b_join (by simp) hfd hfl j x1 (some (.ref H.length)) (some (.ref (H.length + 1))) x5 x7 x9'
    refine ⟨j', p', x9', ss', h', (seq_nx e1).trans e2, s2, ?_, ?_, ?_, ?_⟩
    · rcases q with q | ⟨_, z, hz, _, q⟩
      · rw [q]; exact fun s hs => by simp at hs; rw [hs]; exact ha
      · rw [q]
        exact fun s hs => by
          rcases List.mem_append.mp hs with hs | hs
          · simp at hs; rw [hs]; exact ha
          · simp at hs; rw [hs]; exact hz
    · rcases q with q | ⟨_, z, _, hn, q⟩
      · rw [q]; simp
      · rw [q]
        simp at hn ⊢
        exact fun e => hn e.symm
    · rcases q with q | ⟨_, z, _, _, q⟩ <;> rw [q] <;> simp
    · rw [if_neg hne]
      rcases q with q | ⟨_, z, _, _, q⟩ <;> rw [q] <;> simp
theorem src_of {names ss : List Str} (h : ∀ s ∈ ss, s ∈ names) (hd : ss.Nodup) (hl : ss.length ≤ 2) (hne : ss ≠ []) : okSrc ss names = true := by
  match ss, h, hd, hl, hne with
  | [], _, _, _, z => exact absurd rfl z
  | [a], h, _, _, _ => exact decide_eq_true (h a (by simp))
  | [a, b], h, hd, _, _ =>
    simp at hd
    show (decide (a ∈ names) && (decide (b ∈ names) && !decide (a = b))) = true
    rw [decide_eq_true (h a (by simp)), decide_eq_true (h b (by simp)), decide_eq_false hd]
    rfl
  | _ :: _ :: _ :: _, _, _, hl, _ => simp at hl
theorem Bs.turn (b : Bs H l p rows h) (hv : Fits [] rows) (hp : Pooled rows) (hz : rows.length < 40) (hn : (namesOf rows).Nodup) {x : Str} (hx : x ∈ POOL) (hni : x ∉ namesOf rows) (j : Int) (x1 x6 x7 x8 x9 : Option A) :
    ∃ j' p' ss y6 y7 y8 y9 h', b_rows [some (.ref l), x1, some (.d (.int j)), some (.ref H.length), some (.ref (H.length + 1)), some (.d (.str x)), x6, x7, x8, x9] h = some (.nx [some (.ref l), x1, some (.d (.int j')), some (.ref H.length), some (.ref (H.length + 1)), some (.d (.str x)), y6, y7, y8, y9] h')
      ∧ Bs H l p' (rows ++ [(x, ss)]) h' ∧ Fit rows (x, ss) := by
  have e1 := free_ok (t := H.length + 1) (h := h) b.tab hn (by omega) (some (.ref l)) x1 (some (.d (.int j))) (some (.ref H.length)) (some (.d (.str x))) x6 x7 x8 x9
  have e2 : mAsg (mOn (mkL true) mNil) (gN 8) [some (.ref l), x1, some (.d (.int j)), some (.ref H.length), some (.ref (H.length + 1)), some (.d (.str x)), some (.d (LS (freeOf rows))), x7, x8, x9] h = some (.nx [some (.ref l), x1, some (.d (.int j)), some (.ref H.length), some (.ref (H.length + 1)), some (.d (.str x)), some (.d (LS (freeOf rows))), x7, some (.ref h.length), x9] (h ++ [.lst []])) := asg_N (nil_cell _ h)
  obtain ⟨j', p1, y9, ss, h1, e3, s1, hs, hd, hl, hc⟩ := b.some_src hv hp (by omega) hn j x1 (some (.d (.str x))) x7 x9
  have hsn : ∀ s ∈ ss, s ∈ namesOf rows := fun s h => (mem_free (hs s h)).1
  obtain ⟨y7, h2, e4, s2⟩ := s1.b_take hn (by omega) hsn hd (some (.ref l)) x1 (some (.d (.int j'))) (some (.ref H.length)) (some (.d (.str x))) (some (.d (LS (freeOf rows)))) x7 y9
  obtain ⟨h3, e5, s3⟩ := s2.b_put (by omega) hni (some (.ref l)) x1 (some (.d (.int j'))) (some (.ref H.length)) (some (.d (LS (freeOf rows)))) y7 (some (.ref h.length)) y9
  obtain ⟨ss', p', h', q, e6, s4⟩ := s3.b_found hl (by omega) x x1 (some (.d (.int j'))) (some (.ref (H.length + 1))) (some (.d (LS (freeOf rows)))) y7 y9
  have hm : ∀ s, s ∈ ss' ↔ s ∈ ss := fun s => by
    rcases q with q | q
    · rw [q]
    · rw [q, List.mem_reverse]
  have hd' : ss'.Nodup := by
    rcases q with q | q
    · rw [q]; exact hd
    · rw [q]; exact (List.reverse_perm ss).nodup_iff.mpr hd
  have hl' : ss'.length ≤ 2 := by
    rcases q with q | q
    · rw [q]; exact hl
    · rw [q, List.length_reverse]; exact hl
  have fit : Fit rows (x, ss') := fit_of hx hni hp (by
    by_cases hne : rows = []
    · rw [if_pos hne] at hc ⊢
      rcases q with q | q <;> rw [q, hc] <;> rfl
    · rw [if_neg hne] at hc ⊢
      refine src_of (fun s h => hsn s ((hm s).mp h)) hd' hl' ?_
      rcases q with q | q
      · rw [q]; exact hc
      · rw [q]; exact fun z => hc (List.reverse_eq_nil_iff.mp z)) fun s h => (mem_free (hs s ((hm s).mp h))).2
  have hf : copiesOf (rows ++ [(x, ss')]) x = [] := last_free (r := (x, ss')) (hv.snoc fit)
  have ek : (fun y => if y = x then (2 : Int) else room rows y - if y ∈ ss then 1 else 0) = fun y => if y = x then (2 : Int) else room rows y - if y ∈ ss' then 1 else 0 := by
    funext y
    by_cases c : y ∈ ss
    · rw [if_pos c, if_pos ((hm y).mpr c)]
    · rw [if_neg c, if_neg fun z => c ((hm y).mp z)]
  rw [ek, room_snoc hf hni] at s4
  have hlen : h.length < h'.length := (List.getElem?_eq_some_iff.mp s4.cel).1
  refine ⟨j', p', ss', some (.d (LS (freeOf rows))), y7, some (.ref h.length), y9, h', ?_, ⟨s4.lt, by have := b.len; omega, s4.old, s4.fnd, s4.tab⟩, fit⟩
  have e34 : ∀ (m : SI) (ρ : En) (g : Hh), mSeq b_near (mSeq b_join m) ρ g = mSeq (mSeq b_near b_join) m ρ g := fun m ρ g => by
    unfold mSeq
    cases b_near ρ g with
    | none => rfl
    | some o => cases o <;> rfl
  refine (seq_nx e1).trans ((seq_nx e2).trans ?_)
  rw [e34]
  exact (seq_nx e3).trans ((seq_nx e4).trans ((seq_nx e5).trans e6))
end
end K02
set_option Elab.async false
set_option linter.all false
set_option maxRecDepth 100000
set_option maxHeartbeats 1000000
namespace K02
open PySem PySem.Spec PyProof.Rows L2 F2
theorem cutF_D {n c : Nat} {h G : Hh} {xs : List D} (hn : n ≤ c) (hc : h[c]? = some (.lst (xs.map A.d))) (ht : h.take n = G) (hd : DH G) : cutF n (.ref c) h = (.d (.lst xs), G) := by
  unfold cutF
  dsimp only
  rw [ht, if_pos ⟨hn, hd.low⟩, hc]
  dsimp only
  rw [allD_map]
theorem rows_eq {p : Int × Int} {n : Nat} (hn : n ≤ 40) {H : Hh} {l : Nat} (hl : H[l]? = some (PUR p)) (hd : DH H) (j : Int) :
    ∃ rows p', fn_law_rows [.ref l, .d (.int n), .d (.int j)] H = some (.d (rowsD rows), H.set l (PUR p')) ∧ Fits [] rows ∧ rows.length = n ∧ Pooled rows := by
  have hlt : l < H.length := (List.getElem?_eq_some_iff.mp hl).1
  obtain ⟨nd, pl, ln⟩ := labels_good (p := p) (n := n) (by omega)
  let names := (labels p n).1
  let p1 := (labels p n).2
  let h0 : Hh := H ++ [.lst []] ++ [.dK []]
  have h0l : h0.length = H.length + 2 := by simp [h0]
  have dh0 : DH h0 := (hd.app (G := [.lst []]) rfl).app (G := [.dK []]) rfl
  have h0p : h0[l]? = some (PUR p) := by
    simp only [h0]
    rw [List.append_assoc, List.getElem?_append_left hlt]
    exact hl
  let ρ0 : En := [some (.ref l), some (.d (.int n)), some (.d (.int j)), some (.ref H.length), some (.ref (H.length + 1)), none, none, none, none, none]
  have e1 : mAsg (mOn mkT (mCons (mOn (mkL true) mNil) (mCons (mDnewK true) mNil))) (gT 2 (gsCons (gN 3) (gsCons (gN 4) gsNil))) [some (.ref l), some (.d (.int n)), some (.d (.int j)), none, none, none, none, none, none, none] H = some (.nx ρ0 h0) := by
    have a := nil_cell [some (.ref l), some (.d (.int n)), some (.d (.int j)), none, none, none, none, none, none, none] H
    have b : mDnewK true [some (.ref l), some (.d (.int n)), some (.d (.int j)), none, none, none, none, none, none, none] (H ++ [.lst []]) = some (.ref (H.length + 1), h0) := by
      simp [mDnewK, h0]
    have c := on_of (F := mkT) (cons_of a (cons_of b (show mNil [some (.ref l), some (.d (.int n)), some (.d (.int j)), none, none, none, none, none, none, none] h0 = some ([], h0) from rfl)))
    have d : mkT [.ref H.length, .ref (H.length + 1)] h0 = some (.tp [.ref H.length, .ref (H.length + 1)], h0) := by
      have lv := LIMv
      unfold mkT
      rw [if_pos (by simp; omega)]
      rfl
    unfold mAsg
    rw [c, d]
    rfl
  let h1 : Hh := h0.set l (PUR p1)
  have e2 : mCall 2 fn_law_labels (mCons (mVar 0) (mCons (mVar 1) mNil)) ρ0 h0 = some (.d (LS names), h1) := (call_of (n := 2) (F := fn_law_labels) (show mCons (mVar 0) (mCons (mVar 1) mNil) ρ0 h0 = some ([.ref l, .d (.int n)], h0) from rfl) rfl).trans (labels_eq (by omega) h0p dh0)
  obtain ⟨s, q1, q2, q3⟩ := sq_src (b := false) (xs := names) e2
  have b0 : Bs H l p1 [] h1 := {
    lt := hlt
    len := by simp only [h1]; rw [List.length_set]; omega
    old := fun k hk => by
      simp only [h1]
      by_cases e : l = k
      · subst e
        rw [List.getElem?_set_self (by omega), List.getElem?_set_self hk]
      · rw [List.getElem?_set_ne e, List.getElem?_set_ne e]
        simp only [h0]
        rw [List.append_assoc, List.getElem?_append_left hk]
    fnd := by
      simp only [h1]
      rw [List.getElem?_set_ne (by omega)]
      simp only [h0]
      rw [List.append_assoc, List.getElem?_append_right (by omega)]
      simp
    tab := by
      simp only [h1]
      rw [List.getElem?_set_ne (by omega)]
      simp only [h0]
      rw [List.append_assoc, List.getElem?_append_right (by omega)]
      simp [roomK, tabL] }
  obtain ⟨ρ', h', e3, rows, p', j', x5, x6, x7, x8, x9, er, b, hv, hp, hnm⟩ := for_items (items := LA names) (it := srcQ (mCall 2 fn_law_labels (mCons (mVar 0) (mCons (mVar 1) mNil)))) (g := gN 5) (b := b_rows) (ρ := ρ0) (H := h0)
    (I := fun i ρ h => ∃ rows p' j', ∃ x5 x6 x7 x8 x9 : Option A, ρ = [some (.ref l), some (.d (.int n)), some (.d (.int j')), some (.ref H.length), some (.ref (H.length + 1)), x5, x6, x7, x8, x9] ∧ Bs H l p' rows h ∧ Fits [] rows ∧ Pooled rows ∧ namesOf rows = names.take i)
    q3 q2 q1
    (fun i ρ h hi ⟨rows, p', j', x5, x6, x7, x8, x9, er, b, hv, hp, hnm⟩ => by
      subst er
      have hi' : i < names.length := by rw [LA_len] at hi; exact hi
      have gi : (LA names)[i] = .d (.str names[i]) := by simp [LA]
      have lr : rows.length = i := by
        have := congrArg List.length hnm
        rw [List.length_map, List.length_take] at this
        omega
      have hni : names[i] ∉ namesOf rows := fun z => by
        rw [hnm] at z
        obtain ⟨k, hk⟩ := List.mem_iff_getElem?.mp z
        have hki : k < i := by
          have := (List.getElem?_eq_some_iff.mp hk).1
          rw [List.length_take] at this
          omega
        rw [List.getElem?_take_of_lt hki] at hk
        have e := (List.getElem?_inj (List.getElem?_eq_some_iff.mp hk).1 nd).mp (hk.trans (List.getElem?_eq_getElem hi').symm)
        omega
      have hpi : names[i] ∈ POOL := pl _ (List.getElem_mem hi')
      have hnn : (namesOf rows).Nodup := by
        have good := hv.good (by simp) (fun q hq => by cases hq)
        rw [List.nil_append] at good
        exact good.1
      have hnl : names.length = n := ln
      obtain ⟨j2, p2, ss, y6, y7, y8, y9, h2, e4, b2, f2⟩ := b.turn hv hp (by omega) hnn hpi hni j' (some (.d (.int n))) x6 x7 x8 x9
      refine ⟨_, h2, by rw [gi]; exact e4, rows ++ [(names[i], ss)], p2, j2, _, _, _, _, _, rfl, b2, hv.snoc (by simpa using f2), ?_, ?_⟩
      · intro r hr
        rcases List.mem_append.mp hr with hr | hr
        · exact hp r hr
        · simp at hr
          rw [hr]
          exact hpi
      · rw [take_snoc hi', ← hnm]
        simp) ⟨[], p1, j, none, none, none, none, none, rfl, b0, .nil, fun r hr => (by cases hr), by simp⟩
  rw [LA_len, List.take_length] at hnm
  have lr : rows.length = n := by
    have := congrArg List.length hnm
    rw [List.length_map] at this
    exact this.trans ln
  subst er
  have d1 : m_law_rows = mSeq (mAsg (mOn mkT (mCons (mOn (mkL true) mNil) (mCons (mDnewK true) mNil))) (gT 2 (gsCons (gN 3) (gsCons (gN 4) gsNil)))) (mSeq (mFor (srcQ (mCall 2 fn_law_labels (mCons (mVar 0) (mCons (mVar 1) mNil)))) (gN 5) b_rows) (mRet (mVar 3))) := rfl
  have body : m_law_rows [some (.ref l), some (.d (.int n)), some (.d (.int j)), none, none, none, none, none, none, none] H = some (.rt (.ref H.length) h') := by
    rw [d1]
    exact (seq_nx e1).trans ((seq_nx e3).trans rfl)
  have tk : h'.take H.length = H.set l (PUR p') := by
    apply List.ext_getElem?
    intro k
    by_cases hk : k < H.length
    · rw [List.getElem?_take_of_lt hk]
      exact b.old k hk
    · rw [List.getElem?_eq_none (by simp; omega), List.getElem?_eq_none (by simp; omega)]
  have c := cutF_D (n := H.length) (c := H.length) (Nat.le_refl _) b.fnd tk (hd.set dO_pur)
  have z : fn_law_rows [.ref l, .d (.int n), .d (.int j)] H = finF H.length (m_law_rows [some (.ref l), some (.d (.int n)), some (.d (.int j)), none, none, none, none, none, none, none] H) := mkFnF_eq rfl
  refine ⟨rows, p', ?_, hv, lr, hp⟩
  rw [z, body]
  show some (cutF H.length (.ref H.length) h') = _
  rw [c]
  rfl
end K02
set_option Elab.async false
set_option linter.all false
set_option maxRecDepth 100000
set_option maxHeartbeats 1000000
namespace K02
open PySem PySem.Spec PyProof.Rows L2 F2
/-! ### what is asked of a web -/
def webFs (rows : List Row) : List (Str × A) := (webF rows).map fun p => (p.1, A.d p.2)
theorem web_fields (rows : List Row) (H : Hh) : fieldsOf "Web" (.d (webOf rows)) H = some (webFs rows) := by kernel_rfl
theorem no_with (rows : List Row) : (webFs rows).lookup ("with_copy" : Str) = none := by kernel_rfl
theorem no_without (rows : List Row) : (webFs rows).lookup ("without" : Str) = none := by kernel_rfl
theorem prp_of {c f : Str} {F : FnI} {mo : EI} {ρ : En} {h h1 : Hh} {x : A} {fs : List (Str × A)} (e : mo ρ h = some (x, h1)) (k : fieldsOf c x h1 = some fs) : mPrp c f F mo ρ h = F [x] h1 := by
  unfold mPrp
  rw [e]
  dsimp only
  rw [k]
theorem mth_of {c mt : Str} {F : FnI} {mo : EI} {r : AI} {ρ : En} {h h1 h2 : Hh} {x : A} {xs : List A} {fs : List (Str × A)} (e : mo ρ h = some (x, h1)) (k : fieldsOf c x h1 = some fs) (n : fs.lookup mt = none) (e2 : r ρ h1 = some (xs, h2)) : mMth c mt F mo r ρ h = F (x :: xs) h2 := by
  unfold mMth
  rw [e]
  dsimp only
  rw [k]
  dsimp only
  rw [if_pos n, e2]
theorem fld_prop {f : Str} {x v : A} {H : Hh} (e : fFld "Web" f x H = some (v, H)) : mkFn 1 1 (mRet (mUn (fFld "Web" f) (mVar 0))) [x] H = some (v, H) := by
  rw [mkFn_eq (np := 1) (ns := 1) (as := [x]) rfl]
  have b : mRet (mUn (fFld "Web" f) (mVar 0)) [some x] H = some (.rt v H) := ret_of ((un_of (show mVar 0 [some x] H = some (x, H) from rfl)).trans e)
  show finP H.length (mRet (mUn (fFld "Web" f) (mVar 0)) [some x] H) = _
  rw [b]
  show some (cut H.length _ H) = _
  rw [cut_same rfl]
section
variable {rows : List Row} {m : EI} {ρ : En} {h H : Hh}
theorem p_lines (e : m ρ h = some (.d (webOf rows), H)) : mPrp "Web" "lines" fn_Web_lines m ρ h = some (.d (.tup ((linesOf rows).map pairD)), H) := (prp_of e (web_fields rows H)).trans (fld_prop (f_lines rows H))
theorem p_names (e : m ρ h = some (.d (webOf rows), H)) : mPrp "Web" "names" fn_Web_names m ρ h = some (.d (.tupN ((namesOf rows).map .str)), H) := (prp_of e (web_fields rows H)).trans (fld_prop (f_names rows H))
theorem p_ends (e : m ρ h = some (.d (webOf rows), H)) : mPrp "Web" "ends" fn_Web_ends m ρ h = some (.d (.tup ((endsOf rows).map .str)), H) := (prp_of e (web_fields rows H)).trans (fld_prop (f_ends rows H))
theorem p_text (e : m ρ h = some (.d (webOf rows), H)) : mPrp "Web" "text" fn_Web_text m ρ h = some (.d (.str (said rows)), H) := (prp_of e (web_fields rows H)).trans (fld_prop (f_text rows H))
end
theorem web_same {rows : List Row} (ho : PyData.strOk (said rows) = true) (H : Hh) : fn_Web__eq_ [.d (webOf rows), .d (webOf rows)] H = some (.d (.bl true), H) := by
  have z : fn_Web__eq_ [.d (webOf rows), .d (webOf rows)] H = finP H.length (m_Web__eq_ [some (.d (webOf rows)), some (.d (webOf rows))] H) := mkFn_eq rfl
  let ρ : En := [some (.d (webOf rows)), some (.d (webOf rows))]
  have a : mIsC "Web" (mVar 1) ρ H = some (.d (.bl true), H) := by kernel_rfl
  have b : mBin (fEqD false) (mUn (fFld "Web" "_text") (mVar 0)) (mUn (fFld "Web" "_text") (mVar 1)) ρ H = some (.d (.bl true), H) := by
    refine (bin_of (f := fEqD false) ((un_of (show mVar 0 ρ H = some (.d (webOf rows), H) from rfl)).trans (f_text rows H)) ((un_of (show mVar 1 ρ H = some (.d (webOf rows), H) from rfl)).trans (f_text rows H))).trans ?_
    rw [str_eq ho ho, decide_eq_true rfl]
  have c : m_Web__eq_ ρ H = some (.rt (.d (.bl true)) H) := by
    have d1 : m_Web__eq_ = mRet (mAnd (mIsC "Web" (mVar 1)) (mBin (fEqD false) (mUn (fFld "Web" "_text") (mVar 0)) (mUn (fFld "Web" "_text") (mVar 1)))) := rfl
    rw [d1]
    unfold mRet mAnd
    rw [a]
    dsimp only [truthA]
    rw [b]
  rw [z, c]
  show some (cut H.length _ H) = _
  rw [cut_same rfl]
def neW : A → A → Hh → Option (A × Hh) := orF (fEqD true) (fNeC "Web" fn_Web__eq_)
theorem ne_same {rows : List Row} (ho : PyData.strOk (said rows) = true) (H : Hh) : neW (.d (webOf rows)) (.d (webOf rows)) H = some (.d (.bl false), H) := by
  have k : fEqD true (.d (webOf rows)) (.d (webOf rows)) H = none := rfl
  unfold neW orF
  rw [k]
  dsimp only
  unfold fNeC
  rw [web_fields]
  dsimp only
  rw [web_same ho]
  rfl
theorem text_same {x : Str} (ho : PyData.strOk x = true) (H : Hh) : fEqD true (.d (.str x)) (.d (.str x)) H = some (.d (.bl false), H) := by
  rw [str_ne ho ho, decide_eq_true rfl]
  rfl
theorem said_one (x : Str) : said [(x, [])] = x := by
  unfold said
  rfl
theorem pairs_tup {ps : List (Str × Str)} (hz : ps.length < 1000) (h : Hh) : orC fTuple fTupD [.d (.lst (ps.map pairD))] h = some (.d (.tup (ps.map pairD)), h) := by
  have lv := LIMv
  have e : itemsL (.d (.lst (ps.map pairD))) h = some ((ps.map pairD).map A.d) := rfl
  unfold orC fTuple
  dsimp only
  rw [e]
  dsimp only
  unfold mkT
  rw [if_pos (by simp; omega), allD_map]
theorem lines_okN {rows : List Row} (ho : OkN rows) : ∀ p ∈ linesOf rows, PyData.strOk p.1 = true ∧ PyData.strOk p.2 = true := fun p hp => by
  unfold linesOf at hp
  rw [List.mem_flatMap] at hp
  obtain ⟨r, hr, hp⟩ := hp
  obtain ⟨s, hs, e⟩ := List.mem_map.mp hp
  rw [← e]
  exact ⟨(ho r hr).2 s hs, (ho r hr).1⟩
/-- the lines of a web beside the pairs of its rows -/
theorem lines_beside {rows : List Row} (ho : OkN rows) (hs : ∀ r ∈ rows, Small r) (hz : rows.length ≤ 40) {i j : Nat} {ρ : En} {h : Hh} (e1 : mVar i ρ h = some (.d (webOf rows), h)) (e2 : mVar j ρ h = some (.d (rowsD rows), h)) :
    mBl (mBin (fEqD true) (mPrp "Web" "lines" fn_Web_lines (mVar i)) (mOn (orC fTuple fTupD) (mCons (mCall 1 fn_law_pairs (mCons (mVar j) mNil)) mNil))) ρ h = some (false, h) := by
  have l := lines_len (rows := rows) (fun q hq => (hs q hq).l)
  have a := (call_of (n := 1) (F := fn_law_pairs) (cons_of e2 (show mNil ρ h = some ([], h) from rfl)) rfl).trans (pairs_eq (fun q hq => (hs q hq).l) hz h)
  have b := (on_of (F := orC fTuple fTupD) (cons_of a (show mNil ρ h = some ([], h) from rfl))).trans (pairs_tup (by omega) h)
  exact bl_of ((bin_of (f := fEqD true) (p_lines e1) b).trans (lines_same (lines_okN ho) h))
theorem said_of {rows : List Row} (hs : ∀ r ∈ rows, Small r) (hz : rows.length ≤ 40) {j : Nat} {ρ : En} {h : Hh} (e2 : mVar j ρ h = some (.d (rowsD rows), h)) : mCall 1 fn_law_said (mCons (mVar j) mNil) ρ h = some (.d (.str (said rows)), h) :=
  (call_of (n := 1) (F := fn_law_said) (cons_of e2 (show mNil ρ h = some ([], h) from rfl)) rfl).trans (said_eq hs (by omega) h)
theorem text_beside {rows : List Row} (ho : OkN rows) (hs : ∀ r ∈ rows, Small r) (hz : rows.length ≤ 40) {i j : Nat} {ρ : En} {h : Hh} (e1 : mVar i ρ h = some (.d (webOf rows), h)) (e2 : mVar j ρ h = some (.d (rowsD rows), h)) :
    mBl (mBin (fEqD true) (mPrp "Web" "text" fn_Web_text (mVar i)) (mCall 1 fn_law_said (mCons (mVar j) mNil))) ρ h = some (false, h) :=
  bl_of ((bin_of (f := fEqD true) (p_text e1) (said_of hs hz e2)).trans (text_same (said_ok ho) h))
end K02
set_option Elab.async false
set_option linter.all false
set_option maxRecDepth 100000
set_option maxHeartbeats 1000000
namespace K02
open PySem PySem.Spec PyProof.Rows L2 F2
/-! ### how long a repr is -/
theorem repr_len {x : Str} (ho : PyData.strOk x = true) : (reprText x).length ≤ 10 * x.length + 2 := PySem.StrLaws.reprText_len x fun c hc => by
  have := strOk_iff.mp ho c hc
  omega
theorem all_strs (xs : List Str) : PyData.shownAll (xs.map .str) = xs.map reprText := by
  induction xs with
  | nil => simp [PyData.shownAll]
  | cons x xs ih => simp [PyData.shownAll, PyData.shown, ih]
theorem strs_shown {xs : List Str} (h : ∀ x ∈ xs, PyData.strOk x = true ∧ x.length ≤ 8) : (PyData.tuple (xs.map .str)).shown.length ≤ 84 * xs.length + 3 := by
  have e : (PyData.tuple (xs.map .str)).shown = tupleText (xs.map reprText) := by simp only [PyData.shown, all_strs]
  rw [e]
  have l := tupleText_len_le (xs.map reprText)
  have s := sum_le (xs := xs.map reprText) (b := 82) (fun y hy => by
    obtain ⟨x, hx, rfl⟩ := List.mem_map.mp hy
    have := repr_len (h x hx).1
    have := (h x hx).2
    omega)
  rw [List.length_map] at l s
  omega
theorem pair_shown {p : Str × Str} (h1 : PyData.strOk p.1 = true ∧ p.1.length ≤ 8) (h2 : PyData.strOk p.2 = true ∧ p.2.length ≤ 8) : (pairP p).shown.length ≤ 171 := by
  have z := strs_shown (xs := [p.1, p.2]) (fun x hx => by
    simp at hx
    rcases hx with rfl | rfl
    · exact h1
    · exact h2)
  exact z
theorem all_map {α : Type} (g : α → PyData) (xs : List α) : PyData.shownAll (xs.map g) = xs.map fun x => (g x).shown := by
  induction xs with
  | nil => simp [PyData.shownAll]
  | cons x xs ih => simp [PyData.shownAll, ih]
theorem pairs_shown {ps : List (Str × Str)} (h : ∀ p ∈ ps, (PyData.strOk p.1 = true ∧ p.1.length ≤ 8) ∧ PyData.strOk p.2 = true ∧ p.2.length ≤ 8) : (PyData.tuple (ps.map pairP)).shown.length ≤ 173 * ps.length + 3 := by
  have e : (PyData.tuple (ps.map pairP)).shown = tupleText (ps.map fun p => (pairP p).shown) := by simp only [PyData.shown, all_map]
  rw [e]
  have l := tupleText_len_le (ps.map fun p => (pairP p).shown)
  have s := sum_le (xs := ps.map fun p => (pairP p).shown) (b := 171) (fun y hy => by
    obtain ⟨x, hx, rfl⟩ := List.mem_map.mp hy
    exact pair_shown (h x hx).1 (h x hx).2)
  rw [List.length_map] at l s
  omega
/-! ### how a web shows itself -/
def repT (n : Nat) : Str := Str.empty ++ "Web of " ++ (Str.ofString (toString ((n : Nat) : Int))) ++ " copies"
def repU (n : Nat) : Str := ("Web of " : Str) ++ (Str.ofString (toString ((n : Nat) : Int))) ++ " copies"
theorem rep_all : ((List.range 41).all fun n => decide (repT n = repU n) && (decide ((repU n).length ≤ 40) && (PyData.strOk (repU n) && (decide (((n : Nat) : Int).natAbs.log2 < 1920) && decide ((Str.ofString (toString ((n : Nat) : Int))).length ≤ 100))))) = true := by decide +kernel
structure RepOk (n : Nat) : Prop where
  eq : repT n = repU n
  len : (repU n).length ≤ 40
  ok : PyData.strOk (repU n) = true
  log : ((n : Nat) : Int).natAbs.log2 < 1920
  l2 : (Str.ofString (toString ((n : Nat) : Int))).length ≤ 100
theorem rep_ok {n : Nat} (h : n ≤ 40) : RepOk n := by
  have z := List.all_eq_true.mp rep_all n (List.mem_range.mpr (by omega))
  rw [Bool.and_eq_true, Bool.and_eq_true, Bool.and_eq_true, Bool.and_eq_true] at z
  exact ⟨of_decide_eq_true z.1, of_decide_eq_true z.2.1, z.2.2.1, of_decide_eq_true z.2.2.2.1, of_decide_eq_true z.2.2.2.2⟩
def seenP (rows : List Row) : List PyData := [.str (said rows), .tuple ((namesOf rows).map .str), .tuple ((linesOf rows).map pairP), .tuple ((endsOf rows).map .str), .str (said rows), .str (repU rows.length), .bool true]
theorem show_strs (xs : List Str) : PyData.showableAll (xs.map .str) = true ∧ PyData.hasDictAll (xs.map .str) = false := by
  induction xs with
  | nil => simp [PyData.showableAll, PyData.hasDictAll]
  | cons x xs ih => simp [PyData.showableAll, PyData.hasDictAll, PyData.showable, PyData.hasDict, ih.1, ih.2]
theorem show_pairs (ps : List (Str × Str)) : PyData.showableAll (ps.map pairP) = true ∧ PyData.hasDictAll (ps.map pairP) = false := by
  induction ps with
  | nil => simp [PyData.showableAll, PyData.hasDictAll]
  | cons x xs ih => simp [PyData.showableAll, PyData.hasDictAll, PyData.showable, PyData.hasDict, pairP, ih.1, ih.2]
theorem names_okS {rows : List Row} (ho : OkN rows) (hs : ∀ r ∈ rows, Small r) : ∀ x ∈ namesOf rows, PyData.strOk x = true ∧ x.length ≤ 8 := fun x hx => by
  obtain ⟨r, hr, e⟩ := List.mem_map.mp hx
  rw [← e]
  exact ⟨(ho r hr).1, (hs r hr).n⟩
theorem lines_okS {rows : List Row} (ho : OkN rows) (hs : ∀ r ∈ rows, Small r) : ∀ p ∈ linesOf rows, (PyData.strOk p.1 = true ∧ p.1.length ≤ 8) ∧ PyData.strOk p.2 = true ∧ p.2.length ≤ 8 := fun p hp => by
  unfold linesOf at hp
  rw [List.mem_flatMap] at hp
  obtain ⟨r, hr, hp⟩ := hp
  obtain ⟨s, hs2, e⟩ := List.mem_map.mp hp
  rw [← e]
  exact ⟨⟨(ho r hr).2 s hs2, (hs r hr).s s hs2⟩, (ho r hr).1, (hs r hr).n⟩
theorem ends_in {rows : List Row} {x : Str} (h : x ∈ endsOf rows) : x ∈ namesOf rows := by
  unfold endsOf at h
  exact (List.mem_filter.mp h).1
theorem ends_le {rows : List Row} : (endsOf rows).length ≤ rows.length := by
  unfold endsOf
  have := List.length_filter_le (isEnd rows) (namesOf rows)
  rw [List.length_map] at this
  exact this
theorem seen_len {rows : List Row} (ho : OkN rows) (hs : ∀ r ∈ rows, Small r) (hz : rows.length ≤ 40) : (PyData.list (seenP rows)).shown.length ≤ 1000000 := by
  have e : (PyData.list (seenP rows)).shown = listText (PyData.shownAll (seenP rows)) := by simp only [PyData.shown]
  rw [e]
  have l := listText_len_le (PyData.shownAll (seenP rows))
  have a := repr_len (said_ok ho)
  have a2 := said_len hs hz
  have b := strs_shown (names_okS ho hs)
  have c := pairs_shown (lines_okS ho hs)
  have c2 := lines_len (rows := rows) (fun q hq => (hs q hq).l)
  have d := strs_shown (xs := endsOf rows) (fun x hx => names_okS ho hs x (ends_in hx))
  have d2 := ends_le (rows := rows)
  have f := repr_len (rep_ok hz).ok
  have f2 := (rep_ok hz).len
  have g : (PyData.bool true).shown.length = 4 := by kernel_rfl
  have nl : (namesOf rows).length = rows.length := by simp
  simp only [seenP, PyData.shownAll, List.map_cons, List.map_nil, List.sum_cons, List.sum_nil, List.length_cons, List.length_nil, g] at l
  have s1 : (PyData.str (said rows)).shown = reprText (said rows) := by simp only [PyData.shown]
  have s2 : (PyData.str (repU rows.length)).shown = reprText (repU rows.length) := by simp only [PyData.shown]
  rw [s1, s2] at l
  simp only [seenP, PyData.shownAll]
  rw [s1, s2]
  omega
theorem repr_ok {ds : List D} {rows : List Row} (ho : OkN rows) (hs : ∀ r ∈ rows, Small r) (hz : rows.length ≤ 40) (e : toPys ds = some (seenP rows)) (h : Hh) : fRepr [.d (.lst ds)] h = some (.d (.str (PyData.list (seenP rows)).shown), h) := by
  have ep : pyOf (.d (.lst ds)) h = some (.list (seenP rows)) := by
    unfold pyOf
    dsimp only
    unfold toPy
    rw [e]
    rfl
  have sl := seen_len ho hs hz
  have c : (isSeq (.list (seenP rows)) && (PyData.list (seenP rows)).showable && !(PyData.list (seenP rows)).hasDict && decide ((PyData.list (seenP rows)).depth ≤ 100) && decide ((PyData.list (seenP rows)).shown.length ≤ LIM)) = true := by
    have d1 := depth_map (g := PyData.str) (xs := namesOf rows) (d := 0) fun s hs => by simp [PyData.depth]
    have d2 := depth_map (g := PyData.str) (xs := endsOf rows) (d := 0) fun s hs => by simp [PyData.depth]
    have d3 := depth_map (g := pairP) (xs := linesOf rows) (d := 1) fun p hp => by simp [pairP, PyData.depth, PyData.depthAll]
    have dd : (PyData.list (seenP rows)).depth ≤ 100 := by
      simp only [seenP, PyData.depth, PyData.depthAll]
      omega
    have lz : (PyData.list (seenP rows)).shown.length ≤ LIM := sl
    have sh : (PyData.list (seenP rows)).showable = true := by
      simp [seenP, PyData.showable, PyData.showableAll, (show_pairs (linesOf rows)).1]
      exact ⟨by simpa using (show_strs (namesOf rows)).1, (show_strs (endsOf rows)).1⟩
    have hd : (PyData.list (seenP rows)).hasDict = false := by
      simp [seenP, PyData.hasDict, PyData.hasDictAll, (show_pairs (linesOf rows)).2]
      exact ⟨by simpa using (show_strs (namesOf rows)).2, (show_strs (endsOf rows)).2⟩
    rw [sh, hd, decide_eq_true dd, decide_eq_true lz]
    rfl
  unfold fRepr
  dsimp only
  rw [ep]
  dsimp only
  rw [if_pos c]
end K02
set_option Elab.async false
set_option linter.all false
set_option maxRecDepth 100000
set_option maxHeartbeats 1000000
namespace K02
open PySem PySem.Spec PyProof.Rows L2 F2
/-! ### sources and copies of a name -/
theorem f_sources (rows : List Row) (H : Hh) : fFld "Web" "_sources" (.d (webOf rows)) H = some (.d (.dK (dictD (srcV rows) (namesOf rows))), H) := by kernel_rfl
theorem drop_of2 {m : EI} {ρ : En} {h h1 : Hh} {a : A} (e : m ρ h = some (a, h1)) : mDrop m ρ h = some (.nx ρ h1) := by
  unfold mDrop
  rw [e]
theorem at_dict {val : Str → D} {xs : List Str} (hn : xs.Nodup) {x : Str} (hx : x ∈ xs) (H : Hh) : fIx (.d (.dK (dictD val xs))) (.d (.str x)) H = some (.d (val x), H) := by
  obtain ⟨j, hj⟩ := List.mem_iff_getElem?.mp hx
  have tb := tab_dict val xs H
  refine at_tab tb (look_at (ks := tabD val xs) (by rw [tabD_names]; exact hn) (j := j) (k := (x, .d (val x))) ?_)
  simp [tabD, hj]
theorem src_fn {rows : List Row} (hn : (namesOf rows).Nodup) {r : Row} (hr : r ∈ rows) (H : Hh) : fn_Web_sources [.d (webOf rows), .d (.str r.1)] H = some (.d (.tup (r.2.map .str)), H) := by
  let ρ : En := [some (.d (webOf rows)), some (.d (.str r.1))]
  have hx : r.1 ∈ namesOf rows := List.mem_map.mpr ⟨r, hr, rfl⟩
  have self : mVar 0 ρ H = some (.d (webOf rows), H) := rfl
  have v1 : mVar 1 ρ H = some (.d (.str r.1), H) := rfl
  have nil : mNil ρ H = some ([], H) := rfl
  have ht := tab_dict (srcV rows) (namesOf rows) H
  have f := (un_of (f := fFld "Web" "_sources") self).trans (f_sources rows H)
  have q1 := (call_of (n := 2) (F := fn_check_known) (cons_of v1 (cons_of f nil)) rfl).trans (known_ok ht (by rw [tabD_names]; exact hx))
  have q2 := (bin_of (f := fIx) f v1).trans (at_dict hn hx H)
  have z : fn_Web_sources [.d (webOf rows), .d (.str r.1)] H = finP H.length (m_Web_sources ρ H) := mkFn_eq rfl
  have b : m_Web_sources ρ H = some (.rt (.d (srcV rows r.1)) H) := (seq_nx (drop_of2 q1)).trans (ret_of q2)
  rw [z, b]
  show some (cut H.length _ H) = _
  rw [cut_same rfl]
  unfold srcV
  rw [sources_at hn hr]
theorem cpy_fn {rows : List Row} (hn : (namesOf rows).Nodup) {r : Row} (hr : r ∈ rows) (H : Hh) : fn_Web_copies [.d (webOf rows), .d (.str r.1)] H = some (.d (.tup ((copiesOf rows r.1).map .str)), H) := by
  let ρ : En := [some (.d (webOf rows)), some (.d (.str r.1))]
  have hx : r.1 ∈ namesOf rows := List.mem_map.mpr ⟨r, hr, rfl⟩
  have self : mVar 0 ρ H = some (.d (webOf rows), H) := rfl
  have v1 : mVar 1 ρ H = some (.d (.str r.1), H) := rfl
  have nil : mNil ρ H = some ([], H) := rfl
  have ht := tab_dict (cpyV rows) (namesOf rows) H
  have f := (un_of (f := fFld "Web" "_copies") self).trans (f_copies rows H)
  have q1 := (call_of (n := 2) (F := fn_check_known) (cons_of v1 (cons_of f nil)) rfl).trans (known_ok ht (by rw [tabD_names]; exact hx))
  have q2 := (bin_of (f := fIx) f v1).trans (at_dict hn hx H)
  have z : fn_Web_copies [.d (webOf rows), .d (.str r.1)] H = finP H.length (m_Web_copies ρ H) := mkFn_eq rfl
  have b : m_Web_copies ρ H = some (.rt (.d (cpyV rows r.1)) H) := (seq_nx (drop_of2 q1)).trans (ret_of q2)
  rw [z, b]
  show some (cut H.length _ H) = _
  rw [cut_same rfl]
  rfl
theorem no_sources (rows : List Row) : (webFs rows).lookup ("sources" : Str) = none := by kernel_rfl
theorem no_copies (rows : List Row) : (webFs rows).lookup ("copies" : Str) = none := by kernel_rfl
theorem mthK_of {c mt : Str} {F : FnI} {mo : EI} {r : AI} {ρ : En} {h h1 h2 : Hh} {x y : A} {fs : List (Str × A)} (e : mo ρ h = some (x, h1)) (k : fieldsOf c x h1 = some fs) (n : fs.lookup mt = none) (e2 : r ρ h1 = some ([y], h2)) : mMthK c mt 1 [0] F mo r ρ h = F [x, y] h2 := by
  unfold mMthK
  rw [e]
  dsimp only
  rw [k]
  dsimp only
  rw [if_pos n, e2]
  rfl
/-! ### how a web is told by str and repr -/
theorem str_fn (rows : List Row) (H : Hh) : fn_Web__str_ [.d (webOf rows)] H = some (.d (.str (said rows)), H) := by
  let ρ : En := [some (.d (webOf rows))]
  have f := (un_of (f := fFld "Web" "_text") (show mVar 0 ρ H = some (.d (webOf rows), H) from rfl)).trans (f_text rows H)
  have q : mOn (orC fStrI fStrS) (mCons (mUn (fFld "Web" "_text") (mVar 0)) mNil) ρ H = some (.d (.str (said rows)), H) := (on_of (cons_of f (show mNil ρ H = some ([], H) from rfl))).trans rfl
  have z : fn_Web__str_ [.d (webOf rows)] H = finP H.length (m_Web__str_ ρ H) := mkFn_eq rfl
  have b : m_Web__str_ ρ H = some (.rt (.d (.str (said rows))) H) := ret_of q
  rw [z, b]
  show some (cut H.length _ H) = _
  rw [cut_same rfl]
theorem len_tupN (xs : List Str) (H : Hh) : orC fLen fLenD [.d (.tupN (xs.map .str))] H = some (.d (.int xs.length), H) := by simp [orC, fLen, itemsL]
theorem js_step {m : EI} {ms : List EI} {acc y : Str} {ρ : En} {h h1 : Hh} (e : m ρ h = some (.d (.str y), h1)) (hz : (acc ++ y).length ≤ LIM) : mJs (m :: ms) acc ρ h = mJs ms (acc ++ y) ρ h1 := by
  show (match m ρ h with
    | some (.d (.str y), h1) => if (acc ++ y).length ≤ LIM then mJs ms (acc ++ y) ρ h1 else none
    | _ => none) = _
  rw [e]
  dsimp only
  rw [if_pos hz]
theorem len_app (x y : Str) : (x ++ y).length = x.length + y.length := by
  rw [TL.len_tl, TL.tl_append, List.length_append, ← TL.len_tl, ← TL.len_tl]
theorem repr_fn {rows : List Row} (hz : rows.length ≤ 40) (H : Hh) : fn_Web__repr_ [.d (webOf rows)] H = some (.d (.str (repU rows.length)), H) := by
  let ρ : En := [some (.d (webOf rows))]
  have R := rep_ok hz
  have lv := LIMv
  have f := (un_of (f := fFld "Web" "_names") (show mVar 0 ρ H = some (.d (webOf rows), H) from rfl)).trans (f_names rows H)
  have q : mOn (orC fLen fLenD) (mCons (mUn (fFld "Web" "_names") (mVar 0)) mNil) ρ H = some (.d (.int rows.length), H) := by
    rw [(on_of (cons_of f (show mNil ρ H = some ([], H) from rfl))), len_tupN, List.length_map]
  have q2 : mFmt (mOn (orC fLen fLenD) (mCons (mUn (fFld "Web" "_names") (mVar 0)) mNil)) ρ H = some (.d (.str (toString ((rows.length : Nat) : Int))), H) := by
    unfold mFmt
    rw [q]
    dsimp only
    rw [if_pos R.log]
  have l1 : (Str.empty ++ ("Web of " : Str)).length ≤ LIM := by
    have : (Str.empty ++ ("Web of " : Str)).length = 7 := by kernel_rfl
    omega
  have eqT := R.eq
  have l3 : (repT rows.length).length ≤ LIM := by rw [eqT]; have := R.len; omega
  have l2 : (Str.empty ++ ("Web of " : Str) ++ (Str.ofString (toString ((rows.length : Nat) : Int)))).length ≤ LIM := by
    have e : repT rows.length = Str.empty ++ ("Web of " : Str) ++ (Str.ofString (toString ((rows.length : Nat) : Int))) ++ " copies" := rfl
    rw [e, len_app] at l3
    omega
  have j : mJs ((mC (.str "Web of ")) :: (mFmt (mOn (orC fLen fLenD) (mCons (mUn (fFld "Web" "_names") (mVar 0)) mNil)) :: ((mC (.str " copies")) :: []))) Str.empty ρ H = some (.d (.str (repT rows.length)), H) :=
    (js_step (show mC (.str "Web of ") ρ H = some (.d (.str "Web of "), H) from rfl) l1).trans ((js_step q2 l2).trans ((js_step (show mC (.str " copies") ρ H = some (.d (.str " copies"), H) from rfl) l3).trans rfl))
  have z : fn_Web__repr_ [.d (webOf rows)] H = finP H.length (m_Web__repr_ ρ H) := mkFn_eq rfl
  have b : m_Web__repr_ ρ H = some (.rt (.d (.str (repT rows.length))) H) := ret_of j
  rw [z, b, eqT]
  show some (cut H.length _ H) = _
  rw [cut_same rfl]
/-! ### lines and copies -/
theorem filter_none {α : Type} {p : α → Bool} {xs : List α} (h : ∀ x ∈ xs, p x = false) : xs.filter p = [] := List.filter_eq_nil_iff.mpr fun x hx => by rw [h x hx]; exact Bool.false_ne_true
theorem one_line {r : Row} (hd : r.2.Nodup) (x : Str) : ((r.2.map fun s => (s, r.1)).filter fun p => decide (p.1 = x)) = if x ∈ r.2 then [(x, r.1)] else [] := by
  obtain ⟨n, ss⟩ := r
  dsimp only at hd ⊢
  induction ss with
  | nil => rfl
  | cons s ss ih =>
    rw [List.nodup_cons] at hd
    have ih := ih hd.2
    rw [List.map_cons, List.filter_cons]
    by_cases c : s = x
    · subst c
      rw [if_neg hd.1] at ih
      simp [ih]
    · have c2 : ¬ x = s := fun z => c z.symm
      rw [ih]
      simp [c, c2]
theorem copies_lines {rows : List Row} (hd : ∀ r ∈ rows, r.2.Nodup) (x : Str) : ((linesOf rows).filter fun p => decide (p.1 = x)).map (·.2) = copiesOf rows x := by
  induction rows with
  | nil => rfl
  | cons r rows ih =>
    have ih := ih fun q hq => hd q (List.mem_cons_of_mem _ hq)
    unfold linesOf copiesOf at ih ⊢
    rw [List.flatMap_cons, List.filter_append, List.map_append, ih, one_line (hd r List.mem_cons_self)]
    rw [List.filter_cons]
    by_cases c : x ∈ r.2
    · simp [c]
    · simp [c]
theorem src_mem {rows : List Row} {x : Str} : x ∈ (linesOf rows).map (·.1) ↔ copiesOf rows x ≠ [] := by
  constructor
  · intro h
    obtain ⟨p, hp, e⟩ := List.mem_map.mp h
    unfold linesOf at hp
    rw [List.mem_flatMap] at hp
    obtain ⟨r, hr, hp⟩ := hp
    obtain ⟨s, hs, e2⟩ := List.mem_map.mp hp
    rw [← e2] at e
    dsimp only at e
    subst e
    intro z
    have : r.1 ∈ copiesOf rows s := List.mem_map.mpr ⟨r, List.mem_filter.mpr ⟨hr, decide_eq_true hs⟩, rfl⟩
    rw [z] at this
    cases this
  · intro h
    obtain ⟨n, hn⟩ := List.exists_mem_of_ne_nil _ h
    obtain ⟨r, hr, e⟩ := List.mem_map.mp hn
    have hx := of_decide_eq_true (List.mem_filter.mp hr).2
    refine List.mem_map.mpr ⟨(x, r.1), ?_, rfl⟩
    unfold linesOf
    rw [List.mem_flatMap]
    exact ⟨r, (List.mem_filter.mp hr).1, List.mem_map.mpr ⟨x, hx, rfl⟩⟩
theorem ends_lines (rows : List Row) : (namesOf rows).filter (fun x => !decide (x ∈ (linesOf rows).map (·.1))) = endsOf rows := by
  unfold endsOf
  apply List.filter_congr
  intro x hx
  unfold isEnd
  have z := src_mem (rows := rows) (x := x)
  cases h : copiesOf rows x with
  | nil => simp [z, h]
  | cons a b => simp [z, h]
end K02
set_option Elab.async false
set_option linter.all false
set_option maxRecDepth 100000
set_option maxHeartbeats 1000000
namespace K02
open PySem PySem.Spec PyProof.Rows L2 F2
/-! ### walks over data that only read -/
/-- a list made out of data, no cell touched -/
theorem lc_map {xs : List D} {it : SrcI} {g : GI} {m : EI} {vs : List Nat} {ρ : En} {h : Hh} (f : D → D) (hit : it ρ h = some (⟨listN (.d (.lst xs)), xs.length⟩, h)) (hz : xs.length < 1000)
    (step : ∀ i (hi : i < xs.length), ∃ ρ1, g (.d xs[i]) (wipeE ρ vs) h = some (ρ1, h) ∧ m ρ1 h = some (.d (f xs[i]), h)) : mLc false it g mYes m vs ρ h = some (.d (.lst (xs.map f)), h) := by
  obtain ⟨acc, H', ⟨ea, eh⟩, e2⟩ := lc_items (items := xs.map A.d) (g := g) (t := mYes) (m := m) (vs := vs) (I := fun i acc h' => acc = ((xs.take i).map f).map A.d ∧ h' = h) (fun i h => items_map _ h i) (by simp) hit
    (fun i acc h' hi ⟨ea, eh⟩ => by
      subst eh
      have hi' : i < xs.length := by simpa using hi
      obtain ⟨ρ1, e1, e3⟩ := step i hi'
      have gi : (xs.map A.d)[i] = .d xs[i] := by simp
      refine ⟨ρ1, h', true, h', by rw [gi]; exact e1, rfl, (fun z => by cases z), fun _ => ⟨_, h', e3, ⟨?_, rfl⟩, ?_⟩⟩
      · rw [ea, take_snoc hi', List.map_append, List.map_append]
        rfl
      · rw [ea, List.length_map, List.length_map, List.length_take]; omega) ⟨rfl, rfl⟩
  subst eh
  have ln : (xs.map A.d).length = xs.length := by simp
  rw [ln, List.take_length] at ea
  rw [e2 false, ea]
  exact mkL_data (by rw [List.length_map]; exact hz)
/-- the same of those that pass -/
theorem lc_filter {xs : List D} {it : SrcI} {g : GI} {t : TI'} {m : EI} {vs : List Nat} {ρ : En} {h : Hh} (p : D → Bool) (f : D → D) (hit : it ρ h = some (⟨listN (.d (.lst xs)), xs.length⟩, h)) (hz : xs.length < 1000)
    (step : ∀ i (hi : i < xs.length), ∃ ρ1, g (.d xs[i]) (wipeE ρ vs) h = some (ρ1, h) ∧ t ρ1 h = some (p xs[i], h) ∧ m ρ1 h = some (.d (f xs[i]), h)) : mLc false it g t m vs ρ h = some (.d (.lst ((xs.filter p).map f)), h) := by
  obtain ⟨acc, H', ⟨ea, eh⟩, e2⟩ := lc_items (items := xs.map A.d) (g := g) (t := t) (m := m) (vs := vs) (I := fun i acc h' => acc = (((xs.take i).filter p).map f).map A.d ∧ h' = h) (fun i h => items_map _ h i) (by simp) hit
    (fun i acc h' hi ⟨ea, eh⟩ => by
      subst eh
      have hi' : i < xs.length := by simpa using hi
      obtain ⟨ρ1, e1, et, e3⟩ := step i hi'
      have gi : (xs.map A.d)[i] = .d xs[i] := by simp
      refine ⟨ρ1, h', p xs[i], h', by rw [gi]; exact e1, et, fun z => ⟨?_, rfl⟩, fun z => ⟨_, h', e3, ⟨?_, rfl⟩, ?_⟩⟩
      · rw [ea, take_snoc hi', List.filter_append, List.filter_cons, z]
        simp
      · rw [ea, take_snoc hi', List.filter_append, List.filter_cons, z]
        simp
      · rw [ea, List.length_map, List.length_map]
        have := List.length_filter_le p (xs.take i)
        rw [List.length_take] at this
        omega) ⟨rfl, rfl⟩
  subst eh
  have ln : (xs.map A.d).length = xs.length := by simp
  rw [ln, List.take_length] at ea
  rw [e2 false, ea]
  have hle := List.length_filter_le p xs
  exact mkL_data (by rw [List.length_map]; omega)
theorem not_in_list (x : Str) (ys : List Str) (H : Hh) : fIn true (.d (.str x)) (.d (LS ys)) H = some (.d (.bl (!decide (x ∈ ys))), H) := by
  have e : fInF true (.d (.str x)) (.d (LS ys)) H = some (.d (.bl (!decide (x ∈ ys))), H) := by
    unfold fInF
    rw [show fvs [.d (.str x)] = some [V.str x] from rfl]
    dsimp only
    rw [show itemsL (.d (LS ys)) H = some ((ys.map D.str).map A.d) from rfl]
    dsimp only
    rw [fvs_strs]
    simp [inV_strs]
  have k : fInK true (.d (.str x)) (.d (LS ys)) H = none := rfl
  unfold fIn orF
  rw [k]
  dsimp only
  rw [e]
theorem tup_list {ds : List D} (hz : ds.length < 1000) (h : Hh) : orC fTuple fTupD [.d (.lst ds)] h = some (.d (.tup ds), h) := by
  have lv := LIMv
  have e : itemsL (.d (.lst ds)) h = some (ds.map A.d) := rfl
  unfold orC fTuple
  dsimp only
  rw [e]
  dsimp only
  unfold mkT
  rw [if_pos (by rw [List.length_map]; omega), allD_map]
/-! ### the parts of law_is -/
abbrev E13 (rows : List Row) (x2 x3 x4 x5 x6 x7 x8 x9 x10 x11 x12 : Option A) : En := [some (.d (webOf rows)), some (.d (rowsD rows)), x2, x3, x4, x5, x6, x7, x8, x9, x10, x11, x12]
def e_heads : EI := (mLc false (srcQ (mVar 1)) (gN 4) mYes (mBin fIx (mVar 4) (mC (.int 0))) [4])
theorem heads_ok {rows : List Row} (hz : rows.length ≤ 40) (x2 x3 x4 x5 x6 x7 x8 x9 x10 x11 x12 : Option A) (h : Hh) : e_heads (E13 rows x2 x3 x4 x5 x6 x7 x8 x9 x10 x11 x12) h = some (.d (LS (namesOf rows)), h) := by
  have src := srcQ_data (m := mVar 1) (ρ := E13 rows x2 x3 x4 x5 x6 x7 x8 x9 x10 x11 x12) (h := h) (h1 := h) (xs := rows.map rowD) rfl
  have z := lc_map (g := gN 4) (m := mBin fIx (mVar 4) (mC (.int 0))) (vs := [4]) (fun d => match d with | .tup (x :: _) => x | d => d) src (by rw [List.length_map]; omega) fun i hi => by
    have hi' : i < rows.length := by simpa using hi
    have gi : (rows.map rowD)[i] = rowD rows[i] := by simp
    rw [gi]
    exact ⟨E13 rows x2 x3 (some (.d (rowD rows[i]))) x5 x6 x7 x8 x9 x10 x11 x12, rfl, rfl⟩
  unfold e_heads
  rw [z, List.map_map]
  unfold LS
  rw [List.map_map]
  rfl
def e_srcs : EI := (mLc false (srcQ (mVar 3)) (gN 7) mYes (mBin fIx (mVar 7) (mC (.int 0))) [7])
theorem srcs_ok {rows : List Row} {ps : List (Str × Str)} (hz : ps.length < 1000) (x2 x4 x5 x6 x7 x8 x9 x10 x11 x12 : Option A) (h : Hh) : e_srcs (E13 rows x2 (some (.d (.lst (ps.map pairD)))) x4 x5 x6 x7 x8 x9 x10 x11 x12) h = some (.d (LS (ps.map (·.1))), h) := by
  have src := srcQ_data (m := mVar 3) (ρ := E13 rows x2 (some (.d (.lst (ps.map pairD)))) x4 x5 x6 x7 x8 x9 x10 x11 x12) (h := h) (h1 := h) (xs := ps.map pairD) rfl
  have z := lc_map (g := gN 7) (m := mBin fIx (mVar 7) (mC (.int 0))) (vs := [7]) (fun d => match d with | .tup (x :: _) => x | d => d) src (by rw [List.length_map]; omega) fun i hi => by
    have hi' : i < ps.length := by simpa using hi
    have gi : (ps.map pairD)[i] = pairD ps[i] := by simp
    rw [gi]
    exact ⟨E13 rows x2 (some (.d (.lst (ps.map pairD)))) x4 x5 x6 (some (.d (pairD ps[i]))) x8 x9 x10 x11 x12, rfl, rfl⟩
  unfold e_srcs
  rw [z, List.map_map]
  unfold LS
  rw [List.map_map]
  rfl
def t_lone : TI' := (mBl (mBin (fIn true) (mVar 6) e_srcs))
def e_lone : EI := (mLc false (srcQ (mVar 2)) (gN 6) t_lone (mVar 6) [6])
theorem lone_ok {rows : List Row} {ps : List (Str × Str)} (hz : rows.length ≤ 40) (hp : ps.length < 1000) (x4 x5 x6 x7 x8 x9 x10 x11 x12 : Option A) (h : Hh) :
    e_lone (E13 rows (some (.d (LS (namesOf rows)))) (some (.d (.lst (ps.map pairD)))) x4 x5 x6 x7 x8 x9 x10 x11 x12) h = some (.d (LS ((namesOf rows).filter fun x => !decide (x ∈ ps.map (·.1)))), h) := by
  have src := srcQ_data (m := mVar 2) (ρ := E13 rows (some (.d (LS (namesOf rows)))) (some (.d (.lst (ps.map pairD)))) x4 x5 x6 x7 x8 x9 x10 x11 x12) (h := h) (h1 := h) (xs := (namesOf rows).map .str) rfl
  have z := lc_filter (g := gN 6) (t := t_lone) (m := mVar 6) (vs := [6]) (fun d => match d with | .str x => !decide (x ∈ ps.map (·.1)) | _ => true) (fun d => d) src (by rw [List.length_map, List.length_map]; omega) fun i hi => by
    have hi' : i < (namesOf rows).length := by simpa using hi
    have gi : ((namesOf rows).map D.str)[i] = .str (namesOf rows)[i] := by rw [List.getElem_map]
    rw [gi]
    let ρ1 := E13 rows (some (.d (LS (namesOf rows)))) (some (.d (.lst (ps.map pairD)))) x4 x5 (some (.d (.str (namesOf rows)[i]))) x7 x8 x9 x10 x11 x12
    have t : t_lone ρ1 h = some (!decide ((namesOf rows)[i] ∈ ps.map (·.1)), h) := bl_of ((bin_of (f := fIn true) (show mVar 6 ρ1 h = some (.d (.str (namesOf rows)[i]), h) from rfl) (srcs_ok hp _ _ _ _ _ _ _ _ _ _ h)).trans (not_in_list _ _ h))
    exact ⟨ρ1, rfl, t, rfl⟩
  unfold e_lone
  rw [z, List.map_id', List.filter_map]
  rfl
end K02
set_option Elab.async false
set_option linter.all false
set_option maxRecDepth 100000
set_option maxHeartbeats 1000000
namespace K02
open PySem PySem.Spec PyProof.Rows L2 F2
def seenD (rows : List Row) : List D := [.str (said rows), .tupN ((namesOf rows).map .str), .tup ((linesOf rows).map pairD), .tup ((endsOf rows).map .str), .str (said rows), .str (repU rows.length), .bl true]
def dueD (rows : List Row) : List D := [.str (said rows), .tup ((namesOf rows).map .str), .tup ((linesOf rows).map pairD), .tup ((endsOf rows).map .str), .str (said rows), .str (repU rows.length), .bl true]
theorem strs_py (xs : List Str) : toPys (xs.map D.str) = some (xs.map PyData.str) := toPys_map (fun x => by simp [toPy]) xs
theorem seen_py (rows : List Row) : toPys (seenD rows) = some (seenP rows) := by
  have e1 := strs_py (namesOf rows)
  have e2 := strs_py (endsOf rows)
  have e3 := toPys_map pair_py (linesOf rows)
  simp only [seenD, toPys, toPy, e1, e2, e3, Option.map_some, seenP]
theorem due_py (rows : List Row) : toPys (dueD rows) = some (seenP rows) := by
  have e1 := strs_py (namesOf rows)
  have e2 := strs_py (endsOf rows)
  have e3 := toPys_map pair_py (linesOf rows)
  simp only [dueD, toPys, toPy, e1, e2, e3, Option.map_some, seenP]
def e_seen : EI := (mOn (mkL false) (mCons (mPrp "Web" "text" fn_Web_text (mVar 0)) (mCons (mPrp "Web" "names" fn_Web_names (mVar 0)) (mCons (mPrp "Web" "lines" fn_Web_lines (mVar 0)) (mCons (mPrp "Web" "ends" fn_Web_ends (mVar 0)) (mCons (mOn (fStrC "Web" fn_Web__str_) (mCons (mVar 0) mNil)) (mCons (mOn (fStrC "Web" fn_Web__repr_) (mCons (mVar 0) mNil)) (mCons (mOn (fBoolC "Web") (mCons (mVar 0) mNil)) mNil))))))))
theorem strC_of {F : FnI} {rows : List Row} {y : Str} {ρ : En} {h : Hh} (e0 : mVar 0 ρ h = some (.d (webOf rows), h)) (e : F [.d (webOf rows)] h = some (.d (.str y), h)) : mOn (fStrC "Web" F) (mCons (mVar 0) mNil) ρ h = some (.d (.str y), h) := by
  rw [on_of (cons_of e0 (show mNil ρ h = some ([], h) from rfl))]
  unfold fStrC
  dsimp only
  rw [web_fields]
  dsimp only
  rw [e]
theorem seen_ok {rows : List Row} (hz : rows.length ≤ 40) {ρ : En} {h : Hh} (e0 : mVar 0 ρ h = some (.d (webOf rows), h)) : e_seen ρ h = some (.d (.lst (seenD rows)), h) := by
  have b : mOn (fBoolC "Web") (mCons (mVar 0) mNil) ρ h = some (.d (.bl true), h) := by
    rw [on_of (cons_of e0 (show mNil ρ h = some ([], h) from rfl))]
    unfold fBoolC
    dsimp only
    rw [web_fields]
  unfold e_seen
  rw [on_of (cons_of (p_text e0) (cons_of (p_names e0) (cons_of (p_lines e0) (cons_of (p_ends e0) (cons_of (strC_of e0 (str_fn rows h)) (cons_of (strC_of e0 (repr_fn hz h)) (cons_of b (show mNil ρ h = some ([], h) from rfl))))))))]
  exact mkL_data (xs := seenD rows) (by simp [seenD])
def e_due : EI := (mOn (mkL false) (mCons (mVar 8) (mCons (mOn (orC fTuple fTupD) (mCons (mVar 2) mNil)) (mCons (mOn (orC fTuple fTupD) (mCons (mVar 3) mNil)) (mCons (mVar 5) (mCons (mVar 8) (mCons (mBin (fAdd false) (mBin (fAdd false) (mC (.str "Web of ")) (mOn (orC fStrI fStrS) (mCons (mOn (orC fLen fLenD) (mCons (mVar 2) mNil)) mNil))) (mC (.str " copies"))) (mCons (mC (.bl true)) mNil))))))))
theorem addS_eq {x y : Str} (hz : x.length + y.length ≤ LIM) (h : Hh) : fAdd false (.d (.str x)) (.d (.str y)) h = some (.d (.str (x ++ y)), h) := by
  have e1 : fAddI (.d (.str x)) (.d (.str y)) h = none := rfl
  have e2 : fAddS (.d (.str x)) (.d (.str y)) h = some (.d (.str (x ++ y)), h) := by
    unfold fAddS str2
    dsimp only
    rw [if_pos (decide_eq_true hz)]
  unfold fAdd orF
  rw [e1]
  dsimp only
  rw [e2]
theorem due_ok {rows : List Row} (hz : rows.length ≤ 40) (hl : (linesOf rows).length < 1000) (x4 x6 x7 x9 x10 x11 x12 : Option A) (h : Hh) :
    e_due (E13 rows (some (.d (LS (namesOf rows)))) (some (.d (.lst ((linesOf rows).map pairD)))) x4 (some (.d (.tup ((endsOf rows).map .str)))) x6 x7 (some (.d (.str (said rows)))) x9 x10 x11 x12) h = some (.d (.lst (dueD rows)), h) := by
  let ρ := E13 rows (some (.d (LS (namesOf rows)))) (some (.d (.lst ((linesOf rows).map pairD)))) x4 (some (.d (.tup ((endsOf rows).map .str)))) x6 x7 (some (.d (.str (said rows)))) x9 x10 x11 x12
  have R := rep_ok hz
  have lv := LIMv
  have nil : mNil ρ h = some ([], h) := rfl
  have t2 : mOn (orC fTuple fTupD) (mCons (mVar 2) mNil) ρ h = some (.d (.tup ((namesOf rows).map .str)), h) := (on_of (cons_of (show mVar 2 ρ h = some (.d (LS (namesOf rows)), h) from rfl) nil)).trans (tup_list (by rw [List.length_map, List.length_map]; omega) h)
  have t3 : mOn (orC fTuple fTupD) (mCons (mVar 3) mNil) ρ h = some (.d (.tup ((linesOf rows).map pairD)), h) := (on_of (cons_of (show mVar 3 ρ h = some (.d (.lst ((linesOf rows).map pairD)), h) from rfl) nil)).trans (tup_list (by rw [List.length_map]; exact hl) h)
  have ln : mOn (orC fLen fLenD) (mCons (mVar 2) mNil) ρ h = some (.d (.int rows.length), h) := by
    have z := (on_of (F := orC fLen fLenD) (cons_of (show mVar 2 ρ h = some (.d (LS (namesOf rows)), h) from rfl) nil)).trans (sq_len (b := false))
    rw [List.length_map] at z
    exact z
  have st : mOn (orC fStrI fStrS) (mCons (mOn (orC fLen fLenD) (mCons (mVar 2) mNil)) mNil) ρ h = some (.d (.str (toString ((rows.length : Nat) : Int))), h) := by
    rw [on_of (cons_of ln nil)]
    unfold orC fStrI
    dsimp only
    rw [if_pos R.log]
  have a1 : mBin (fAdd false) (mC (.str "Web of ")) (mOn (orC fStrI fStrS) (mCons (mOn (orC fLen fLenD) (mCons (mVar 2) mNil)) mNil)) ρ h = some (.d (.str (("Web of " : Str) ++ (Str.ofString (toString ((rows.length : Nat) : Int))))), h) :=
    (bin_of (f := fAdd false) (show mC (.str "Web of ") ρ h = some (.d (.str "Web of "), h) from rfl) st).trans (addS_eq (by
      have e : ("Web of " : Str).length = 7 := by kernel_rfl
      have := R.l2
      rw [e]
      omega) h)
  have a2 : mBin (fAdd false) (mBin (fAdd false) (mC (.str "Web of ")) (mOn (orC fStrI fStrS) (mCons (mOn (orC fLen fLenD) (mCons (mVar 2) mNil)) mNil))) (mC (.str " copies")) ρ h = some (.d (.str (repU rows.length)), h) :=
    (bin_of (f := fAdd false) a1 (show mC (.str " copies") ρ h = some (.d (.str " copies"), h) from rfl)).trans (addS_eq (by
      have l := R.len
      have e : repU rows.length = ("Web of " : Str) ++ (Str.ofString (toString ((rows.length : Nat) : Int))) ++ " copies" := rfl
      rw [e, len_app] at l
      omega) h)
  show e_due ρ h = _
  unfold e_due
  rw [on_of (cons_of (show mVar 8 ρ h = some (.d (.str (said rows)), h) from rfl) (cons_of t2 (cons_of t3 (cons_of (show mVar 5 ρ h = some (.d (.tup ((endsOf rows).map .str)), h) from rfl) (cons_of (show mVar 8 ρ h = some (.d (.str (said rows)), h) from rfl) (cons_of a2 (cons_of (show mC (.bl true) ρ h = some (.d (.bl true), h) from rfl) nil)))))))]
  exact mkL_data (xs := dueD rows) (by simp [dueD])
def t_repr : TI' := (mBl (mBin fNeS (mOn fRepr (mCons (mVar 9) mNil)) (mOn fRepr (mCons (mVar 10) mNil))))
theorem repr_same {rows : List Row} (ho : OkN rows) (hs : ∀ r ∈ rows, Small r) (hz : rows.length ≤ 40) {ρ : En} {h : Hh} (e9 : mVar 9 ρ h = some (.d (.lst (seenD rows)), h)) (e10 : mVar 10 ρ h = some (.d (.lst (dueD rows)), h)) : t_repr ρ h = some (false, h) := by
  have nil : mNil ρ h = some ([], h) := rfl
  have a := (on_of (F := fRepr) (cons_of e9 nil)).trans (repr_ok ho hs hz (seen_py rows) h)
  have b := (on_of (F := fRepr) (cons_of e10 nil)).trans (repr_ok ho hs hz (due_py rows) h)
  refine bl_of ((bin_of (f := fNeS) a b).trans ?_)
  unfold fNeS
  simp
end K02
set_option Elab.async false
set_option linter.all false
set_option maxRecDepth 100000
set_option maxHeartbeats 1000000
namespace K02
open PySem PySem.Spec PyProof.Rows L2 F2
def twoD (rows : List Row) (r : Row) : D := .lst [.tup (r.2.map .str), .tup ((copiesOf rows r.1).map .str)]
theorem copies_in {rows : List Row} {x y : Str} (h : y ∈ copiesOf rows x) : y ∈ namesOf rows := by
  obtain ⟨r, hr, e⟩ := List.mem_map.mp h
  exact List.mem_map.mpr ⟨r, (List.mem_filter.mp hr).1, e⟩
theorem eqv_strs : ∀ xs : List Str, PyData.eqvAll (xs.map PyData.str) (xs.map PyData.str) = true
  | [] => by simp [PyData.eqvAll]
  | x :: xs => by simp [PyData.eqvAll, PyData.eqv, eqv_strs xs]
theorem two_same {rows : List Row} (ho : OkN rows) {r : Row} (hr : r ∈ rows) (h : Hh) : fEqD true (.d (twoD rows r)) (.d (twoD rows r)) h = some (.d (.bl false), h) := by
  let p : PyData := .list [.tuple (r.2.map .str), .tuple ((copiesOf rows r.1).map .str)]
  have e1 : pyOf (.d (twoD rows r)) h = some p := by
    have a := strs_py r.2
    have b := strs_py (copiesOf rows r.1)
    simp only [pyOf, twoD, toPy, toPys, a, b, Option.map_some, p]
  have s1 : SeqAt.shaped p = true := by
    have a := lay_map (g := PyData.str) (xs := r.2) fun s hs => by simp [PyData.canLay0, (ho r hr).2 s hs]
    have b := lay_map (g := PyData.str) (xs := copiesOf rows r.1) fun s hs => by
      obtain ⟨q, hq, e⟩ := List.mem_map.mp (copies_in hs)
      simp [PyData.canLay0, ← e, (ho q hq).1]
    have c := depth_map (g := PyData.str) (xs := r.2) (d := 0) fun s hs => by simp [PyData.depth]
    have d := depth_map (g := PyData.str) (xs := copiesOf rows r.1) (d := 0) fun s hs => by simp [PyData.depth]
    unfold SeqAt.shaped
    rw [Bool.and_eq_true, decide_eq_true_eq]
    refine ⟨by simp only [p, PyData.canLay0, PyData.canLayAll0, a, b, Bool.and_true], ?_⟩
    simp only [p, PyData.depth, PyData.depthAll]
    omega
  have q : PyData.eqv p p = true := by
    simp only [p, PyData.eqv, PyData.eqvAll, eqv_strs, Bool.and_true]
  unfold fEqD
  rw [e1]
  dsimp only
  rw [s1, q]
  rfl
def t_same : TI' := (mBl (mBin (fEqD false) (mBin fIx (mVar 7) (mC (.int 0))) (mVar 11)))
def e_cps : EI := (mLc false (srcQ (mVar 3)) (gN 7) t_same (mBin fIx (mVar 7) (mC (.int 1))) [7])
def e_due2 : EI := (mOn (mkL false) (mCons (mVar 12) (mCons (mOn (orC fTuple fTupD) (mCons e_cps mNil)) mNil)))
theorem cps_ok {rows : List Row} (ho : OkN rows) (hd : ∀ r ∈ rows, r.2.Nodup) (hl : (linesOf rows).length < 1000) {x : Str} (hx : PyData.strOk x = true) (x2 x4 x5 x6 x7 x8 x9 x10 x12 : Option A) (h : Hh) :
    e_cps (E13 rows x2 (some (.d (.lst ((linesOf rows).map pairD)))) x4 x5 x6 x7 x8 x9 x10 (some (.d (.str x))) x12) h = some (.d (LS (copiesOf rows x)), h) := by
  have src := srcQ_data (m := mVar 3) (ρ := E13 rows x2 (some (.d (.lst ((linesOf rows).map pairD)))) x4 x5 x6 x7 x8 x9 x10 (some (.d (.str x))) x12) (h := h) (h1 := h) (xs := (linesOf rows).map pairD) rfl
  have z := lc_filter (g := gN 7) (t := t_same) (m := mBin fIx (mVar 7) (mC (.int 1))) (vs := [7]) (fun d => match d with | .tup (.str y :: _) => decide (y = x) | _ => true) (fun d => match d with | .tup (_ :: y :: _) => y | d => d) src (by rw [List.length_map]; omega) fun i hi => by
    have hi' : i < (linesOf rows).length := by simpa using hi
    have gi : ((linesOf rows).map pairD)[i] = pairD (linesOf rows)[i] := by rw [List.getElem_map]
    rw [gi]
    let ρ1 := E13 rows x2 (some (.d (.lst ((linesOf rows).map pairD)))) x4 x5 x6 (some (.d (pairD (linesOf rows)[i]))) x8 x9 x10 (some (.d (.str x))) x12
    have a : mBin fIx (mVar 7) (mC (.int 0)) ρ1 h = some (.d (.str (linesOf rows)[i].1), h) := rfl
    have t : t_same ρ1 h = some (decide ((linesOf rows)[i].1 = x), h) := bl_of ((bin_of (f := fEqD false) a (show mVar 11 ρ1 h = some (.d (.str x), h) from rfl)).trans (str_eq (lines_okN ho _ (List.getElem_mem hi')).1 hx h))
    exact ⟨ρ1, rfl, t, rfl⟩
  unfold e_cps
  rw [z]
  have e : (((linesOf rows).map pairD).filter fun d => match d with | .tup (.str y :: _) => decide (y = x) | _ => true) = ((linesOf rows).filter fun p => decide (p.1 = x)).map pairD := by
    rw [List.filter_map]
    rfl
  rw [e, List.map_map, ← copies_lines hd x]
  unfold LS
  rw [List.map_map]
  rfl
theorem copies_le2 {rows : List Row} {x : Str} : (copiesOf rows x).length ≤ rows.length := by
  unfold copiesOf
  rw [List.length_map]
  exact List.length_filter_le _ _
theorem due2_ok {rows : List Row} (ho : OkN rows) (hd : ∀ r ∈ rows, r.2.Nodup) (hz : rows.length ≤ 40) (hl : (linesOf rows).length < 1000) {r : Row} (hr : r ∈ rows) (x2 x4 x5 x6 x7 x8 x9 x10 : Option A) (h : Hh) :
    e_due2 (E13 rows x2 (some (.d (.lst ((linesOf rows).map pairD)))) x4 x5 x6 x7 x8 x9 x10 (some (.d (.str r.1))) (some (.d (.tup (r.2.map .str))))) h = some (.d (twoD rows r), h) := by
  let ρ := E13 rows x2 (some (.d (.lst ((linesOf rows).map pairD)))) x4 x5 x6 x7 x8 x9 x10 (some (.d (.str r.1))) (some (.d (.tup (r.2.map .str))))
  have nil : mNil ρ h = some ([], h) := rfl
  have c := cps_ok ho hd hl (ho r hr).1 x2 x4 x5 x6 x7 x8 x9 x10 (some (.d (.tup (r.2.map .str)))) h
  have l := copies_le2 (rows := rows) (x := r.1)
  have t := (on_of (F := orC fTuple fTupD) (cons_of c nil)).trans (tup_list (by rw [List.length_map]; omega) h)
  show e_due2 ρ h = _
  unfold e_due2
  rw [on_of (cons_of (show mVar 12 ρ h = some (.d (.tup (r.2.map .str)), h) from rfl) (cons_of t nil))]
  exact mkL_data (xs := [.tup (r.2.map .str), .tup ((copiesOf rows r.1).map .str)]) (by simp)
def e_pos : EI := (mOn (mkL false) (mCons (mMth "Web" "sources" fn_Web_sources (mVar 0) (mCons (mVar 11) mNil)) (mCons (mMth "Web" "copies" fn_Web_copies (mVar 0) (mCons (mVar 11) mNil)) mNil)))
def e_kw : EI := (mOn (mkL false) (mCons (mMthK "Web" "sources" 1 [0] fn_Web_sources (mVar 0) (mCons (mVar 11) mNil)) (mCons (mMthK "Web" "copies" 1 [0] fn_Web_copies (mVar 0) (mCons (mVar 11) mNil)) mNil)))
theorem pos_ok {rows : List Row} (hn : (namesOf rows).Nodup) {r : Row} (hr : r ∈ rows) {ρ : En} {h : Hh} (e0 : mVar 0 ρ h = some (.d (webOf rows), h)) (e11 : mVar 11 ρ h = some (.d (.str r.1), h)) : e_pos ρ h = some (.d (twoD rows r), h) := by
  have nil : mNil ρ h = some ([], h) := rfl
  have a := (mth_of (c := "Web") (mt := "sources") (F := fn_Web_sources) e0 (web_fields _ _) (no_sources _) (cons_of e11 nil)).trans (src_fn hn hr h)
  have b := (mth_of (c := "Web") (mt := "copies") (F := fn_Web_copies) e0 (web_fields _ _) (no_copies _) (cons_of e11 nil)).trans (cpy_fn hn hr h)
  unfold e_pos
  rw [on_of (cons_of a (cons_of b nil))]
  exact mkL_data (xs := [.tup (r.2.map .str), .tup ((copiesOf rows r.1).map .str)]) (by simp)
theorem kw_ok {rows : List Row} (hn : (namesOf rows).Nodup) {r : Row} (hr : r ∈ rows) {ρ : En} {h : Hh} (e0 : mVar 0 ρ h = some (.d (webOf rows), h)) (e11 : mVar 11 ρ h = some (.d (.str r.1), h)) : e_kw ρ h = some (.d (twoD rows r), h) := by
  have nil : mNil ρ h = some ([], h) := rfl
  have a := (mthK_of (c := "Web") (mt := "sources") (F := fn_Web_sources) e0 (web_fields _ _) (no_sources _) (cons_of e11 nil)).trans (src_fn hn hr h)
  have b := (mthK_of (c := "Web") (mt := "copies") (F := fn_Web_copies) e0 (web_fields _ _) (no_copies _) (cons_of e11 nil)).trans (cpy_fn hn hr h)
  unfold e_kw
  rw [on_of (cons_of a (cons_of b nil))]
  exact mkL_data (xs := [.tup (r.2.map .str), .tup ((copiesOf rows r.1).map .str)]) (by simp)
def b_each : SI := mSeq (mAsg e_due2 (gN 10)) (mSeq (mIfS (mBl (mBin (fEqD true) e_pos (mVar 10))) (mRet (mC (.bl false))) mSkip) (mIfS (mBl (mBin (fEqD true) e_kw (mVar 10))) (mRet (mC (.bl false))) mSkip))
theorem each_ok {rows : List Row} (ho : OkN rows) (hn : (namesOf rows).Nodup) (hd : ∀ r ∈ rows, r.2.Nodup) (hz : rows.length ≤ 40) (hl : (linesOf rows).length < 1000) {r : Row} (hr : r ∈ rows) (x2 x4 x5 x6 x7 x8 x9 x10 : Option A) (h : Hh) :
    b_each (E13 rows x2 (some (.d (.lst ((linesOf rows).map pairD)))) x4 x5 x6 x7 x8 x9 x10 (some (.d (.str r.1))) (some (.d (.tup (r.2.map .str))))) h = some (.nx (E13 rows x2 (some (.d (.lst ((linesOf rows).map pairD)))) x4 x5 x6 x7 x8 x9 (some (.d (twoD rows r))) (some (.d (.str r.1))) (some (.d (.tup (r.2.map .str))))) h) := by
  let ρ1 := E13 rows x2 (some (.d (.lst ((linesOf rows).map pairD)))) x4 x5 x6 x7 x8 x9 (some (.d (twoD rows r))) (some (.d (.str r.1))) (some (.d (.tup (r.2.map .str))))
  have e1 := asg_N (i := 10) (due2_ok ho hd hz hl hr x2 x4 x5 x6 x7 x8 x9 x10 h)
  have v10 : mVar 10 ρ1 h = some (.d (twoD rows r), h) := rfl
  have t1 := bl_of ((bin_of (f := fEqD true) (pos_ok hn hr (ρ := ρ1) (h := h) rfl rfl) v10).trans (two_same ho hr h))
  have t2 := bl_of ((bin_of (f := fEqD true) (kw_ok hn hr (ρ := ρ1) (h := h) rfl rfl) v10).trans (two_same ho hr h))
  exact (seq_nx e1).trans ((seq_nx (if_no t1)).trans (if_no t2))
def g_each : GI := (gT 2 (gsCons (gN 11) (gsCons (gN 12) gsNil)))
theorem is_eq {rows : List Row} (hv : Fits [] rows) (ho : OkN rows) (hz : rows.length ≤ 40) (h : Hh) : fn_law_is [.d (webOf rows), .d (rowsD rows)] h = some (.d (.bl true), h) := by
  have hs : ∀ r ∈ rows, Small r := fun r hr => (hv.mem hr).choose_spec.small
  have good := hv.good (by simp) (fun q hq => by cases hq)
  rw [List.nil_append] at good
  have hn : (namesOf rows).Nodup := good.1
  have hd : ∀ r ∈ rows, r.2.Nodup := fun r hr => by
    have f := (hv.mem hr).choose_spec
    have z := f.src
    split at z
    · rw [z]; simp
    · exact (ok_mem z).2
  have hll := lines_len (rows := rows) (fun q hq => (hs q hq).l)
  have hl : (linesOf rows).length < 1000 := by omega
  let ρ0 := E13 rows none none none none none none none none none none none
  have nil : mNil ρ0 h = some ([], h) := rfl
  have hd1 := heads_ok (rows := rows) hz none none none none none none none none none none none h
  have pr := (call_of (n := 1) (F := fn_law_pairs) (cons_of (show mVar 1 ρ0 h = some (.d (rowsD rows), h) from rfl) nil) rfl).trans (pairs_eq (fun q hq => (hs q hq).l) hz h)
  have lv := LIMv
  have e1 : mAsg (mOn mkT (mCons e_heads (mCons (mCall 1 fn_law_pairs (mCons (mVar 1) mNil)) mNil))) (gT 2 (gsCons (gN 2) (gsCons (gN 3) gsNil))) ρ0 h = some (.nx (E13 rows (some (.d (LS (namesOf rows)))) (some (.d (.lst ((linesOf rows).map pairD)))) none none none none none none none none none) h) := by
    have m : mkT [.d (LS (namesOf rows)), .d (.lst ((linesOf rows).map pairD))] h = some (.d (.tup [LS (namesOf rows), .lst ((linesOf rows).map pairD)]), h) := by
      unfold mkT
      rw [if_pos (by simp; omega)]
      rfl
    unfold mAsg
    rw [on_of (cons_of hd1 (cons_of pr nil)), m]
    rfl
  let ρ1 := E13 rows (some (.d (LS (namesOf rows)))) (some (.d (.lst ((linesOf rows).map pairD)))) none none none none none none none none none
  have ln := lone_ok (rows := rows) (ps := linesOf rows) hz hl none none none none none none none none none h
  rw [ends_lines] at ln
  have el := ends_le (rows := rows)
  have e2 : mAsg (mOn (orC fTuple fTupD) (mCons e_lone mNil)) (gN 5) ρ1 h = some (.nx (E13 rows (some (.d (LS (namesOf rows)))) (some (.d (.lst ((linesOf rows).map pairD)))) none (some (.d (.tup ((endsOf rows).map .str)))) none none none none none none none) h) :=
    asg_N (i := 5) ((on_of (F := orC fTuple fTupD) (cons_of ln (show mNil ρ1 h = some ([], h) from rfl))).trans (tup_list (by rw [List.length_map]; omega) h))
  let ρ2 := E13 rows (some (.d (LS (namesOf rows)))) (some (.d (.lst ((linesOf rows).map pairD)))) none (some (.d (.tup ((endsOf rows).map .str)))) none none none none none none none
  have e3 := asg_N (i := 8) (said_of hs hz (j := 1) (ρ := ρ2) (h := h) rfl)
  let ρ3 := E13 rows (some (.d (LS (namesOf rows)))) (some (.d (.lst ((linesOf rows).map pairD)))) none (some (.d (.tup ((endsOf rows).map .str)))) none none (some (.d (.str (said rows)))) none none none none
  have e4 := asg_N (i := 9) (seen_ok (rows := rows) hz (ρ := ρ3) (h := h) rfl)
  have e5 := asg_N (i := 10) (due_ok (rows := rows) hz hl none none none (some (.d (.lst (seenD rows)))) none none none h)
  let ρ5 := E13 rows (some (.d (LS (namesOf rows)))) (some (.d (.lst ((linesOf rows).map pairD)))) none (some (.d (.tup ((endsOf rows).map .str)))) none none (some (.d (.str (said rows)))) (some (.d (.lst (seenD rows)))) (some (.d (.lst (dueD rows)))) none none
  have e6 : mIfS t_repr (mRet (mC (.bl false))) mSkip ρ5 h = some (.nx ρ5 h) := if_no (repr_same ho hs hz rfl rfl)
  have src := srcQ_data (m := mVar 1) (ρ := ρ5) (h := h) (h1 := h) (xs := rows.map rowD) rfl
  obtain ⟨ρ', h', e7, x10, x11, x12, er, eh⟩ := for_items (items := (rows.map rowD).map A.d) (g := g_each) (b := b_each)
    (I := fun i ρ h' => ∃ x10 x11 x12 : Option A, ρ = E13 rows (some (.d (LS (namesOf rows)))) (some (.d (.lst ((linesOf rows).map pairD)))) none (some (.d (.tup ((endsOf rows).map .str)))) none none (some (.d (.str (said rows)))) (some (.d (.lst (seenD rows)))) x10 x11 x12 ∧ h' = h)
    (fun i h => items_map _ h i) (by simp) src
    (fun i ρ h' hi ⟨x10, x11, x12, er, eh⟩ => by
      subst er eh
      have hi' : i < rows.length := by simpa using hi
      have gi : ((rows.map rowD).map A.d)[i] = .d (rowD rows[i]) := by simp
      rw [gi]
      exact ⟨_, _, each_ok ho hn hd hz hl (List.getElem_mem hi') (some (.d (LS (namesOf rows)))) none (some (.d (.tup ((endsOf rows).map .str)))) none none (some (.d (.str (said rows)))) (some (.d (.lst (seenD rows)))) x10 h', _, _, _, rfl, rfl⟩) ⟨_, _, _, rfl, rfl⟩
  subst er eh
  have d1 : m_law_is = mSeq (mAsg (mOn mkT (mCons e_heads (mCons (mCall 1 fn_law_pairs (mCons (mVar 1) mNil)) mNil))) (gT 2 (gsCons (gN 2) (gsCons (gN 3) gsNil)))) (mSeq (mAsg (mOn (orC fTuple fTupD) (mCons e_lone mNil)) (gN 5)) (mSeq (mAsg (mCall 1 fn_law_said (mCons (mVar 1) mNil)) (gN 8)) (mSeq (mAsg e_seen (gN 9)) (mSeq (mAsg e_due (gN 10)) (mSeq (mIfS t_repr (mRet (mC (.bl false))) mSkip) (mSeq (mFor (srcQ (mVar 1)) g_each b_each) (mRet (mC (.bl true))))))))) := rfl
  have body : m_law_is ρ0 h' = some (.rt (.d (.bl true)) h') := by
    rw [d1]
    exact (seq_nx e1).trans ((seq_nx e2).trans ((seq_nx e3).trans ((seq_nx e4).trans ((seq_nx e5).trans ((seq_nx e6).trans ((seq_nx e7).trans rfl))))))
  have z : fn_law_is [.d (webOf rows), .d (rowsD rows)] h' = finP h'.length (m_law_is ρ0 h') := mkFn_eq rfl
  rw [z, body]
  show some (cut h'.length _ h') = _
  rw [cut_same rfl]
end K02
set_option Elab.async false
set_option linter.all false
set_option maxRecDepth 100000
set_option maxHeartbeats 1000000
namespace K02
open PySem PySem.Spec PyProof.Rows L2 F2
/-! ### comprehensions over a cell, over what is made of other things -/
theorem lc_goI {items : List A} {s : Src} {g : GI} {t : TI'} {m : EI} {ρ : En} {I : Nat → List A → Hh → Prop} (hs : ∀ i acc h, I i acc h → s.nxt i h = some items[i]?)
    (step : ∀ (i : Nat) (acc : List A) (H : Hh) (hi : i < items.length), I i acc H → ∃ ρ1 H1 a H3, g items[i] ρ H = some (ρ1, H1) ∧ t ρ1 H1 = some (true, H1) ∧ m ρ1 H1 = some (a, H3) ∧ I (i + 1) (acc ++ [a]) H3 ∧ acc.length < 1000) :
    ∀ (n i : Nat) (acc : List A) (H : Hh), i + n = items.length → I i acc H → ∃ acc' H', lcGo s g t m ρ n i acc H = some (acc', H') ∧ I items.length acc' H' := by
  intro n
  induction n with
  | zero =>
    intro i acc H hi h
    refine ⟨acc, H, ?_, ?_⟩
    · unfold lcGo
      rw [hs i acc H h, List.getElem?_eq_none (by omega)]
    · have e : i = items.length := by omega
      rw [← e]; exact h
  | succ n ih =>
    intro i acc H hi h
    have hlt : i < items.length := by omega
    obtain ⟨ρ1, H1, a, H3, e1, e2, e3, h3, hz⟩ := step i acc H hlt h
    obtain ⟨a2, H4, e4, h4⟩ := ih (i + 1) (acc ++ [a]) H3 (by omega) h3
    refine ⟨a2, H4, ?_, h4⟩
    unfold lcGo
    rw [hs i acc H h, List.getElem?_eq_getElem hlt]
    dsimp only
    rw [e1]
    dsimp only
    rw [e2]
    dsimp only
    rw [e3]
    dsimp only
    rw [if_pos (Nat.lt_trans hz LIMv)]
    exact e4
theorem lc_itemsI {items : List A} {s : Src} {it : SrcI} {g : GI} {t : TI'} {m : EI} {vs : List Nat} {ρ : En} {H H1 : Hh} {I : Nat → List A → Hh → Prop} (hs : ∀ i acc h, I i acc h → s.nxt i h = some items[i]?) (hf : s.fuel = items.length) (hit : it ρ H = some (s, H1))
    (step : ∀ (i : Nat) (acc : List A) (H : Hh) (hi : i < items.length), I i acc H → ∃ ρ1 H1 a H3, g items[i] (wipeE ρ vs) H = some (ρ1, H1) ∧ t ρ1 H1 = some (true, H1) ∧ m ρ1 H1 = some (a, H3) ∧ I (i + 1) (acc ++ [a]) H3 ∧ acc.length < 1000)
    (h0 : I 0 [] H1) : ∃ acc' H', I items.length acc' H' ∧ ∀ cell, mLc cell it g t m vs ρ H = mkL cell acc' H' := by
  obtain ⟨acc', H', e, h⟩ := lc_goI (ρ := wipeE ρ vs) hs step items.length 0 [] H1 (by omega) h0
  refine ⟨acc', H', h, fun cell => ?_⟩
  unfold mLc
  rw [hit]
  dsimp only
  rw [hf, e]
/-- a list made of such things, no cell touched -/
theorem lc_mapA {α : Type} {xs : List α} {it : SrcI} {g : GI} {m : EI} {vs : List Nat} {ρ : En} {h : Hh} {s : Src} (emb f : α → D) (hit : it ρ h = some (s, h)) (hf : s.fuel = xs.length) (hs : ∀ i, s.nxt i h = some (xs.map fun x => A.d (emb x))[i]?) (hz : xs.length < 1000)
    (step : ∀ i (hi : i < xs.length), ∃ ρ1, g (.d (emb xs[i])) (wipeE ρ vs) h = some (ρ1, h) ∧ m ρ1 h = some (.d (f xs[i]), h)) : mLc false it g mYes m vs ρ h = some (.d (.lst (xs.map f)), h) := by
  obtain ⟨acc, H', ⟨ea, eh⟩, e2⟩ := lc_itemsI (items := xs.map fun x => A.d (emb x)) (g := g) (t := mYes) (m := m) (vs := vs) (I := fun i acc h' => acc = ((xs.take i).map f).map A.d ∧ h' = h) (fun i acc h' ⟨_, eh⟩ => by rw [eh]; exact hs i) (by simp [hf]) hit
    (fun i acc h' hi ⟨ea, eh⟩ => by
      subst eh
      have hi' : i < xs.length := by simpa using hi
      obtain ⟨ρ1, e1, e3⟩ := step i hi'
      have gi : (xs.map fun x => A.d (emb x))[i] = .d (emb xs[i]) := by simp
      refine ⟨ρ1, h', _, h', by rw [gi]; exact e1, rfl, e3, ⟨?_, rfl⟩, ?_⟩
      · rw [ea, take_snoc hi', List.map_append, List.map_append]
        rfl
      · rw [ea, List.length_map, List.length_map, List.length_take]; omega) ⟨rfl, rfl⟩
  subst eh
  have ln : (xs.map fun x => A.d (emb x)).length = xs.length := by simp
  rw [ln, List.take_length] at ea
  rw [e2 false, ea]
  exact mkL_data (by rw [List.length_map]; exact hz)
/-! ### the drawn webs -/
structure GR (R : List Row) : Prop where
  v : Fits [] R
  ne : R ≠ []
  z : R.length ≤ 40
  p : Pooled R
theorem GR.o {R : List Row} (g : GR R) : OkN R := okN_of g.v g.p
theorem GR.s {R : List Row} (g : GR R) : ∀ r ∈ R, Small r := fun r hr => (g.v.mem hr).choose_spec.small
theorem GR.t {R : List Row} (g : GR R) : PyData.strOk (said R) = true := said_ok g.o
abbrev E10 (l : Nat) (x1 x2 x3 x4 x5 x6 x7 x8 x9 : Option A) : En := [some (.ref l), x1, x2, x3, x4, x5, x6, x7, x8, x9]
def e_rowsK : EI := (mCall 3 fn_law_rows (mCons (mVar 0) (mCons (mBin (fAdd false) (mC (.int 1)) (mCall 2 fn_law_draw (mCons (mVar 0) (mCons (mVar 2) mNil)))) (mCons (mC (.int 20)) mNil))))
theorem rowsK_ok {h : Hh} (hd : DH h) {l : Nat} {p : Int × Int} (hl : h[l]? = some (PUR p)) {m : Int} (m0 : 0 < m) (m1 : m ≤ 40) (x1 x3 x4 x5 x6 x7 x8 x9 : Option A) :
    ∃ R p', e_rowsK (E10 l x1 (some (.d (.int m))) x3 x4 x5 x6 x7 x8 x9) h = some (.d (rowsD R), h.set l (PUR p')) ∧ GR R := by
  have hlt : l < h.length := (List.getElem?_eq_some_iff.mp hl).1
  have lo := drw_lo (p := p) (m := m) m0
  have hi := drw_hi (p := p) (m := m) m0
  obtain ⟨k, hk⟩ := Int.eq_ofNat_of_zero_le lo
  let ρ : En := E10 l x1 (some (.d (.int m))) x3 x4 x5 x6 x7 x8 x9
  let h1 : Hh := h.set l (PUR (drw p m).2)
  have a1 : mCall 2 fn_law_draw (mCons (mVar 0) (mCons (mVar 2) mNil)) ρ h = some (.d (.int k), h1) := by
    have z := (call_of (n := 2) (F := fn_law_draw) (show mCons (mVar 0) (mCons (mVar 2) mNil) ρ h = some ([.ref l, .d (.int m)], h) from rfl) rfl).trans (draw_eq (many := m) m0 (by omega) hl)
    rw [hk] at z
    exact z
  have a2 : mBin (fAdd false) (mC (.int 1)) (mCall 2 fn_law_draw (mCons (mVar 0) (mCons (mVar 2) mNil))) ρ h = some (.d (.int ((1 + k : Nat) : Int)), h1) := by
    refine (bin_of (f := fAdd false) (show mC (.int 1) ρ h = some (.d (.int 1), h) from rfl) a1).trans ?_
    show some (A.d (.int (1 + (k : Int))), h1) = _
    rw [Int.natCast_add]
    rfl
  obtain ⟨rows, p', e, hv, ln, hp⟩ := rows_eq (p := (drw p m).2) (n := 1 + k) (by omega) (H := h1) (l := l) (List.getElem?_set_self hlt) (hd.set dO_pur) 20
  refine ⟨rows, p', ?_, hv, fun z => by rw [z] at ln; simp at ln; omega, by omega, hp⟩
  have z := (call_of (n := 3) (F := fn_law_rows) (cons_of (show mVar 0 ρ h = some (.ref l, h) from rfl) (cons_of a2 (show mCons (mC (.int 20)) mNil ρ h1 = some ([.d (.int 20)], h1) from rfl))) rfl).trans e
  simp only [h1, List.set_set] at z
  exact z
def sizes : List Int := [3, 9, 20, 40]
def e_sizes : EI := (mOn (mkL false) (mCons (mC (.int 3)) (mCons (mC (.int 9)) (mCons (mC (.int 20)) (mCons (mC (.int 40)) mNil)))))
theorem sizes_ok (ρ : En) (h : Hh) : e_sizes ρ h = some (.d (.lst (sizes.map D.int)), h) := mkL_data (xs := sizes.map D.int) (by simp [sizes])
def e_some : EI := (mLc true (srcQ e_sizes) (gN 2) mYes e_rowsK [2])
def RL (Rs : List (List Row)) : List A := (Rs.map rowsD).map A.d
theorem some_ok {h : Hh} (hd : DH h) {l : Nat} {p : Int × Int} (hl : h[l]? = some (PUR p)) (x1 x2 x3 x4 x5 x6 x7 x8 x9 : Option A) :
    ∃ Rs p', e_some (E10 l x1 x2 x3 x4 x5 x6 x7 x8 x9) h = some (.ref h.length, h.set l (PUR p') ++ [.lst (RL Rs)]) ∧ Rs.length = 4 ∧ ∀ R ∈ Rs, GR R := by
  have hlt : l < h.length := (List.getElem?_eq_some_iff.mp hl).1
  have src := srcQ_data (sizes_ok (E10 l x1 x2 x3 x4 x5 x6 x7 x8 x9) h)
  obtain ⟨acc, H', ⟨Rs, p', ea, el, eh, hg⟩, e2⟩ := lc_items (items := (sizes.map D.int).map A.d) (g := gN 2) (t := mYes) (m := e_rowsK) (vs := [2])
    (I := fun i acc h' => ∃ (Rs : List (List Row)) (p' : Int × Int), acc = RL Rs ∧ Rs.length = i ∧ h' = h.set l (PUR p') ∧ ∀ R ∈ Rs, GR R) (fun i h => items_map _ h i) (by simp) src
    (fun i acc h' hi ⟨Rs, p', ea, el, eh, hg⟩ => by
      subst eh
      have hi' : i < sizes.length := by simpa using hi
      have gi : ((sizes.map D.int).map A.d)[i] = .d (.int sizes[i]) := by simp
      have bd : 0 < sizes[i] ∧ sizes[i] ≤ 40 := by
        have all : ∀ m ∈ sizes, 0 < m ∧ m ≤ 40 := by decide
        exact all _ (List.getElem_mem hi')
      obtain ⟨R, p2, e, g⟩ := rowsK_ok (hd.set (l := l) (o := PUR p') dO_pur) (p := p') (List.getElem?_set_self hlt) bd.1 bd.2 x1 x3 x4 x5 x6 x7 x8 x9
      rw [List.set_set] at e
      refine ⟨E10 l x1 (some (.d (.int sizes[i]))) x3 x4 x5 x6 x7 x8 x9, h.set l (PUR p'), true, h.set l (PUR p'), (congrArg (fun a => gN 2 a (wipeE (E10 l x1 x2 x3 x4 x5 x6 x7 x8 x9) [2]) (h.set l (PUR p'))) gi).trans rfl, rfl, (fun z => by cases z), fun _ => ⟨_, _, e, ⟨Rs ++ [R], p2, ?_, by simp [el], rfl, ?_⟩, ?_⟩⟩
      · rw [ea]
        simp [RL]
      · intro Q hQ
        rcases List.mem_append.mp hQ with hQ | hQ
        · exact hg Q hQ
        · simp at hQ
          rw [hQ]
          exact g
      · rw [ea]
        simp [RL, el]
        have : sizes.length = 4 := rfl
        omega) ⟨[], p, rfl, rfl, by rw [set_self hl], fun R hR => by cases hR⟩
  subst eh
  have ln : ((sizes.map D.int).map A.d).length = 4 := rfl
  rw [ln] at el
  refine ⟨Rs, p', ?_, el, hg⟩
  unfold e_some
  rw [e2 true, ea, mkL_cell (by simp [RL, el]), List.length_set]
end K02
set_option Elab.async false
set_option linter.all false
set_option maxRecDepth 100000
set_option maxHeartbeats 1000000
namespace K02
open PySem PySem.Spec PyProof.Rows L2 F2
theorem set_last {G : Hh} {o o' : O} : (G ++ [o]).set G.length o' = G ++ [o'] := by simp
def e_more : SI := (mDrop (mMet "list" fAppend (mVar 1) (mCons (mBin fIx (mVar 1) (mC (.int 1))) mNil)))
theorem more_ok {G : Hh} {Rs : List (List Row)} (hl : Rs.length = 4) (l : Nat) (x2 x3 x4 x5 x6 x7 x8 x9 : Option A) :
    e_more (E10 l (some (.ref G.length)) x2 x3 x4 x5 x6 x7 x8 x9) (G ++ [.lst (RL Rs)]) = some (.nx (E10 l (some (.ref G.length)) x2 x3 x4 x5 x6 x7 x8 x9) (G ++ [.lst (RL (Rs ++ [Rs[1]'(by omega)]))])) := by
  let ρ := E10 l (some (.ref G.length)) x2 x3 x4 x5 x6 x7 x8 x9
  let h : Hh := G ++ [.lst (RL Rs)]
  have hc : h[G.length]? = some (.lst (RL Rs)) := by simp [h]
  have rl : (RL Rs).length = 4 := by simp [RL, hl]
  have i1 : (RL Rs)[1]? = some (.d (rowsD (Rs[1]'(by omega)))) := by
    unfold RL
    rw [List.getElem?_map, List.getElem?_map, List.getElem?_eq_getElem (by omega)]
    rfl
  have ix : mBin fIx (mVar 1) (mC (.int 1)) ρ h = some (.d (rowsD (Rs[1]'(by omega))), h) := by
    refine (bin_of (f := fIx) (show mVar 1 ρ h = some (.ref G.length, h) from rfl) (show mC (.int 1) ρ h = some (.d (.int 1), h) from rfl)).trans ?_
    have il : itemsL (.ref G.length) h = some (RL Rs) := by simp only [itemsL, hc]
    have at1 : L2.atI (RL Rs) 1 = some (.d (rowsD (Rs[1]'(by omega)))) := by
      unfold L2.atI ixN
      rw [if_pos (by omega), if_pos (by omega)]
      exact i1
    have s : fIxS (.ref G.length) (.d (.int 1)) h = some (.d (rowsD (Rs[1]'(by omega))), h) := by
      unfold fIxS
      dsimp only
      rw [il]
      dsimp only
      rw [at1]
      rfl
    unfold fIx orF
    rw [s]
  have ap := append_eq (y := .d (rowsD (Rs[1]'(by omega)))) hc (by omega)
  have e := (met_of (T := "list") (F := fAppend) (show mVar 1 ρ h = some (.ref G.length, h) from rfl) (isT_list hc) (cons_of ix (show mNil ρ h = some ([], h) from rfl))).trans ap
  have q := drop_of2 e
  have ee : RL Rs ++ [.d (rowsD (Rs[1]'(by omega)))] = RL (Rs ++ [Rs[1]'(by omega)]) := by simp [RL]
  rw [ee] at q
  simp only [h, set_last] at q
  exact q
def e_texts : EI := (mLc false (srcQ (mVar 1)) (gN 4) mYes (mCall 1 fn_law_said (mCons (mVar 4) mNil)) [4])
theorem texts_ok {G : Hh} {Rs : List (List Row)} (hl : Rs.length < 1000) (hg : ∀ R ∈ Rs, GR R) (l : Nat) (x2 x3 x4 x5 x6 x7 x8 x9 : Option A) :
    e_texts (E10 l (some (.ref G.length)) x2 x3 x4 x5 x6 x7 x8 x9) (G ++ [.lst (RL Rs)]) = some (.d (LS (Rs.map said)), G ++ [.lst (RL Rs)]) := by
  let ρ := E10 l (some (.ref G.length)) x2 x3 x4 x5 x6 x7 x8 x9
  let h : Hh := G ++ [.lst (RL Rs)]
  have hc : h[G.length]? = some (.lst (RL Rs)) := by simp [h]
  have src := cell_src (m := mVar 1) (ρ := ρ) (h := h) (h1 := h) rfl hc
  have z := lc_mapA (g := gN 4) (m := mCall 1 fn_law_said (mCons (mVar 4) mNil)) (vs := [4]) rowsD (fun R => .str (said R)) src (by simp [RL]) (fun i => by simp [listN, itemsL, hc, RL]; rfl) hl fun i hi => by
    let ρ1 := E10 l (some (.ref G.length)) x2 x3 (some (.d (rowsD Rs[i]))) x5 x6 x7 x8 x9
    have g := hg _ (List.getElem_mem hi)
    exact ⟨ρ1, rfl, said_of g.s g.z (j := 4) (ρ := ρ1) (h := h) rfl⟩
  show e_texts ρ h = _
  unfold e_texts
  rw [z]
  unfold LS
  rw [List.map_map]
  rfl
def e_mk : EI := (mIf (mBl (mBin (fEqD false) (dr 2) (mC (.int 0)))) (mMake "Web" 2 fn_Web__init_ (mCons (mVar 6) mNil)) (mMakeK "Web" 1 [0] fn_Web__init_ (mCons (mVar 6) mNil)))
def e_webs : EI := (mLc false (srcQ (mVar 3)) (gN 6) mYes e_mk [6])
theorem mk_ok {R : List Row} (g : GR R) {h : Hh} (hd : DH h) {l : Nat} {p : Int × Int} (hl : h[l]? = some (PUR p)) (x1 x2 x3 x4 x5 x7 x8 x9 : Option A) :
    ∃ p', e_mk (E10 l x1 x2 x3 x4 x5 (some (.d (.str (said R)))) x7 x8 x9) h = some (.d (webOf R), h.set l (PUR p')) := by
  let ρ := E10 l x1 x2 x3 x4 x5 (some (.d (.str (said R)))) x7 x8 x9
  let h1 : Hh := h.set l (PUR (drw p 2).2)
  have d : dr 2 ρ h = some (.d (.int (drw p 2).1), h1) := (call_of (n := 2) (F := fn_law_draw) (show mCons (mVar 0) (mCons (mC (.int 2)) mNil) ρ h = some ([.ref l, .d (.int 2)], h) from rfl) rfl).trans (draw_eq (by omega) (by omega) hl)
  have t : mBl (mBin (fEqD false) (dr 2) (mC (.int 0))) ρ h = some (decide ((drw p 2).1 = 0), h1) := by
    unfold mBl
    rw [(bin_of (f := fEqD false) d (show mC (.int 0) ρ h1 = some (.d (.int 0), h1) from rfl)).trans (int_eq _ _ _)]
  have w := web_eq g.v g.ne g.z (H := h1) (hd.set dO_pur)
  have nil : mNil ρ h1 = some ([], h1) := rfl
  have v6 : mVar 6 ρ h1 = some (.d (.str (said R)), h1) := rfl
  refine ⟨(drw p 2).2, ?_⟩
  show e_mk ρ h = _
  unfold e_mk mIf
  rw [t]
  cases decide ((drw p 2).1 = 0) with
  | true => exact (make_of (c := "Web") (n := 2) (F := fn_Web__init_) (cons_of v6 nil) rfl).trans w
  | false =>
    have k : mMakeK "Web" 1 [0] fn_Web__init_ (mCons (mVar 6) mNil) ρ h1 = mkObj "Web" fn_Web__init_ [.d (.str (said R))] h1 := by
      unfold mMakeK
      rw [on_of (cons_of v6 nil)]
      rfl
    exact k.trans w
theorem webs_ok {Rs : List (List Row)} (hz : Rs.length < 1000) (hg : ∀ R ∈ Rs, GR R) {h : Hh} (hd : DH h) {l : Nat} {p : Int × Int} (hl : h[l]? = some (PUR p)) (x1 x2 x4 x5 x6 x7 x8 x9 : Option A) :
    ∃ p', e_webs (E10 l x1 x2 (some (.d (LS (Rs.map said)))) x4 x5 x6 x7 x8 x9) h = some (.d (.lst (Rs.map webOf)), h.set l (PUR p')) := by
  have hlt : l < h.length := (List.getElem?_eq_some_iff.mp hl).1
  let ρ := E10 l x1 x2 (some (.d (LS (Rs.map said)))) x4 x5 x6 x7 x8 x9
  have src := srcQ_data (m := mVar 3) (ρ := ρ) (h := h) (h1 := h) (xs := (Rs.map said).map .str) rfl
  obtain ⟨acc, H', ⟨p', ea, eh⟩, e2⟩ := lc_items (items := ((Rs.map said).map D.str).map A.d) (g := gN 6) (t := mYes) (m := e_mk) (vs := [6])
    (I := fun i acc h' => ∃ p' : Int × Int, acc = ((Rs.take i).map webOf).map A.d ∧ h' = h.set l (PUR p')) (fun i h => items_map _ h i) (by simp) src
    (fun i acc h' hi ⟨p', ea, eh⟩ => by
      subst eh
      have hi' : i < Rs.length := by simpa using hi
      have gi : (((Rs.map said).map D.str).map A.d)[i] = .d (.str (said Rs[i])) := by simp
      obtain ⟨p2, e⟩ := mk_ok (hg _ (List.getElem_mem hi')) (hd.set (l := l) (o := PUR p') dO_pur) (p := p') (List.getElem?_set_self hlt) x1 x2 (some (.d (LS (Rs.map said)))) x4 x5 x7 x8 x9
      rw [List.set_set] at e
      refine ⟨E10 l x1 x2 (some (.d (LS (Rs.map said)))) x4 x5 (some (.d (.str (said Rs[i])))) x7 x8 x9, h.set l (PUR p'), true, h.set l (PUR p'), (congrArg (fun a => gN 6 a (wipeE ρ [6]) (h.set l (PUR p'))) gi).trans rfl, rfl, (fun z => by cases z), fun _ => ⟨_, _, e, ⟨p2, ?_, rfl⟩, ?_⟩⟩
      · rw [ea, take_snoc hi', List.map_append, List.map_append]
        rfl
      · rw [ea, List.length_map, List.length_map, List.length_take]
        omega) ⟨p, rfl, by rw [set_self hl]⟩
  subst eh
  have ln : (((Rs.map said).map D.str).map A.d).length = Rs.length := by simp
  rw [ln, List.take_length] at ea
  refine ⟨p', ?_⟩
  show e_webs ρ h = _
  unfold e_webs
  rw [e2 false, ea]
  exact mkL_data (by rw [List.length_map]; exact hz)
/-! ### == and != of webs -/
theorem web_eq2 {a b : List Row} (ha : PyData.strOk (said a) = true) (hb : PyData.strOk (said b) = true) (H : Hh) : fn_Web__eq_ [.d (webOf a), .d (webOf b)] H = some (.d (.bl (decide (said a = said b))), H) := by
  have z : fn_Web__eq_ [.d (webOf a), .d (webOf b)] H = finP H.length (m_Web__eq_ [some (.d (webOf a)), some (.d (webOf b))] H) := mkFn_eq rfl
  let ρ : En := [some (.d (webOf a)), some (.d (webOf b))]
  have i : mIsC "Web" (mVar 1) ρ H = some (.d (.bl true), H) := by kernel_rfl
  have e : mBin (fEqD false) (mUn (fFld "Web" "_text") (mVar 0)) (mUn (fFld "Web" "_text") (mVar 1)) ρ H = some (.d (.bl (decide (said a = said b))), H) :=
    (bin_of (f := fEqD false) ((un_of (show mVar 0 ρ H = some (.d (webOf a), H) from rfl)).trans (f_text a H)) ((un_of (show mVar 1 ρ H = some (.d (webOf b), H) from rfl)).trans (f_text b H))).trans (str_eq ha hb H)
  have c : m_Web__eq_ ρ H = some (.rt (.d (.bl (decide (said a = said b)))) H) := by
    have d1 : m_Web__eq_ = mRet (mAnd (mIsC "Web" (mVar 1)) (mBin (fEqD false) (mUn (fFld "Web" "_text") (mVar 0)) (mUn (fFld "Web" "_text") (mVar 1)))) := rfl
    rw [d1]
    unfold mRet mAnd
    rw [i]
    dsimp only [truthA]
    rw [e]
  rw [z, c]
  show some (cut H.length _ H) = _
  rw [cut_same rfl]
def opW (neg : Bool) : A → A → Hh → Option (A × Hh) := orF (fEqD neg) (fEqC neg "Web" fn_Web__eq_)
theorem op_web {neg : Bool} {a b : List Row} (ha : PyData.strOk (said a) = true) (hb : PyData.strOk (said b) = true) (H : Hh) : opW neg (.d (webOf a)) (.d (webOf b)) H = some (.d (.bl (neg ^^ decide (said a = said b))), H) := by
  have k : fEqD neg (.d (webOf a)) (.d (webOf b)) H = none := rfl
  have r : isRt "Web" (.d (webOf b)) H = true := by
    unfold isRt
    rw [web_fields]
    rfl
  unfold opW orF
  rw [k]
  dsimp only
  unfold fEqC
  rw [web_fields]
  dsimp only
  rw [r, if_pos rfl, web_eq2 ha hb]
theorem op_odd {neg : Bool} {a : List Row} {d : D} {T : String} (hT : ∀ H, tyName (.d d) H = some T) (hF : ∀ H, fieldsOf "Web" (.d d) H = none) (H : Hh) : opW neg (.d (webOf a)) (.d d) H = some (.d (.bl neg), H) := by
  have k : fEqD neg (.d (webOf a)) (.d d) H = none := rfl
  have r : isRt "Web" (.d d) H = true := by
    unfold isRt
    rw [hT, hF]
    rfl
  let ρ : En := [some (.d (webOf a)), some (.d d)]
  have i : mIsC "Web" (mVar 1) ρ H = some (.d (.bl false), H) := by
    unfold mIsC
    rw [show mVar 1 ρ H = some (.d d, H) from rfl]
    dsimp only
    rw [hF]
    dsimp only
    rw [hT]
  have z : fn_Web__eq_ [.d (webOf a), .d d] H = finP H.length (m_Web__eq_ ρ H) := mkFn_eq rfl
  have c : m_Web__eq_ ρ H = some (.rt (.d (.bl false)) H) := by
    have d1 : m_Web__eq_ = mRet (mAnd (mIsC "Web" (mVar 1)) (mBin (fEqD false) (mUn (fFld "Web" "_text") (mVar 0)) (mUn (fFld "Web" "_text") (mVar 1)))) := rfl
    rw [d1]
    unfold mRet mAnd
    rw [i]
    rfl
  have e : fn_Web__eq_ [.d (webOf a), .d d] H = some (.d (.bl false), H) := by
    rw [z, c]
    show some (cut H.length _ H) = _
    rw [cut_same rfl]
  unfold opW orF
  rw [k]
  dsimp only
  unfold fEqC
  rw [web_fields]
  dsimp only
  rw [r, if_pos rfl, e]
  dsimp only
  rw [Bool.xor_false]
theorem bools_same (bs : List Bool) (h : Hh) : fEqD true (.d (.lst (bs.map D.bl))) (.d (.lst (bs.map D.bl))) h = some (.d (.bl false), h) := by
  have e1 : pyOf (.d (.lst (bs.map D.bl))) h = some (.list (bs.map PyData.bool)) := by
    unfold pyOf
    dsimp only
    unfold toPy
    rw [toPys_map (f := D.bl) (g := PyData.bool) (fun x => by simp [toPy])]
    rfl
  have s1 : SeqAt.shaped (.list (bs.map PyData.bool)) = true := by
    have a := lay_map (g := PyData.bool) (xs := bs) fun s hs => by simp [PyData.canLay0]
    have b := depth_map (g := PyData.bool) (xs := bs) (d := 0) fun s hs => by simp [PyData.depth]
    unfold SeqAt.shaped
    rw [Bool.and_eq_true, decide_eq_true_eq]
    refine ⟨by simp only [PyData.canLay0]; exact a, ?_⟩
    simp only [PyData.depth]
    omega
  have q : PyData.eqv (.list (bs.map PyData.bool)) (.list (bs.map PyData.bool)) = true := by
    simp only [PyData.eqv]
    induction bs with
    | nil => simp [PyData.eqvAll]
    | cons b bs ih => simp [PyData.eqvAll, PyData.eqv]; simpa using (by
        have : ∀ l : List Bool, PyData.eqvAll (l.map PyData.bool) (l.map PyData.bool) = true := fun l => by
          induction l with
          | nil => simp [PyData.eqvAll]
          | cons x l ih2 => simp [PyData.eqvAll, PyData.eqv, ih2]
        exact this bs)
  unfold fEqD
  rw [e1]
  dsimp only
  rw [s1, q]
  rfl
end K02
set_option Elab.async false
set_option linter.all false
set_option maxRecDepth 100000
set_option maxHeartbeats 1000000
namespace K02
open PySem PySem.Spec PyProof.Rows L2 F2
section
variable {l c : Nat} {Rs : List (List Row)} {R : List Row} {h : Hh}
abbrev Z10 (l c : Nat) (Rs : List (List Row)) (R : List Row) (x2 x8 x9 : Option A) : En := E10 l (some (.ref c)) x2 (some (.d (LS (Rs.map said)))) (some (.d (rowsD R))) (some (.d (.lst (Rs.map webOf)))) (some (.d (.str (said R)))) (some (.d (webOf R))) x8 x9
def e_cmpW (neg : Bool) : EI := (mLc false (srcQ (mVar 5)) (gN 8) mYes (mBin (opW neg) (mVar 7) (mVar 8)) [8])
def e_cmpS (neg : Bool) : EI := (mLc false (srcQ (mVar 3)) (gN 8) mYes (mBin (fEqD neg) (mVar 6) (mVar 8)) [8])
theorem cmpW_ok (neg : Bool) (hz : Rs.length < 1000) (hg : ∀ R ∈ Rs, GR R) (g : GR R) (x2 x8 x9 : Option A) (h : Hh) : e_cmpW neg (Z10 l c Rs R x2 x8 x9) h = some (.d (.lst ((Rs.map fun Q => neg ^^ decide (said R = said Q)).map D.bl)), h) := by
  have src := srcQ_data (m := mVar 5) (ρ := Z10 l c Rs R x2 x8 x9) (h := h) (h1 := h) (xs := Rs.map webOf) rfl
  have z := lc_mapA (g := gN 8) (m := mBin (opW neg) (mVar 7) (mVar 8)) (vs := [8]) webOf (fun Q => .bl (neg ^^ decide (said R = said Q))) src (by simp) (fun i => (items_map _ h i).trans (by rw [List.map_map]; rfl)) hz fun i hi => by
    let ρ1 := Z10 l c Rs R x2 (some (.d (webOf Rs[i]))) x9
    exact ⟨ρ1, rfl, (bin_of (f := opW neg) (show mVar 7 ρ1 h = some (.d (webOf R), h) from rfl) (show mVar 8 ρ1 h = some (.d (webOf Rs[i]), h) from rfl)).trans (op_web g.t (hg _ (List.getElem_mem hi)).t h)⟩
  unfold e_cmpW
  rw [z, List.map_map]
  rfl
theorem cmpS_ok (neg : Bool) (hz : Rs.length < 1000) (hg : ∀ R ∈ Rs, GR R) (g : GR R) (x2 x8 x9 : Option A) (h : Hh) : e_cmpS neg (Z10 l c Rs R x2 x8 x9) h = some (.d (.lst ((Rs.map fun Q => neg ^^ decide (said R = said Q)).map D.bl)), h) := by
  have src := srcQ_data (m := mVar 3) (ρ := Z10 l c Rs R x2 x8 x9) (h := h) (h1 := h) (xs := (Rs.map said).map .str) rfl
  have z := lc_mapA (g := gN 8) (m := mBin (fEqD neg) (mVar 6) (mVar 8)) (vs := [8]) (fun Q => .str (said Q)) (fun Q => .bl (neg ^^ decide (said R = said Q))) src (by simp) (fun i => (items_map _ h i).trans (by rw [List.map_map, List.map_map]; rfl)) hz fun i hi => by
    let ρ1 := Z10 l c Rs R x2 (some (.d (.str (said Rs[i])))) x9
    refine ⟨ρ1, rfl, (bin_of (f := fEqD neg) (show mVar 6 ρ1 h = some (.d (.str (said R)), h) from rfl) (show mVar 8 ρ1 h = some (.d (.str (said Rs[i])), h) from rfl)).trans ?_⟩
    cases neg with
    | false => rw [str_eq g.t (hg _ (List.getElem_mem hi)).t]; simp
    | true => rw [str_ne g.t (hg _ (List.getElem_mem hi)).t]; simp
  unfold e_cmpS
  rw [z, List.map_map]
  rfl
def t_cmp (neg : Bool) : TI' := (mBl (mBin (fEqD true) (e_cmpW neg) (e_cmpS neg)))
theorem cmp_ok (neg : Bool) (hz : Rs.length < 1000) (hg : ∀ R ∈ Rs, GR R) (g : GR R) (x2 x8 x9 : Option A) (h : Hh) : K02.t_cmp neg (Z10 l c Rs R x2 x8 x9) h = some (false, h) :=
  bl_of ((bin_of (f := fEqD true) (cmpW_ok neg hz hg g x2 x8 x9 h) (cmpS_ok neg hz hg g x2 x8 x9 h)).trans (bools_same _ h))
def oddsD (R : List Row) : List D := [.non, .int 0, .str (said R), .tup [.str (said R)], .lst [webOf R], .dK [], .bl true]
def e_odds : EI := (mOn (mkL false) (mCons (mC .non) (mCons (mC (.int 0)) (mCons (mVar 6) (mCons (mOn mkT (mCons (mVar 6) mNil)) (mCons (mOn (mkL false) (mCons (mVar 7) mNil)) (mCons (mDnewK false) (mCons (mC (.bl true)) mNil))))))))
theorem odds_ok (x2 x8 x9 : Option A) (h : Hh) : e_odds (Z10 l c Rs R x2 x8 x9) h = some (.d (.lst (oddsD R)), h) := by
  let ρ := Z10 l c Rs R x2 x8 x9
  have lv := LIMv
  have nil : mNil ρ h = some ([], h) := rfl
  have a : mOn mkT (mCons (mVar 6) mNil) ρ h = some (.d (.tup [.str (said R)]), h) := by
    rw [on_of (cons_of (show mVar 6 ρ h = some (.d (.str (said R)), h) from rfl) nil)]
    unfold mkT
    rw [if_pos (by simp; omega)]
    rfl
  have b : mOn (mkL false) (mCons (mVar 7) mNil) ρ h = some (.d (.lst [webOf R]), h) := by
    rw [on_of (cons_of (show mVar 7 ρ h = some (.d (webOf R), h) from rfl) nil)]
    exact mkL_data (xs := [webOf R]) (by simp)
  have d : mDnewK false ρ h = some (.d (.dK []), h) := rfl
  show e_odds ρ h = _
  unfold e_odds
  rw [on_of (cons_of (show mC .non ρ h = some (.d .non, h) from rfl) (cons_of (show mC (.int 0) ρ h = some (.d (.int 0), h) from rfl) (cons_of (show mVar 6 ρ h = some (.d (.str (said R)), h) from rfl) (cons_of a (cons_of b (cons_of d (cons_of (show mC (.bl true) ρ h = some (.d (.bl true), h) from rfl) nil)))))))]
  exact mkL_data (xs := oddsD R) (by simp [oddsD])
def t_odd : TI' := (mOrT (mBl (mBin (opW false) (mVar 7) (mVar 9))) (mNotT (mBl (mBin (opW true) (mVar 7) (mVar 9)))))
def b_odd : SI := (mIfS t_odd (mRet (mC (.bl false))) mSkip)
theorem odd_ok {d : D} (hd : d ∈ oddsD R) (x2 x8 : Option A) (h : Hh) : b_odd (Z10 l c Rs R x2 x8 (some (.d d))) h = some (.nx (Z10 l c Rs R x2 x8 (some (.d d))) h) := by
  have cls : (∃ T, ∀ H, tyName (.d d) H = some T) ∧ ∀ H, fieldsOf "Web" (.d d) H = none := by
    simp only [oddsD, List.mem_cons, List.not_mem_nil, or_false] at hd
    rcases hd with e | e | e | e | e | e | e <;> subst e <;> exact ⟨⟨_, fun H => rfl⟩, fun H => rfl⟩
  obtain ⟨⟨T, hT⟩, hF⟩ := cls
  let ρ := Z10 l c Rs R x2 x8 (some (.d d))
  have v7 : mVar 7 ρ h = some (.d (webOf R), h) := rfl
  have v9 : mVar 9 ρ h = some (.d d, h) := rfl
  have t1 := bl_of ((bin_of (f := opW false) v7 v9).trans (op_odd hT hF h))
  have t2 : mNotT (mBl (mBin (opW true) (mVar 7) (mVar 9))) ρ h = some (false, h) := by
    unfold mNotT
    rw [bl_of ((bin_of (f := opW true) v7 v9).trans (op_odd hT hF h))]
    rfl
  exact if_no (or_ff t1 t2)
def b_zip : SI := mSeq (mIfS (mNotT (mTru (mCall 2 fn_law_is (mCons (mVar 7) (mCons (mVar 4) mNil))))) (mRet (mC (.bl false))) mSkip) (mSeq (mIfS (K02.t_cmp false) (mRet (mC (.bl false))) mSkip) (mSeq (mIfS (K02.t_cmp true) (mRet (mC (.bl false))) mSkip) (mFor (srcQ e_odds) (gN 9) b_odd)))
theorem zip_turn (hz : Rs.length < 1000) (hg : ∀ R ∈ Rs, GR R) (g : GR R) (x2 x8 x9 : Option A) (h : Hh) : ∃ y9, b_zip (Z10 l c Rs R x2 x8 x9) h = some (.nx (Z10 l c Rs R x2 x8 y9) h) := by
  let ρ := Z10 l c Rs R x2 x8 x9
  have q := (call_of (n := 2) (F := fn_law_is) (show mCons (mVar 7) (mCons (mVar 4) mNil) ρ h = some ([.d (webOf R), .d (rowsD R)], h) from rfl) rfl).trans (is_eq g.v g.o g.z h)
  have s1 : mIfS (mNotT (mTru (mCall 2 fn_law_is (mCons (mVar 7) (mCons (mVar 4) mNil))))) (mRet (mC (.bl false))) mSkip ρ h = some (.nx ρ h) := if_no (not_tru q)
  have s2 : mIfS (K02.t_cmp false) (mRet (mC (.bl false))) mSkip ρ h = some (.nx ρ h) := if_no (cmp_ok false hz hg g x2 x8 x9 h)
  have s3 : mIfS (K02.t_cmp true) (mRet (mC (.bl false))) mSkip ρ h = some (.nx ρ h) := if_no (cmp_ok true hz hg g x2 x8 x9 h)
  have src := srcQ_data (odds_ok (l := l) (c := c) (Rs := Rs) (R := R) x2 x8 x9 h)
  obtain ⟨ρ', h', e, y9, er, eh⟩ := for_items (items := (oddsD R).map A.d) (g := gN 9) (b := b_odd) (I := fun i ρ h' => ∃ y9 : Option A, ρ = Z10 l c Rs R x2 x8 y9 ∧ h' = h) (fun i h => items_map _ h i) (by simp) src
    (fun i ρ h' hi ⟨y9, er, eh⟩ => by
      subst er eh
      have hi' : i < (oddsD R).length := by simpa using hi
      have gq : ((oddsD R).map A.d)[i]? = some (.d ((oddsD R)[i]'hi')) := by
        rw [List.getElem?_map, List.getElem?_eq_getElem hi']
        rfl
      have gi : ((oddsD R).map A.d)[i]'hi = .d ((oddsD R)[i]'hi') := (List.getElem?_eq_some_iff.mp gq).2
      exact ⟨_, _, (congrArg (fun a => mTurn (gN 9) b_odd a (Z10 l c Rs R x2 x8 y9) h') gi).trans (odd_ok (List.getElem_mem hi') x2 x8 h'), _, rfl, rfl⟩) ⟨x9, rfl, rfl⟩
  subst er eh
  exact ⟨y9, (seq_nx s1).trans ((seq_nx s2).trans ((seq_nx s3).trans e))⟩
def e_zips : AI := (mCons (mVar 5) (mCons (mVar 1) (mCons (mVar 3) mNil)))
def g_zip : GI := (gT 3 (gsCons (gN 7) (gsCons (gN 4) (gsCons (gN 6) gsNil))))
theorem zip_loop (hz : Rs.length < 1000) (hg : ∀ R ∈ Rs, GR R) (hc : h[c]? = some (.lst (RL Rs))) (x2 x4 x6 x7 x8 x9 : Option A) :
    ∃ y4 y6 y7 y9, mFor (srcZ3 e_zips) g_zip b_zip (E10 l (some (.ref c)) x2 (some (.d (LS (Rs.map said)))) x4 (some (.d (.lst (Rs.map webOf)))) x6 x7 x8 x9) h = some (.nx (E10 l (some (.ref c)) x2 (some (.d (LS (Rs.map said)))) y4 (some (.d (.lst (Rs.map webOf)))) y6 y7 x8 y9) h) := by
  let ρ := E10 l (some (.ref c)) x2 (some (.d (LS (Rs.map said)))) x4 (some (.d (.lst (Rs.map webOf)))) x6 x7 x8 x9
  have i1 : itemsL (.d (.lst (Rs.map webOf))) h = some ((Rs.map webOf).map A.d) := rfl
  have i2 : itemsL (.ref c) h = some (RL Rs) := by simp only [itemsL, hc]
  have i3 : itemsL (.d (LS (Rs.map said))) h = some (((Rs.map said).map D.str).map A.d) := rfl
  have src : srcZ3 e_zips ρ h = some (⟨zip3N (.d (.lst (Rs.map webOf))) (.ref c) (.d (LS (Rs.map said))), ((Rs.map webOf).map A.d).length⟩, h) := by
    unfold srcZ3
    rw [show e_zips ρ h = some ([.d (.lst (Rs.map webOf)), .ref c, .d (LS (Rs.map said))], h) from rfl]
    dsimp only
    rw [i1]
    dsimp only
    rw [i2]
    dsimp only
    rw [i3]
  have nx : ∀ i, i ≤ Rs.length → zip3N (.d (.lst (Rs.map webOf))) (.ref c) (.d (LS (Rs.map said))) i h = some (Rs.map fun R => A.d (.tup [webOf R, rowsD R, .str (said R)]))[i]? := fun i hi => by
    have l1 : ((Rs.map webOf).map A.d).length = Rs.length := by simp
    have l2 : (RL Rs).length = Rs.length := by simp [RL]
    have l3 : (((Rs.map said).map D.str).map A.d).length = Rs.length := by simp
    unfold zip3N
    rw [i1]
    dsimp only
    rw [i2]
    dsimp only
    rw [i3]
    dsimp only
    rw [if_pos (by omega)]
    by_cases e : i = Rs.length
    · rw [if_pos (by omega), List.getElem?_eq_none (by simp; omega)]
    · rw [if_neg (by omega)]
      have hlt : i < Rs.length := by omega
      have a1 : ((Rs.map webOf).map A.d)[i]? = some (.d (webOf Rs[i])) := by simp [hlt]
      have a2 : (RL Rs)[i]? = some (.d (rowsD Rs[i])) := by simp [RL, hlt]
      have a3 : (((Rs.map said).map D.str).map A.d)[i]? = some (.d (.str (said Rs[i]))) := by simp [hlt]
      rw [a1, a2, a3]
      dsimp only
      rw [List.getElem?_map, List.getElem?_eq_getElem hlt]
      rfl
  obtain ⟨ρ', h', e, _, y4, y6, y7, y9, er, eh⟩ := for_itemsI (items := Rs.map fun R => A.d (.tup [webOf R, rowsD R, .str (said R)])) (g := g_zip) (b := b_zip)
    (I := fun i ρ h' => i ≤ Rs.length ∧ ∃ y4 y6 y7 y9 : Option A, ρ = E10 l (some (.ref c)) x2 (some (.d (LS (Rs.map said)))) y4 (some (.d (.lst (Rs.map webOf)))) y6 y7 x8 y9 ∧ h' = h)
    (fun i ρ h' ⟨hi, _, _, _, _, _, eh⟩ => by rw [eh]; exact nx i hi) (by simp) src
    (fun i ρ h' hi ⟨_, y4, y6, y7, y9, er, eh⟩ => by
      subst er eh
      have hi' : i < Rs.length := by simpa using hi
      have gq : (Rs.map fun R => A.d (.tup [webOf R, rowsD R, .str (said R)]))[i]? = some (A.d (.tup [webOf (Rs[i]'hi'), rowsD (Rs[i]'hi'), .str (said (Rs[i]'hi'))])) := by
        rw [List.getElem?_map, List.getElem?_eq_getElem hi']
        rfl
      have gi := (List.getElem?_eq_some_iff.mp gq).2
      obtain ⟨z9, e⟩ := zip_turn (l := l) (c := c) hz hg (hg _ (List.getElem_mem hi')) x2 x8 y9 h'
      exact ⟨_, _, (congrArg (fun a => mTurn g_zip b_zip a (E10 l (some (.ref c)) x2 (some (.d (LS (Rs.map said)))) y4 (some (.d (.lst (Rs.map webOf)))) y6 y7 x8 y9) h') gi).trans e, by omega, _, _, _, _, rfl, rfl⟩) ⟨by omega, x4, x6, x7, x9, rfl, rfl⟩
  subst er eh
  exact ⟨y4, y6, y7, y9, e⟩
end
theorem right_ok : RIGHT := fun p H l hd hl => by
  have hlt : l < H.length := (List.getElem?_eq_some_iff.mp hl).1
  let ρ0 : En := E10 l none none none none none none none none none
  obtain ⟨Rs, p1, e1, l4, hg⟩ := some_ok hd hl none none none none none none none none none
  let G : Hh := H.set l (PUR p1)
  have gl : G.length = H.length := List.length_set
  have e2 := more_ok (G := G) (Rs := Rs) l4 l none none none none none none none none
  rw [gl] at e2
  let R5 := Rs ++ [Rs[1]'(by omega)]
  have l5 : R5.length = 5 := by simp [R5, l4]
  have hg5 : ∀ R ∈ R5, GR R := fun R hR => by
    rcases List.mem_append.mp hR with h | h
    · exact hg R h
    · rw [List.mem_singleton.mp h]
      exact hg _ (List.getElem_mem _)
  have e3 := texts_ok (G := G) (Rs := R5) (by omega) hg5 l none none none none none none none none
  rw [gl] at e3
  let K0 : Hh := G ++ [.lst (RL R5)]
  have dk : DH K0 := (hd.set (l := l) (o := PUR p1) dO_pur).app (G := [.lst (RL R5)]) (by simp [DH, dO, RL, isD])
  have k0l : K0[l]? = some (PUR p1) := by
    simp only [K0]
    rw [List.getElem?_append_left (by omega)]
    exact List.getElem?_set_self hlt
  obtain ⟨p2, e4⟩ := webs_ok (Rs := R5) (by omega) hg5 dk k0l (some (.ref H.length)) none none none none none none none
  let K : Hh := K0.set l (PUR p2)
  have kc : K[H.length]? = some (.lst (RL R5)) := by
    simp only [K]
    rw [List.getElem?_set_ne (by omega)]
    simp only [K0]
    rw [List.getElem?_append_right (by omega), gl, Nat.sub_self]
    rfl
  obtain ⟨y4, y6, y7, y9, e5⟩ := zip_loop (l := l) (c := H.length) (Rs := R5) (h := K) (by omega) hg5 kc none none none none none none
  have d1 : m_law_right = mSeq (mAsg e_some (gN 1)) (mSeq e_more (mSeq (mAsg e_texts (gN 3)) (mSeq (mAsg e_webs (gN 5)) (mSeq (mFor (srcZ3 e_zips) g_zip b_zip) (mRet (mC (.bl true))))))) := rfl
  have body : m_law_right ρ0 H = some (.rt (.d (.bl true)) K) := by
    rw [d1]
    exact (seq_nx (asg_N (i := 1) e1)).trans ((seq_nx e2).trans ((seq_nx (asg_N (i := 3) e3)).trans ((seq_nx (asg_N (i := 5) e4)).trans ((seq_nx e5).trans rfl))))
  have tk : K.take H.length = H.set l (PUR p2) := by
    apply List.ext_getElem?
    intro k
    by_cases hk : k < H.length
    · rw [List.getElem?_take_of_lt hk]
      by_cases c : l = k
      · subst c
        rw [set_at k0l, List.getElem?_set_self hk]
      · simp only [K]
        rw [List.getElem?_set_ne c, List.getElem?_set_ne c]
        simp only [K0, G]
        rw [List.getElem?_append_left (by rw [List.length_set]; exact hk), List.getElem?_set_ne c]
    · rw [List.getElem?_eq_none (by simp; omega), List.getElem?_eq_none (by simp; omega)]
  have z : fn_law_right [.ref l] H = finP H.length (m_law_right ρ0 H) := mkFn_eq rfl
  refine ⟨p2, ?_⟩
  rw [z, body]
  show some (cut H.length (.d (.bl true)) K) = _
  unfold cut
  have lw : ((K.take H.length).all (lowO H.length)) = true := by
    rw [tk]
    exact DH.low (hd.set dO_pur)
  rw [if_pos (by rw [lw]; rfl), tk]
theorem law_true (ns : List Int) (hn : ns.length ≤ 63) : ∃ h', fn_law [.d (.scr ns)] [] = some (.d (.bl true), h') := law_ok right_ok ns hn
end K02
set_option Elab.async false
set_option linter.all false
set_option maxRecDepth 100000
set_option maxHeartbeats 0
namespace K02
open PySem PySem.Spec PyProof.Rows L2 F2
open PySem.W (Frag)
theorem txt_of {K : Frag} {h : Heap} {mg : Str → Option Value} (X : K.In h) (G : h.Ns mainGlobals mg) (c : SaysP fa fn K) : ∃ fd, Txt K mg fd := by
  obtain ⟨d0, F0⟩ := c.def_ 0 rfl
  obtain ⟨d1, F1⟩ := c.def_ 1 rfl
  obtain ⟨d2, F2⟩ := c.def_ 2 rfl
  obtain ⟨d3, F3⟩ := c.def_ 3 rfl
  obtain ⟨d4, F4⟩ := c.def_ 4 rfl
  obtain ⟨d5, F5⟩ := c.def_ 5 rfl
  obtain ⟨d6, F6⟩ := c.def_ 6 rfl
  obtain ⟨d7, F7⟩ := c.def_ 7 rfl
  obtain ⟨d8, F8⟩ := c.def_ 8 rfl
  obtain ⟨d9, F9⟩ := c.def_ 9 rfl
  obtain ⟨d10, F10⟩ := c.def_ 10 rfl
  obtain ⟨d11, F11⟩ := c.def_ 11 rfl
  obtain ⟨d12, F12⟩ := c.def_ 12 rfl
  obtain ⟨d13, F13⟩ := c.def_ 13 rfl
  obtain ⟨d14, F14⟩ := c.def_ 14 rfl
  obtain ⟨d15, F15⟩ := c.def_ 15 rfl
  obtain ⟨d16, F16⟩ := c.def_ 16 rfl
  obtain ⟨d17, F17⟩ := c.def_ 17 rfl
  obtain ⟨d18, F18⟩ := c.def_ 18 rfl
  obtain ⟨d19, F19⟩ := c.def_ 19 rfl
  obtain ⟨d20, F20⟩ := c.def_ 20 rfl
  obtain ⟨d21, F21⟩ := c.def_ 21 rfl
  obtain ⟨d22, F22⟩ := c.def_ 22 rfl
  obtain ⟨d23, F23⟩ := c.def_ 23 rfl
  obtain ⟨d24, F24⟩ := c.def_ 24 rfl
  obtain ⟨d25, F25⟩ := c.def_ 25 rfl
  obtain ⟨d26, F26⟩ := c.def_ 26 rfl
  obtain ⟨d27, F27⟩ := c.def_ 27 rfl
  obtain ⟨d28, F28⟩ := c.def_ 28 rfl
  obtain ⟨d29, F29⟩ := c.def_ 29 rfl
  obtain ⟨d30, F30⟩ := c.def_ 30 rfl
  refine ⟨fun n => (match n with | 0 => d0 | 1 => d1 | 2 => d2 | 3 => d3 | 4 => d4 | 5 => d5 | 6 => d6 | 7 => d7 | 8 => d8 | 9 => d9 | 10 => d10 | 11 => d11 | 12 => d12 | 13 => d13 | 14 => d14 | 15 => d15 | 16 => d16 | 17 => d17 | 18 => d18 | 19 => d19 | 20 => d20 | 21 => d21 | 22 => d22 | 23 => d23 | 24 => d24 | 25 => d25 | 26 => d26 | 27 => d27 | 28 => d28 | 29 => d29 | 30 => d30 | _ => d0), ?_⟩
  exact {
    kin := ⟨h, X, G⟩
    glo_wall := He.glo_ok X G (c.fact 0 rfl)
    glo_is_name := He.glo_ok X G (c.fact 1 rfl)
    glo_is_one_of := He.glo_ok X G (c.fact 2 rfl)
    glo_check_known := He.glo_ok X G (c.fact 3 rfl)
    glo_read_web := He.glo_ok X G (c.fact 4 rfl)
    glo_is_new_name := He.glo_ok X G (c.fact 5 rfl)
    glo_are_sources := He.glo_ok X G (c.fact 6 rfl)
    glo_first_full := He.glo_ok X G (c.fact 7 rfl)
    glo_may_be_chosen := He.glo_ok X G (c.fact 8 rfl)
    glo_law_purse := He.glo_ok X G (c.fact 9 rfl)
    glo_law_draw := He.glo_ok X G (c.fact 10 rfl)
    glo_law_pick := He.glo_ok X G (c.fact 11 rfl)
    glo_law_labels := He.glo_ok X G (c.fact 12 rfl)
    glo_law_rows := He.glo_ok X G (c.fact 13 rfl)
    glo_law_said := He.glo_ok X G (c.fact 14 rfl)
    glo_law_pairs := He.glo_ok X G (c.fact 15 rfl)
    glo_law_is := He.glo_ok X G (c.fact 16 rfl)
    glo_law_right := He.glo_ok X G (c.fact 17 rfl)
    glo_law := He.glo_ok X G (c.fact 18 rfl)
    free_ValueError := He.free_ok X G (c.fact 19 rfl)
    free_abs := He.free_ok X G (c.fact 20 rfl)
    free_all := He.free_ok X G (c.fact 21 rfl)
    free_bool := He.free_ok X G (c.fact 22 rfl)
    free_divmod := He.free_ok X G (c.fact 23 rfl)
    free_int := He.free_ok X G (c.fact 24 rfl)
    free_isinstance := He.free_ok X G (c.fact 25 rfl)
    free_len := He.free_ok X G (c.fact 26 rfl)
    free_list := He.free_ok X G (c.fact 27 rfl)
    free_max := He.free_ok X G (c.fact 28 rfl)
    free_min := He.free_ok X G (c.fact 29 rfl)
    free_property := He.free_ok X G (c.fact 30 rfl)
    free_range := He.free_ok X G (c.fact 31 rfl)
    free_repr := He.free_ok X G (c.fact 32 rfl)
    free_str := He.free_ok X G (c.fact 33 rfl)
    free_tuple := He.free_ok X G (c.fact 34 rfl)
    free_zip := He.free_ok X G (c.fact 35 rfl)
    int_MOST_COPIES := c.fact 36 rfl
    int_LONGEST_NAME := c.fact 37 rfl
    glo_Web := He.glo_ok X G (c.fact 38 rfl)
    cls_Web := c.fact 39 rfl
    mkr_Web := c.fact 40 rfl
    noat_Web_copies := c.fact 41 rfl
    noat_Web_ends := c.fact 42 rfl
    noat_Web_lines := c.fact 43 rfl
    noat_Web_names := c.fact 44 rfl
    noat_Web_sources := c.fact 45 rfl
    noat_Web_text := c.fact 46 rfl
    prop_Web_text := c.fact 47 rfl
    prop_Web_names := c.fact 48 rfl
    prop_Web_lines := c.fact 49 rfl
    prop_Web_ends := c.fact 50 rfl
    meth_Web_sources := c.fact 51 rfl
    meth_Web_copies := c.fact 52 rfl
    meth_Web_with_copy := c.fact 53 rfl
    meth_Web_without := c.fact 54 rfl
    meth_Web___eq__ := c.fact 55 rfl
    meth_Web___str__ := c.fact 56 rfl
    meth_Web___repr__ := c.fact 57 rfl
    eqne_Web := c.fact 58 rfl
    nf_Web := c.fact 59 rfl
    nt_Web := c.fact 60 rfl
    inst_Web := c.fact 61 rfl
    gs := c.fact 62 rfl
    f_wall := F0
    f_is_name := F1
    f_is_one_of := F2
    f_check_known := F3
    f_read_web := F4
    f_is_new_name := F5
    f_are_sources := F6
    f_first_full := F7
    f_may_be_chosen := F8
    f_Web__init_ := F9
    f_Web_text := F10
    f_Web_names := F11
    f_Web_lines := F12
    f_Web_ends := F13
    f_Web_sources := F14
    f_Web_copies := F15
    f_Web_with_copy := F16
    f_Web_without := F17
    f_Web__eq_ := F18
    f_Web__str_ := F19
    f_Web__repr_ := F20
    f_law_purse := F21
    f_law_draw := F22
    f_law_pick := F23
    f_law_labels := F24
    f_law_rows := F25
    f_law_said := F26
    f_law_pairs := F27
    f_law_is := F28
    f_law_right := F29
    f_law := F30
  }
end K02
open PySem PySem.W PySem.Calls PyProof.Rows
theorem K02.holds_of (M : ∀ ns : List Int, ns.length ≤ 63 → ∃ h', K02.fn_law [.d (.scr ns)] [] = some (.d (.bl true), h')) : PySem.Challenge.rw_basetrees_k02_webs_made.Holds := by
  w_on; o_law
  refine HandSHeadRun.head_any (r := OpenLaw.row PySem.Challenge.rw_basetrees_k02_webs_made) (q := view (OpenLaw.row PySem.Challenge.rw_basetrees_k02_webs_made).prog [29]) (H := K02.hk) (ob := K02.ob) (M := 4000) (loose := K02.loose) (d := HandSHeadRun.topDef (OpenLaw.row PySem.Challenge.rw_basetrees_k02_webs_made).prog 29) (kwd := []) K02.ob_eq
    (by kernel_rfl) (fun s => by kernel_rfl) K02.run (by kernel_rfl) (by kernel_rfl) (by kernel_rfl) (by rfl) (by first | assumption | decide +kernel) (by decide +kernel) ⟨rfl, rfl, rfl, rfl, rfl, by decide +kernel⟩ ?hw ?hc
  case hw => w_witness2
  case hc =>
    refine F2.walk_G (l := PySem.Challenge.rw_basetrees_k02_webs_made) (n := 63) (k := 8) (x := "_law_script") rfl (by decide) (by kernel_rfl) ⟨rfl, by decide, by decide⟩ ?F
    intro w mg fa h Y G hmg0
    obtain ⟨K, KX, nol, c⟩ := Y
    have hmg : mg ("law" : PySem.Str) = some (.ref fa) := by
      have e : (HandSHeadRun.topDef (OpenLaw.row PySem.Challenge.rw_basetrees_k02_webs_made).prog 29).name = ("law" : PySem.Str) := by kernel_rfl
      rw [← e]
      exact hmg0
    obtain ⟨fd, T⟩ := K02.txt_of KX G c
    have e := hmg.symm.trans T.glo_law
    cases e
    refine ⟨K, fd 30, K02.fn_law, KX, nol, fun s u => ?_, M, fun base _ _ => K02.ok_law T⟩
    exact T.f_law.bindsA (ps := ["_law_script"]) (fun _ _ _ _ _ _ us hl => match us, hl with | [_], _ => rfl) s [u] rfl
theorem PySem.Challenge.cw_basetrees_k02_webs_made_holds : PySem.Challenge.rw_basetrees_k02_webs_made.Holds :=
  K02.holds_of K02.law_true
