import PyProof.Rows.All
import Wide.All
import OpenK.AllK
import Wide.FinOn
import HandS.ForMost
import HandS.ForExc
import HandS.Walk
import HandS.IsInst
import HandS.StrMore
import HandS.RaiseMore
import PyProof.StrBlock2
import HandS.FStr
import HandS.TryMany
import HandS.Lambda
import HandS.Zip
import KE.GoesMore
import HandS.ExcIs
import HandS.ExcValue
import KE.KExcStr
import HandS.More
import HandS.EndTab
import HandS.Conv
import HandS.NoneIn
import HandS.Small
import KE.GoesEnum
import PyProof.ReprLen
import KE.SortKeyHeap
import HandS.SortKw
import HandS.DictComp
import PyProof.ListStr
import HandS.CallLocal
import HandS.Deep
import HandS.Style
import PySem.Challenge.RW_tearwords_k37_moves_of_sides
set_option Elab.async false
set_option linter.all false
set_option maxRecDepth 100000
set_option maxHeartbeats 4000000
namespace DL
open PySem PySem.Spec PyProof.Rows L2
abbrev Fg := PySem.W.Frag
abbrev Sg := L2.St
/-- plain data, without addresses -/
inductive D where
  | non | bl (b : Bool) | int (i : Int) | str (s : Str) | lst (xs : List D) | tup (xs : List D) | obj (v : V) | dic (ks : List Key) (vs : List D) | err (cls : Value) (m : Option Str)
def KT (K : Fg) (a : Addr) (xs : List V) : Prop := ∃ (o : Obj) (its : Array Value) (n : Nat), K.lookup a = some o ∧ o.cls = .type "tuple" ∧ o.data = .seq its n ∧ its.size ≤ sizeLine ∧ Vals xs its.toList
abbrev Av := Addr → Prop
def NL (av : Av) (H : Hp) (a : Addr) (xs : List V) : Prop := H a = some (.lst xs) ∧ ¬ av a
def NT (K : Fg) (av : Av) (H : Hp) (a : Addr) (xs : List V) : Prop := (H a = some (.tup xs) ∧ ¬ av a) ∨ KT K a xs
def ND (av : Av) (H : Hp) (a : Addr) (kvs : List (Key × V)) : Prop := H a = some (.dK kvs) ∧ ¬ av a
/-- an exception's object of the class cls, t the place of what it was made from, where that is known -/
def ErO (cls : Value) (a : Addr) (t : Option Addr) : HO := .ext fun h => ∃ (oe : Obj) (vs : Array Value), h.get? a = some oe ∧ Zc cls none oe ∧ oe.data = .fields vs ∧ ∀ b, t = some b → vs[0]? = some (.ref b)
def NE (av : Av) (H : Hp) (a : Addr) (cls : Value) (m : Option Str) : Prop := ∃ t, H a = some (ErO cls a t) ∧ ¬ av a ∧ ∀ x, m = some x → ∃ b, t = some b ∧ H b = some (.tup [.str x]) ∧ ¬ av b
section
variable {K : Fg} {av av' : Av} {H H' : Hp} {a : Addr} {xs : List V}
theorem NL.sq (h : NL av H a xs) : SqL K H a xs := .inl (.inl h.1)
theorem NT.sq (h : NT K av H a xs) : SqT K H a xs := h.elim (fun h => .inl (.inl h.1)) .inr
end
mutual
inductive Rp (K : Fg) (av : Av) (H : Hp) : V → D → Prop
  | non : Rp K av H .non .non
  | bl (b : Bool) : Rp K av H (.bl b) (.bl b)
  | int (i : Int) : Rp K av H (.int i) (.int i)
  | str (x : Str) : Rp K av H (.str x) (.str x)
  | obj (v : V) : Rp K av H v (.obj v)
  | lst {a : Addr} {xs : List V} {ds : List D} : NL av H a xs → Rps K av H xs ds → Rp K av H (.ref a) (.lst ds)
  | tup {a : Addr} {xs : List V} {ds : List D} : NT K av H a xs → Rps K av H xs ds → Rp K av H (.ref a) (.tup ds)
  | dic {a : Addr} {ks : List Key} {xs : List V} {ds : List D} : ND av H a (ks.zip xs) → ks.length = xs.length → Rps K av H xs ds → Rp K av H (.ref a) (.dic ks ds)
  | err {a : Addr} {cls : Value} {m : Option Str} : NE av H a cls m → Rp K av H (.ref a) (.err cls m)
inductive Rps (K : Fg) (av : Av) (H : Hp) : List V → List D → Prop
  | nil : Rps K av H [] []
  | cons {v : V} {vs : List V} {d : D} {ds : List D} : Rp K av H v d → Rps K av H vs ds → Rps K av H (v :: vs) (d :: ds)
end
section
variable {K : Fg} {av av' : Av} {H H' : Hp}
mutual
theorem Rp.map (f : ∀ a xs, NL av H a xs → NL av' H' a xs) (g : ∀ a xs, NT K av H a xs → NT K av' H' a xs) (k : ∀ a xs, ND av H a xs → ND av' H' a xs) (e : ∀ a c m, NE av H a c m → NE av' H' a c m) : ∀ {v : V} {d : D}, Rp K av H v d → Rp K av' H' v d
  | _, _, .non => .non
  | _, _, .bl b => .bl b
  | _, _, .int i => .int i
  | _, _, .str x => .str x
  | _, _, .obj v => .obj v
  | _, _, .lst h hs => .lst (f _ _ h) (Rps.map f g k e hs)
  | _, _, .tup h hs => .tup (g _ _ h) (Rps.map f g k e hs)
  | _, _, .dic h l hs => .dic (k _ _ h) l (Rps.map f g k e hs)
  | _, _, .err h => .err (e _ _ _ h)
theorem Rps.map (f : ∀ a xs, NL av H a xs → NL av' H' a xs) (g : ∀ a xs, NT K av H a xs → NT K av' H' a xs) (k : ∀ a xs, ND av H a xs → ND av' H' a xs) (e : ∀ a c m, NE av H a c m → NE av' H' a c m) : ∀ {vs : List V} {ds : List D}, Rps K av H vs ds → Rps K av' H' vs ds
  | _, _, .nil => .nil
  | _, _, .cons h hs => .cons (Rp.map f g k e h) (Rps.map f g k e hs)
end
/-- what stands, but for the cells in «is», stands behind -/
def Ext (is : Av) (H H' : Hp) : Prop := ∀ a o, ¬ is a → H a = some o → H' a = some o
variable {is : Av}
theorem Ext.refl (is : Av) (H : Hp) : Ext is H H := fun _ _ _ h => h
theorem Ext.trans {H1 H2 H3 : Hp} (a : Ext is H1 H2) (b : Ext is H2 H3) : Ext is H1 H3 := fun x o n h => b x o n (a x o n h)
theorem Ext.new {H : Hp} {p : Addr} {o : HO} (h : H p = none) : Ext is H (upd H p o) := fun a u _ e => by
  rw [upd_ne (ne_of_none e h)]
  exact e
theorem Ext.none {H H' : Hp} {a : Addr} (e : Ext is H H') (n : ¬ is a) (h : H' a = Option.none) : H a = Option.none := by
  cases q : H a with
  | none => rfl
  | some o => rw [e a o n q] at h; cases h
theorem NL.ext {a : Addr} {xs : List V} (e : Ext is H H') (hi : ∀ a, is a → av a) (ha : ∀ a, H a ≠ none → av' a → av a) (h : NL av H a xs) : NL av' H' a xs :=
  ⟨e a _ (fun z => h.2 (hi a z)) h.1, fun z => h.2 (ha a (by rw [h.1]; exact fun z => nomatch z) z)⟩
theorem NT.ext {a : Addr} {xs : List V} (e : Ext is H H') (hi : ∀ a, is a → av a) (ha : ∀ a, H a ≠ none → av' a → av a) (h : NT K av H a xs) : NT K av' H' a xs := by
  rcases h with ⟨r, n⟩ | h
  · exact .inl ⟨e a _ (fun z => n (hi a z)) r, fun z => n (ha a (by rw [r]; exact fun z => nomatch z) z)⟩
  · exact .inr h
theorem ND.ext {a : Addr} {xs : List (Key × V)} (e : Ext is H H') (hi : ∀ a, is a → av a) (ha : ∀ a, H a ≠ none → av' a → av a) (h : ND av H a xs) : ND av' H' a xs :=
  ⟨e a _ (fun z => h.2 (hi a z)) h.1, fun z => h.2 (ha a (by rw [h.1]; exact fun z => nomatch z) z)⟩
theorem NE.ext {a : Addr} {c : Value} {m : Option Str} (e : Ext is H H') (hi : ∀ a, is a → av a) (ha : ∀ a, H a ≠ none → av' a → av a) (h : NE av H a c m) : NE av' H' a c m := by
  obtain ⟨t, h1, h2, h3⟩ := h
  refine ⟨t, e a _ (fun z => h2 (hi a z)) h1, fun z => h2 (ha a (by rw [h1]; exact fun z => nomatch z) z), fun x hx => ?_⟩
  obtain ⟨b, e1, e2, e3⟩ := h3 x hx
  exact ⟨b, e1, e b _ (fun z => e3 (hi b z)) e2, fun z => e3 (ha b (by rw [e2]; exact fun z => nomatch z) z)⟩
theorem Rp.ext {v : V} {d : D} (e : Ext is H H') (hi : ∀ a, is a → av a) (ha : ∀ a, H a ≠ none → av' a → av a) (h : Rp K av H v d) : Rp K av' H' v d :=
  h.map (fun _ _ => NL.ext e hi ha) (fun _ _ => NT.ext e hi ha) (fun _ _ => ND.ext e hi ha) (fun _ _ _ => NE.ext e hi ha)
theorem Rps.ext {v : List V} {d : List D} (e : Ext is H H') (hi : ∀ a, is a → av a) (ha : ∀ a, H a ≠ none → av' a → av a) (h : Rps K av H v d) : Rps K av' H' v d :=
  h.map (fun _ _ => NL.ext e hi ha) (fun _ _ => NT.ext e hi ha) (fun _ _ => ND.ext e hi ha) (fun _ _ _ => NE.ext e hi ha)
theorem Rps.len : ∀ {vs : List V} {ds : List D}, Rps K av H vs ds → vs.length = ds.length
  | _, _, .nil => rfl
  | _, _, .cons _ h => congrArg (· + 1) h.len
theorem Rps.get : ∀ {vs : List V} {ds : List D} {i : Nat} {d : D}, Rps K av H vs ds → ds[i]? = some d → ∃ v, vs[i]? = some v ∧ Rp K av H v d
  | _, _, _, _, .nil, e => by simp at e
  | _, _, 0, _, .cons h _, e => by simp at e; subst e; exact ⟨_, rfl, h⟩
  | _, _, i + 1, _, .cons _ h, e => by
    obtain ⟨v, a, b⟩ := Rps.get (i := i) h (by simpa using e)
    exact ⟨v, by simpa using a, b⟩
theorem Rps.append : ∀ {vs ws : List V} {ds es : List D}, Rps K av H vs ds → Rps K av H ws es → Rps K av H (vs ++ ws) (ds ++ es)
  | _, _, _, _, .nil, h => h
  | _, _, _, _, .cons h hs, k => .cons h (hs.append k)
theorem Rps.take : ∀ (n : Nat) {vs : List V} {ds : List D}, Rps K av H vs ds → Rps K av H (vs.take n) (ds.take n)
  | 0, _, _, _ => .nil
  | _ + 1, _, _, .nil => .nil
  | n + 1, _, _, .cons h hs => .cons h (hs.take n)
theorem Rps.drop : ∀ (n : Nat) {vs : List V} {ds : List D}, Rps K av H vs ds → Rps K av H (vs.drop n) (ds.drop n)
  | 0, _, _, h => h
  | _ + 1, _, _, .nil => .nil
  | n + 1, _, _, .cons h hs => hs.drop n
theorem Rps.set : ∀ (n : Nat) {vs : List V} {ds : List D} {v : V} {d : D}, Rps K av H vs ds → Rp K av H v d → Rps K av H (vs.set n v) (ds.set n d)
  | _, _, _, _, _, .nil, _ => .nil
  | 0, _, _, _, _, .cons h hs, k => .cons k hs
  | n + 1, _, _, _, _, .cons h hs, k => .cons h (hs.set n k)
end
/-- cells that hold neither a list nor a table stay -/
def Stays (H H' : Hp) : Prop := ∀ a o, H a = some o → (∀ xs, o ≠ .lst xs) → (∀ ks, o ≠ .dK ks) → (∀ ps, o ≠ .tbl ps) → H' a = some o
theorem Stays.lst {H : Hp} {a : Addr} {xs ys : List V} (h : H a = some (.lst xs)) : Stays H (upd H a (.lst ys)) := fun b o e n _ _ => by
  rw [upd_ne (fun z : b = a => n xs (Option.some.inj (e.symm.trans (by rw [z]; exact h))))]
  exact e
/-- a list or a dict that may be written: what is at its place, its data -/
inductive Shp : D → HO → List V → List D → Prop
  | lst {xs : List V} {ds : List D} : Shp (.lst ds) (.lst xs) xs ds
  | dic {ks : List Key} {xs : List V} {ds : List D} : ks.length = xs.length → Shp (.dic ks ds) (.dK (ks.zip xs)) xs ds
theorem Shp.wr {d : D} {o : HO} {xs : List V} {ds : List D} (h : Shp d o xs ds) : (∃ xs, o = .lst xs) ∨ ∃ ks, o = .dK ks := by
  cases h
  · exact .inl ⟨_, rfl⟩
  · exact .inr ⟨_, rfl⟩
theorem Stays.wr {H : Hp} {a : Addr} {o u : HO} (h : H a = some o) (w : (∃ xs, o = .lst xs) ∨ ∃ ks, o = .dK ks) : Stays H (upd H a u) := fun b p e n n2 _ => by
  rw [upd_ne (fun z : b = a => by
    rw [z, h] at e
    cases e
    rcases w with ⟨xs, w⟩ | ⟨ks, w⟩
    · exact n xs w
    · exact n2 ks w)]
  exact e
/-- a thing that draws change: its cells, what holds while n draws are left -/
structure Pn where
  is : Av
  ok : Nat → Hp → Prop
  mono : ∀ {n m H}, ok n H → m ≤ n → ok m H
  stab : ∀ {n H H'}, ok n H → (∀ a, is a → H' a = H a) → Stays H H' → ok n H'
  al : ∀ {n H a}, ok n H → is a → H a ≠ none
def noPen : Pn := ⟨fun _ => False, fun _ _ => True, fun _ _ => trivial, fun _ _ _ => trivial, fun _ h => h.elim⟩
inductive Slot where
  | un | dat (d : D) | own (d : D)
abbrev Gm := List Slot
def Own (σ : Sg) (G : Gm) (a : Addr) : Prop := ∃ (i : Nat) (ds : D), G[i]? = some (Slot.own ds) ∧ σ[i]? = some (some (.ref a))
def SlotOk (K : Fg) (av : Av) (H : Hp) : Slot → Option V → Prop
  | .un, _ => True
  | .dat d, o => ∃ v, o = some v ∧ Rp K av H v d
  | .own d, o => ∃ a u xs ds, o = some (.ref a) ∧ H a = some u ∧ Shp d u xs ds ∧ Rps K av H xs ds
abbrev avo (av : Av) (σ : Sg) (G : Gm) : Av := fun a => av a ∨ Own σ G a
abbrev avp (av : Av) (p : Addr) : Av := fun a => av a ∨ a = p
structure LocOk (P : Pn) (K : Fg) (av : Av) (H0 : Hp) (n : Nat) (H : Hp) (σ : Sg) (G : Gm) : Prop where
  len : G.length = σ.length
  sl : ∀ (i : Nat) (s : Slot), G[i]? = some s → ∃ o, σ[i]? = some o ∧ SlotOk K (avo av σ G) H s o
  inj : ∀ (i j : Nat) (ds es : D) (a : Addr), G[i]? = some (.own ds) → G[j]? = some (.own es) → σ[i]? = some (some (.ref a)) → σ[j]? = some (some (.ref a)) → i = j
  ext : Ext P.is H0 H
  fr : ∀ a, Own σ G a → H0 a = none
  ok : P.ok n H
  pav : ∀ a, P.is a → av a
  al : ∀ a, av a → H0 a ≠ none
section
variable {P : Pn} {K : Fg} {av : Av} {H0 H H' : Hp} {n m : Nat} {σ : Sg} {G : Gm} {a p : Addr}
theorem LocOk.avNe (L : LocOk P K av H0 n H σ G) (h : av a) : H a ≠ none := by
  by_cases i : P.is a
  · exact P.al L.ok i
  · intro z
    exact L.al a h (L.ext.none i z)
theorem LocOk.ownNe (L : LocOk P K av H0 n H σ G) (h : Own σ G a) : H a ≠ none := by
  obtain ⟨i, ds, e1, e2⟩ := h
  obtain ⟨o, h1, b, _, xs, _, h2, h3, _⟩ := L.sl i _ e1
  rw [e2] at h1
  cases h1
  cases h2
  rw [h3]
  exact fun z => nomatch z
theorem LocOk.avoNe (L : LocOk P K av H0 n H σ G) (h : avo av σ G a) : H a ≠ none := h.elim L.avNe L.ownNe
theorem LocOk.isAvo (L : LocOk P K av H0 n H σ G) (h : P.is a) : avo av σ G a := .inl (L.pav a h)
theorem LocOk.ownIs (L : LocOk P K av H0 n H σ G) (h : Own σ G a) : ¬ P.is a := fun i => L.al a (L.pav a i) (L.fr a h)
theorem LocOk.le (L : LocOk P K av H0 n H σ G) (h : m ≤ n) : LocOk P K av H0 m H σ G := ⟨L.len, L.sl, L.inj, L.ext, L.fr, P.mono L.ok h, L.pav, L.al⟩
/-- the heap grows -/
theorem LocOk.grow (L : LocOk P K av H0 n H σ G) (e : Ext P.is H H') (k : P.ok m H') : LocOk P K av H0 m H' σ G := by
  refine ⟨L.len, fun i s hs => ?_, L.inj, L.ext.trans e, L.fr, k, L.pav, L.al⟩
  obtain ⟨o, h1, h2⟩ := L.sl i s hs
  refine ⟨o, h1, ?_⟩
  cases s with
  | un => trivial
  | dat d =>
    obtain ⟨v, e1, r⟩ := h2
    exact ⟨v, e1, r.ext e (fun _ => L.isAvo) (fun _ _ z => z)⟩
  | own ds =>
    obtain ⟨b, u, xs, es, e1, e2, sh, r⟩ := h2
    subst e1
    exact ⟨b, u, xs, es, rfl, e b _ (L.ownIs ⟨i, ds, hs, h1⟩) e2, sh, r.ext e (fun _ => L.isAvo) (fun _ _ z => z)⟩
theorem Pn.ex (P : Pn) (k : P.ok n H) (e : ∀ a o, H a = some o → H' a = some o) : P.ok n H' := P.stab k (fun a i => by
  cases q : H a with
  | none => exact absurd q (P.al k i)
  | some o => exact e a o q) fun a o h _ _ _ => e a o h
theorem LocOk.growEx (L : LocOk P K av H0 n H σ G) (e : ∀ a o, H a = some o → H' a = some o) : LocOk P K av H0 n H' σ G := L.grow (fun a o _ h => e a o h) (P.ex L.ok e)
theorem LocOk.new (L : LocOk P K av H0 n H σ G) {o : HO} (h : H p = none) : LocOk P K av H0 n (upd H p o) σ G := L.growEx fun a u e => by
  rw [upd_ne (ne_of_none e h)]
  exact e
end
theorem avp_of {av : Av} {H : Hp} {p : Addr} (h : H p = none) : ∀ a, H a ≠ none → avp av p a → av a := fun a k z => z.elim id fun e => absurd (e ▸ h) k
theorem SlotOk.shrink {K : Fg} {av av' : Av} {H : Hp} {s : Slot} {o : Option V} (ha : ∀ a, H a ≠ none → av' a → av a) (h : SlotOk K av H s o) : SlotOk K av' H s o := by
  cases s with
  | un => trivial
  | dat d => obtain ⟨v, e, r⟩ := h; exact ⟨v, e, r.ext (is := fun _ => False) (.refl _ _) (fun _ z => z.elim) ha⟩
  | own ds => obtain ⟨a, u, xs, es, e, e2, sh, r⟩ := h; exact ⟨a, u, xs, es, e, e2, sh, r.ext (is := fun _ => False) (.refl _ _) (fun _ z => z.elim) ha⟩
/-! ### judgements -/
abbrev WE := Gm → (Value → Prop) → (D → Prop) → Prop
abbrev WL := Gm → (Value → Prop) → (List D → Prop) → Prop
abbrev WT := Gm → (Value → Prop) → (Bool → Prop) → Prop
/-- a value whose own place may be one that the def owns: to be read alone -/
def Rq (K : Fg) (is av : Av) (H : Hp) (v : V) (d : D) : Prop := match d with
  | .lst ds => ∃ a xs, v = .ref a ∧ NL is H a xs ∧ Rps K av H xs ds
  | .dic ks ds => ∃ a xs, v = .ref a ∧ ND is H a (ks.zip xs) ∧ ks.length = xs.length ∧ Rps K av H xs ds
  | d => Rp K av H v d
/-- what the raised meet, which pens there may be -/
structure Ctl where
  w : WX
  pc : Pn → Prop
abbrev Ctl.no (C : Ctl) : Ctl := ⟨fun _ _ _ _ => False, C.pc⟩
def HW (W : Ctl) (P : Pn) (H0 : Hp) (ed : Value → Prop) : Prop := W.pc P ∧ ∀ cls σ H', ed cls → Ext P.is H0 H' → W.w cls none σ H'
theorem HW.no {W : Ctl} {P : Pn} {H0 H1 : Hp} {ed : Value → Prop} (h : HW W P H0 ed) : HW W.no P H1 fun _ => False := ⟨h.1, fun _ _ _ z => z.elim⟩
def DE {ι : Type} (X : ι → Cx) (K : Fg) (W : Ctl) (c : Nat) (e : Expr) (w : WE) : Prop := ∃ te, (∀ i, PE (X i) e te) ∧ ∀ (P : Pn) (av : Av) (H0 : Hp) (ed : Value → Prop), HW W P H0 ed → ∀ (n : Nat) (H : Hp) (σ : Sg) (G : Gm) (Qd : D → Prop),
  LocOk P K av H0 (n + c) H σ G → w G ed Qd → ∀ Q : VK, (∀ v H' d, Qd d → LocOk P K av H0 n H' σ G → Ext P.is H H' → Rp K (avo av σ G) H' v d → Q v H') → te σ H Q
def DR {ι : Type} (X : ι → Cx) (K : Fg) (W : Ctl) (c : Nat) (e : Expr) (w : WE) : Prop := ∃ te, (∀ i, PE (X i) e te) ∧ ∀ (P : Pn) (av : Av) (H0 : Hp) (ed : Value → Prop), HW W P H0 ed → ∀ (n : Nat) (H : Hp) (σ : Sg) (G : Gm) (Qd : D → Prop),
  LocOk P K av H0 (n + c) H σ G → w G ed Qd → ∀ Q : VK, (∀ v H' d, Qd d → LocOk P K av H0 n H' σ G → Ext P.is H H' → Rq K P.is (avo av σ G) H' v d → Q v H') → te σ H Q
def DF {ι : Type} (X : ι → Cx) (K : Fg) (W : Ctl) (c : Nat) (e : Expr) (w : WL) : Prop := ∃ te, (∀ i, PE (X i) e te) ∧ ∀ (P : Pn) (av : Av) (H0 : Hp) (ed : Value → Prop), HW W P H0 ed → ∀ (n : Nat) (H : Hp) (σ : Sg) (G : Gm) (Qd : List D → Prop),
  LocOk P K av H0 (n + c) H σ G → w G ed Qd → ∀ Q : VK, (∀ p xs H' ds, Qd ds → LocOk P K av H0 n H' σ G → Ext P.is H H' → H p = none → H' p = some (.lst xs) → Rps K (avp (avo av σ G) p) H' xs ds → Q (.ref p) H') → te σ H Q
def DA {ι : Type} (X : ι → Cx) (K : Fg) (W : Ctl) (c : Nat) (es : List Expr) (w : WL) : Prop := ∃ ta, (∀ i, PA (X i) es ta) ∧ ∀ (P : Pn) (av : Av) (H0 : Hp) (ed : Value → Prop), HW W P H0 ed → ∀ (n : Nat) (H : Hp) (σ : Sg) (G : Gm) (Qd : List D → Prop),
  LocOk P K av H0 (n + c) H σ G → w G ed Qd → ∀ Q : List V → Hp → Prop, (∀ vs H' ds, Qd ds → LocOk P K av H0 n H' σ G → Ext P.is H H' → Rps K (avo av σ G) H' vs ds → Q vs H') → ta σ H Q
/-- arguments of a built-in, read alone -/
inductive Rqs (K : Fg) (is av : Av) (H : Hp) : List V → List D → Prop
  | nil : Rqs K is av H [] []
  | cons {v : V} {vs : List V} {d : D} {ds : List D} : Rq K is av H v d → Rqs K is av H vs ds → Rqs K is av H (v :: vs) (d :: ds)
def DB {ι : Type} (X : ι → Cx) (K : Fg) (W : Ctl) (c : Nat) (es : List Expr) (w : WL) : Prop := ∃ ta, (∀ i, PA (X i) es ta) ∧ ∀ (P : Pn) (av : Av) (H0 : Hp) (ed : Value → Prop), HW W P H0 ed → ∀ (n : Nat) (H : Hp) (σ : Sg) (G : Gm) (Qd : List D → Prop),
  LocOk P K av H0 (n + c) H σ G → w G ed Qd → ∀ Q : List V → Hp → Prop, (∀ vs H' ds, Qd ds → LocOk P K av H0 n H' σ G → Ext P.is H H' → Rqs K P.is (avo av σ G) H' vs ds → Q vs H') → ta σ H Q
def DT {ι : Type} (X : ι → Cx) (K : Fg) (W : Ctl) (c : Nat) (e : Expr) (w : WT) : Prop := ∃ tt, (∀ i, PT (X i) e tt) ∧ ∀ (P : Pn) (av : Av) (H0 : Hp) (ed : Value → Prop), HW W P H0 ed → ∀ (n : Nat) (H : Hp) (σ : Sg) (G : Gm) (Qd : Bool → Prop),
  LocOk P K av H0 (n + c) H σ G → w G ed Qd → ∀ Q : Bool → Hp → Prop, (∀ b H', Qd b → LocOk P K av H0 n H' σ G → Ext P.is H H' → Q b H') → tt σ H Q
structure DEnds where
  nx : Gm → Prop
  rt : D → Prop
  bk : Gm → Prop
  ct : Gm → Prop
  ex : Value → Prop
  rf : List D → Prop
abbrev WS := Gm → DEnds → Prop
/-- owned cells are old ones or new ones -/
def OwN (P : Pn) (H : Hp) (σ : Sg) (G : Gm) (σ' : Sg) (G' : Gm) : Prop := ∀ a, Own σ' G' a → Own σ G a ∨ (H a = none ∧ ¬ P.is a)
/-- from a state to a later one -/
structure Rl (P : Pn) (H : Hp) (σ : Sg) (G : Gm) (H' : Hp) (σ' : Sg) (G' : Gm) : Prop where
  ext : Ext (fun a => P.is a ∨ Own σ G a) H H'
  own : OwN P H σ G σ' G'
theorem Rl.trans {P : Pn} {H H1 H2 : Hp} {σ σ1 σ2 : Sg} {G G1 G2 : Gm} (a : Rl P H σ G H1 σ1 G1) (b : Rl P H1 σ1 G1 H2 σ2 G2) : Rl P H σ G H2 σ2 G2 := by
  refine ⟨fun x o n h => b.ext x o (fun z => ?_) (a.ext x o n h), fun x z => ?_⟩
  · rcases z with z | z
    · exact n (.inl z)
    · rcases a.own x z with z | z
      · exact n (.inr z)
      · rw [h] at z; exact nomatch z.1
  · rcases b.own x z with z | ⟨z, k⟩
    · exact a.own x z
    · by_cases q : Own σ G x
      · exact .inl q
      · exact .inr ⟨a.ext.none (fun z => z.elim k q) z, k⟩
theorem Rl.of {P : Pn} {H H' : Hp} {σ σ' : Sg} {G G' : Gm} (e : Ext P.is H H') (o : ∀ a, Own σ' G' a → Own σ G a) : Rl P H σ G H' σ' G' := ⟨fun a u n h => e a u (fun z => n (.inl z)) h, fun a z => .inl (o a z)⟩
structure DD (P : Pn) (K : Fg) (av : Av) (H0 : Hp) (n : Nat) (H : Hp) (σ : Sg) (G : Gm) (De : DEnds) (D : Ends) : Prop where
  nx : ∀ σ' H' G', De.nx G' → LocOk P K av H0 n H' σ' G' → Rl P H σ G H' σ' G' → D.nx σ' H'
  bk : ∀ σ' H' G', De.bk G' → LocOk P K av H0 n H' σ' G' → Rl P H σ G H' σ' G' → D.bk σ' H'
  ct : ∀ σ' H' G', De.ct G' → LocOk P K av H0 n H' σ' G' → Rl P H σ G H' σ' G' → D.ct σ' H'
  rt : ∀ v H' d, De.rt d → Ext P.is H0 H' → P.ok n H' → Rp K av H' v d → D.rt v H'
  rf : ∀ p xs H' ds, De.rf ds → Ext P.is H0 H' → P.ok n H' → H0 p = none → H' p = some (.lst xs) → Rps K (avp av p) H' xs ds → D.rt (.ref p) H'
def DS {ι : Type} (X : ι → Cx) (K : Fg) (W : Ctl) (c : Nat) (st : Stmt) (w : WS) : Prop := ∃ ts, (∀ i, PS (X i) st ts) ∧ ∀ (P : Pn) (av : Av) (H0 : Hp) (De : DEnds), HW W P H0 De.ex → ∀ (n : Nat) (H : Hp) (σ : Sg) (G : Gm),
  LocOk P K av H0 (n + c) H σ G → w G De → ∀ D : Ends, DD P K av H0 n H σ G De D → ts D σ H
def DSs {ι : Type} (X : ι → Cx) (K : Fg) (W : Ctl) (c : Nat) (sts : List Stmt) (w : WS) : Prop := ∃ ts, (∀ i, PSs (X i) sts ts) ∧ ∀ (P : Pn) (av : Av) (H0 : Hp) (De : DEnds), HW W P H0 De.ex → ∀ (n : Nat) (H : Hp) (σ : Sg) (G : Gm),
  LocOk P K av H0 (n + c) H σ G → w G De → ∀ D : Ends, DD P K av H0 n H σ G De D → ts D σ H
end DL

namespace DL
open PySem PySem.Spec PyProof.Rows L2
section
variable {K : Fg} {is av av' : Av} {H H' : Hp} {v : V} {d : D} {vs : List V} {ds : List D}
theorem Rp.rq (h : Rp K av H v d) (hi : ∀ a, is a → av a) : Rq K is av H v d := by
  cases h with
  | lst n hs => exact ⟨_, _, rfl, ⟨n.1, fun z => n.2 (hi _ z)⟩, hs⟩
  | non => exact .non
  | bl b => exact .bl b
  | int i => exact .int i
  | str x => exact .str x
  | obj v => exact .obj v
  | tup n hs => exact .tup n hs
  | dic n l hs => exact ⟨_, _, rfl, ⟨n.1, fun z => n.2 (hi _ z)⟩, l, hs⟩
  | err n => exact .err n
theorem Rq.ext (h : Rq K is av H v d) (e : Ext is H H') (hi : ∀ a, is a → av a) : Rq K is av H' v d := by
  cases d with
  | lst ds =>
    obtain ⟨a, xs, h1, h2, h3⟩ := h
    exact ⟨a, xs, h1, ⟨e a _ h2.2 h2.1, h2.2⟩, h3.ext e hi fun _ _ z => z⟩
  | non => exact Rp.ext e hi (fun _ _ z => z) h
  | bl b => exact Rp.ext e hi (fun _ _ z => z) h
  | int i => exact Rp.ext e hi (fun _ _ z => z) h
  | str x => exact Rp.ext e hi (fun _ _ z => z) h
  | obj v => exact Rp.ext e hi (fun _ _ z => z) h
  | tup xs => exact Rp.ext e hi (fun _ _ z => z) h
  | dic ks ds =>
    obtain ⟨a, xs, h1, h2, h3, h4⟩ := h
    exact ⟨a, xs, h1, ⟨e a _ h2.2 h2.1, h2.2⟩, h3, h4.ext e hi fun _ _ z => z⟩
  | err c m => exact Rp.ext e hi (fun _ _ z => z) h
theorem Rqs.ext : ∀ {vs : List V} {ds : List D}, Rqs K is av H vs ds → Ext is H H' → (∀ a, is a → av a) → Rqs K is av H' vs ds
  | _, _, .nil, _, _ => .nil
  | _, _, .cons h hs, e, hi => .cons (h.ext e hi) (hs.ext e hi)
theorem Rps.rqs : ∀ {vs : List V} {ds : List D}, Rps K av H vs ds → (∀ a, is a → av a) → Rqs K is av H vs ds
  | _, _, .nil, _ => .nil
  | _, _, .cons h hs, hi => .cons (h.rq hi) (hs.rqs hi)
theorem Ex.ext (h : ∀ a o, H a = some o → H' a = some o) : Ext is H H' := fun a o _ q => h a o q
end
abbrev Ex (H H' : Hp) : Prop := ∀ a o, H a = some o → H' a = some o
theorem ex_new {H : Hp} {p : Addr} {o : HO} (h : H p = none) : Ex H (upd H p o) := fun a u e => by
  rw [upd_ne (ne_of_none e h)]
  exact e
section
variable {ι : Type} {X : ι → Cx} {K : Fg} {W : Ctl} {c c1 c2 c3 : Nat} {e a b t : Expr} {w wa wb : WE} {wt : WT} {pos : Pos}
/-! ### ways from one judgement to another -/
theorem DE.r (h : DE X K W c e w) : DR X K W c e w := by
  obtain ⟨te, pe, s⟩ := h
  refine ⟨te, pe, fun P av H0 ed hw n H σ G Qd L h Q q => s P av H0 ed hw n H σ G Qd L h Q fun v H' d hd L' e' r => q v H' d hd L' e' (r.rq fun _ => L'.isAvo)⟩
def wF (w : WL) : WE := fun G ed Q => w G ed fun ds => Q (.lst ds)
theorem DF.de {w : WL} (h : DF X K W c e w) : DE X K W c e (wF w) := by
  obtain ⟨te, pe, s⟩ := h
  refine ⟨te, pe, fun P av H0 ed hw n H σ G Qd L h Q q => s P av H0 ed hw n H σ G _ L h Q fun p xs H' ds hd L' e' hn hp r => q _ H' _ hd L' e' (.lst ⟨hp, fun z => ?_⟩ (r.ext (is := fun _ => False) (.refl _ _) (fun _ z => z.elim) fun _ _ z => .inl z))⟩
  exact L.avoNe z hn
theorem DF.r {w : WL} (h : DF X K W c e w) : DR X K W c e (wF w) := h.de.r
/-! ### names, constants -/
/-- one of two ways, by a bool -/
@[irreducible] def fork (b : Bool) (A B : Prop) : Prop := (b = true ∧ A) ∨ (b = false ∧ B)
theorem fork_i {b : Bool} {A B : Prop} (h1 : b = true → A) (h2 : b = false → B) : fork b A B := by
  unfold fork
  cases b with
  | true => exact .inl ⟨rfl, h1 rfl⟩
  | false => exact .inr ⟨rfl, h2 rfl⟩
theorem fork_t {b : Bool} {A B : Prop} (h : b = true) (h1 : A) : fork b A B := fork_i (fun _ => h1) fun z => absurd (h.symm.trans z) (by decide)
theorem fork_f {b : Bool} {A B : Prop} (h : b = false) (h1 : B) : fork b A B := fork_i (fun z => absurd (h.symm.trans z) (by decide)) fun _ => h1
theorem fork_tt {A B : Prop} : fork true A B = A := propext ⟨fun h => by unfold fork at h; rcases h with h | h; exact h.2; exact absurd h.1 (by decide), fun h => fork_t rfl h⟩
theorem fork_ff {A B : Prop} : fork false A B = B := propext ⟨fun h => by unfold fork at h; rcases h with h | h; exact absurd h.1 (by decide); exact h.2, fun h => fork_f rfl h⟩
def onO {α : Type} : Option α → (α → Prop) → Prop
  | some x, Q => Q x
  | none, _ => False
theorem onO_of {α : Type} {o : Option α} {Q : α → Prop} (h : onO o Q) : ∃ x, o = some x ∧ Q x := by
  cases o with
  | none => exact h.elim
  | some x => exact ⟨x, rfl, h⟩
def onB : D → (Bool → Prop) → Prop
  | .bl b, Q => Q b
  | _, _ => False
theorem onB_of {d : D} {Q : Bool → Prop} (h : onB d Q) : ∃ b, d = .bl b ∧ Q b := by cases d <;> first | exact h.elim | exact ⟨_, rfl, h⟩
def onI : D → (Int → Prop) → Prop
  | .int i, Q => Q i
  | _, _ => False
theorem onI_of {d : D} {Q : Int → Prop} (h : onI d Q) : ∃ b, d = .int b ∧ Q b := by cases d <;> first | exact h.elim | exact ⟨_, rfl, h⟩
def onS : D → (Str → Prop) → Prop
  | .str i, Q => Q i
  | _, _ => False
theorem onS_of {d : D} {Q : Str → Prop} (h : onS d Q) : ∃ b, d = .str b ∧ Q b := by cases d <;> first | exact h.elim | exact ⟨_, rfl, h⟩
def vaS : Option Slot → (D → Prop) → Prop
  | some (.dat d), Q => Q d
  | _, _ => False
theorem vaS_of {o : Option Slot} {Q : D → Prop} (h : vaS o Q) : ∃ d, o = some (.dat d) ∧ Q d := by
  cases o with
  | none => exact h.elim
  | some s => cases s <;> first | exact h.elim | exact ⟨_, rfl, h⟩
def owS : Option Slot → (List D → Prop) → Prop
  | some (.own (.lst ds)), Q => Q ds
  | _, _ => False
theorem owS_of {o : Option Slot} {Q : List D → Prop} (h : owS o Q) : ∃ d, o = some (.own (.lst d)) ∧ Q d := by
  unfold owS at h
  split at h
  · exact ⟨_, rfl, h⟩
  · exact h.elim
def wVar (i : Nat) : WE := fun G _ Q => vaS G[i]? Q
def rdS : Option Slot → (D → Prop) → Prop
  | some (.dat d), Q => Q d
  | some (.own d), Q => Q d
  | _, _ => False
def wRd (i : Nat) : WE := fun G _ Q => rdS G[i]? Q
def wC (d : D) : WE := fun _ _ Q => Q d
theorem de_pv {i : Nat} {x : Str} (h : ∀ j, PE (X j) (.Name x pos) (tVar i)) : DE X K W 0 (.Name x pos) (wVar i) := by
  refine ⟨_, h, fun P av H0 ed hw n H σ G Qd L h Q q => ?_⟩
  obtain ⟨d, h1, h2⟩ := vaS_of h
  obtain ⟨o, e1, v, e2, r⟩ := L.sl i _ h1
  subst e2
  exact ⟨v, e1, q v H d h2 L (.refl _ _) r⟩
theorem dr_pv {i : Nat} {x : Str} (h : ∀ j, PE (X j) (.Name x pos) (tVar i)) : DR X K W 0 (.Name x pos) (wRd i) := by
  refine ⟨_, h, fun P av H0 ed hw n H σ G Qd L h Q q => ?_⟩
  cases e0 : G[i]? with
  | none =>
    rw [wRd, e0] at h
    exact h.elim
  | some s =>
    rw [wRd, e0] at h
    cases s with
    | un => exact h.elim
    | dat d =>
      obtain ⟨o, e1, v, e2, r⟩ := L.sl i _ e0
      subst e2
      exact ⟨v, e1, q v H d h L (.refl _ _) (r.rq fun _ => L.isAvo)⟩
    | own ds =>
      obtain ⟨o, e1, p, u, xs, es, e2, e3, sh, r⟩ := L.sl i _ e0
      subst e2
      have oi := L.ownIs ⟨i, ds, e0, e1⟩
      cases sh with
      | lst => exact ⟨_, e1, q _ H _ h L (.refl _ _) ⟨p, xs, rfl, ⟨e3, oi⟩, r⟩⟩
      | dic hl => exact ⟨_, e1, q _ H _ h L (.refl _ _) ⟨p, xs, rfl, ⟨e3, oi⟩, hl, r⟩⟩
/-- atoms -/
inductive Atom : V → D → Prop
  | non : Atom .non .non | bl b : Atom (.bl b) (.bl b) | int i : Atom (.int i) (.int i) | str s : Atom (.str s) (.str s) | obj v : Atom v (.obj v)
theorem Atom.rp {K : Fg} {av : Av} {H : Hp} {v : V} {d : D} (h : Atom v d) : Rp K av H v d := by
  cases h
  · exact .non
  · exact .bl _
  · exact .int _
  · exact .str _
  · exact .obj _
theorem de_c {v : V} {d : D} (h : ∀ i, PE (X i) e (tC v)) (ha : Atom v d) : DE X K W 0 e (wC d) :=
  ⟨_, h, fun P av H0 ed hw n H σ G Qd L h Q q => q v H d h L (.refl _ _) ha.rp⟩
theorem de_int {i : Int} {j pos} : DE X K W 0 (.Constant (.int i) j pos) (wC (.int i)) := de_c (fun _ => pe_int) (.int i)
theorem de_bl {i : Bool} {j pos} : DE X K W 0 (.Constant (.bool i) j pos) (wC (.bl i)) := de_c (fun _ => pe_bl) (.bl i)
theorem de_str {i : Str} {j pos} : DE X K W 0 (.Constant (.str i) j pos) (wC (.str i)) := de_c (fun _ => pe_str) (.str i)
theorem de_non {j pos} : DE X K W 0 (.Constant .none j pos) (wC .non) := de_c (fun _ => pe_non) .non
theorem de_glob {x : Str} {v : V} {d : D} {u : Value} (hm : ∀ i, (X i).mg x = some u) (r : RelV v u) (ha : Atom v d) (hg : ∀ i, Gl (X i) x) (hd : (x == ("__debug__" : Str)) = false := by decide) : DE X K W 0 (.Name x pos) (wC d) := de_c (fun i => pe_glob (hg i) (hm i) r hd) ha
/-! ### operators -/
def OpS (K : Fg) (r : R2) (f : D → D → (D → Prop) → Prop) : Prop := ∀ (is av : Av) (H : Hp) (x y : V) (dx dy : D) (Qd : D → Prop), (∀ a, is a → av a) → (∀ a, av a → H a ≠ none) → Rq K is av H x dx → Rq K is av H y dy → f dx dy Qd →
  ∀ Q : VK, (∀ v H' d, Qd d → Ex H H' → Rp K av H' v d → Q v H') → r x y H Q
def OpF (K : Fg) (r : R2) (f : D → D → (List D → Prop) → Prop) : Prop := ∀ (is av : Av) (H : Hp) (x y : V) (dx dy : D) (Qd : List D → Prop), (∀ a, is a → av a) → (∀ a, av a → H a ≠ none) → Rq K is av H x dx → Rq K is av H y dy → f dx dy Qd →
  ∀ Q : VK, (∀ p xs ds, Qd ds → H p = none → Rps K av H xs ds → Q (.ref p) (upd H p (.lst xs))) → r x y H Q
/-- a comparison: a value and a test -/
def DX {ι : Type} (X : ι → Cx) (K : Fg) (W : Ctl) (c : Nat) (e : Expr) (w : WE) : Prop := ∃ te, (∀ i, PE (X i) e te ∧ PT (X i) e (tTest te)) ∧ ∀ (P : Pn) (av : Av) (H0 : Hp) (ed : Value → Prop), HW W P H0 ed → ∀ (n : Nat) (H : Hp) (σ : Sg) (G : Gm) (Qd : D → Prop),
  LocOk P K av H0 (n + c) H σ G → w G ed Qd → ∀ Q : VK, (∀ v H' d, Qd d → LocOk P K av H0 n H' σ G → Ext P.is H H' → Rp K (avo av σ G) H' v d → Q v H') → te σ H Q
theorem DX.de (h : DX X K W c e w) : DE X K W c e w := by
  obtain ⟨te, pe, s⟩ := h
  exact ⟨te, fun i => (pe i).1, s⟩
def wB (w : WE) : WT := fun G ed Q => w G ed fun d => onB d Q
theorem DX.dt (h : DX X K W c e w) : DT X K W c e (wB w) := by
  obtain ⟨te, pe, s⟩ := h
  refine ⟨_, fun i => (pe i).2, fun P av H0 ed hw n H σ G Qd L h Q q => s P av H0 ed hw n H σ G _ L h _ fun v H' d hd L' e' r => ?_⟩
  obtain ⟨b, rfl, hb⟩ := onB_of hd
  cases r
  exact ⟨b, rfl, q b H' hb L' e'⟩
def w2 (f : D → D → (D → Prop) → Prop) (wa wb : WE) : WE := fun G ed Q => wa G ed fun x => wb G ed fun y => f x y Q
def w2F (f : D → D → (List D → Prop) → Prop) (wa wb : WE) : WL := fun G ed Q => wa G ed fun x => wb G ed fun y => f x y Q
theorem two {r : R2} {f : D → D → (D → Prop) → Prop} (hf : OpS K r f) (pe : ∀ i ta tb, PE (X i) a ta → PE (X i) b tb → PE (X i) e (tOp r ta tb)) (ha : DR X K W c1 a wa) (hb : DR X K W c2 b wb) : DE X K W (c1 + c2) e (w2 f wa wb) := by
  obtain ⟨ta, pa, sa⟩ := ha
  obtain ⟨tb, pb, sb⟩ := hb
  refine ⟨_, fun i => pe i _ _ (pa i) (pb i), fun P av H0 ed hw n H σ G Qd L h Q q => ?_⟩
  refine sa P av H0 ed hw (n + c2) H σ G _ (L.le (by omega)) h _ fun x H1 dx hx L1 e1 r1 => ?_
  refine sb P av H0 ed hw n H1 σ G _ (L1.le (Nat.le_refl _)) hx _ fun y H2 dy hy L2 e2 r2 => ?_
  refine hf P.is (avo av σ G) H2 x y dx dy Qd (fun _ => L2.isAvo) (fun _ => L2.avoNe) (r1.ext e2 fun _ => L2.isAvo) r2 hy Q fun v H' d hd ex rv => ?_
  exact q v H' d hd (L2.growEx ex) (e1.trans (e2.trans (Ex.ext ex))) rv
theorem twoF {r : R2} {f : D → D → (List D → Prop) → Prop} (hf : OpF K r f) (pe : ∀ i ta tb, PE (X i) a ta → PE (X i) b tb → PE (X i) e (tOp r ta tb)) (ha : DR X K W c1 a wa) (hb : DR X K W c2 b wb) : DF X K W (c1 + c2) e (w2F f wa wb) := by
  obtain ⟨ta, pa, sa⟩ := ha
  obtain ⟨tb, pb, sb⟩ := hb
  refine ⟨_, fun i => pe i _ _ (pa i) (pb i), fun P av H0 ed hw n H σ G Qd L h Q q => ?_⟩
  refine sa P av H0 ed hw (n + c2) H σ G _ (L.le (by omega)) h _ fun x H1 dx hx L1 e1 r1 => ?_
  refine sb P av H0 ed hw n H1 σ G _ (L1.le (Nat.le_refl _)) hx _ fun y H2 dy hy L2 e2 r2 => ?_
  refine hf P.is (avo av σ G) H2 x y dx dy Qd (fun _ => L2.isAvo) (fun _ => L2.avoNe) (r1.ext e2 fun _ => L2.isAvo) r2 hy Q fun p xs ds hd hp rv => ?_
  have ni : ¬ P.is p := fun z => L2.avNe (L2.pav _ z) hp
  exact q p xs _ ds hd (L2.new hp) (e1.trans (e2.trans (.new hp))) ((e1.trans e2).none ni hp) upd_same (rv.ext (is := P.is) (.new hp) (fun _ => L2.isAvo) (avp_of hp))
theorem twoX {r : R2} {f : D → D → (D → Prop) → Prop} (hf : OpS K r f) (pe : ∀ i ta tb, PE (X i) a ta → PE (X i) b tb → PE (X i) e (tOp r ta tb) ∧ PT (X i) e (tTest (tOp r ta tb))) (ha : DR X K W c1 a wa) (hb : DR X K W c2 b wb) : DX X K W (c1 + c2) e (w2 f wa wb) := by
  obtain ⟨ta, pa, sa⟩ := ha
  obtain ⟨tb, pb, sb⟩ := hb
  refine ⟨_, fun i => pe i _ _ (pa i) (pb i), fun P av H0 ed hw n H σ G Qd L h Q q => ?_⟩
  refine sa P av H0 ed hw (n + c2) H σ G _ (L.le (by omega)) h _ fun x H1 dx hx L1 e1 r1 => ?_
  refine sb P av H0 ed hw n H1 σ G _ (L1.le (Nat.le_refl _)) hx _ fun y H2 dy hy L2 e2 r2 => ?_
  refine hf P.is (avo av σ G) H2 x y dx dy Qd (fun _ => L2.isAvo) (fun _ => L2.avoNe) (r1.ext e2 fun _ => L2.isAvo) r2 hy Q fun v H' d hd ex rv => ?_
  exact q v H' d hd (L2.growEx ex) (e1.trans (e2.trans (Ex.ext ex))) rv
def fI (C : Int → Int → Prop) (g : Int → Int → D) : D → D → (D → Prop) → Prop
  | .int i, .int j, Q => C i j ∧ Q (g i j)
  | _, _, _ => False
theorem opI {C : Int → Int → Prop} {g : Int → Int → V} {g' : Int → Int → D} (hg : ∀ i j, Atom (g i j) (g' i j)) : OpS K (rI C g) (fI C g') := by
  intro is av H x y dx dy Qd hi ha rx ry h Q q
  cases dx <;> try exact h.elim
  cases dy <;> try exact h.elim
  cases rx
  cases ry
  exact ⟨_, _, rfl, rfl, h.1, q _ H _ h.2 (fun _ _ z => z) (hg _ _).rp⟩
def fI0 (g : Int → Int → D) : D → D → (D → Prop) → Prop
  | .int i, .int j, Q => Q (g i j)
  | _, _, _ => False
theorem opI0 {g : Int → Int → V} {g' : Int → Int → D} (hg : ∀ i j, Atom (g i j) (g' i j)) : OpS K (rI0 g) (fI0 g') := by
  intro is av H x y dx dy Qd hi ha rx ry h Q q
  cases dx <;> try exact h.elim
  cases dy <;> try exact h.elim
  cases rx
  cases ry
  exact ⟨_, _, rfl, rfl, q _ H _ h (fun _ _ z => z) (hg _ _).rp⟩
def rAdd2 : R2 := fun x y H Q => rI0 (fun i j => .int (i + j)) x y H Q ∨ (∃ i j, x = .str i ∧ y = .str j ∧ i.length + j.length ≤ sizeLine ∧ Q (.str (i ++ j)) H)
def fAdd : D → D → (D → Prop) → Prop
  | .int i, .int j, Q => Q (.int (i + j))
  | .str i, .str j, Q => i.length + j.length ≤ sizeLine ∧ Q (.str (i ++ j))
  | _, _, _ => False
theorem opAdd : OpS K rAdd2 fAdd := by
  intro is av H x y dx dy Qd hi ha rx ry h Q q
  cases dx <;> try exact h.elim
  · cases dy <;> try exact h.elim
    cases rx
    cases ry
    exact .inl ⟨_, _, rfl, rfl, q _ H _ h (fun _ _ z => z) (.int _)⟩
  · cases dy <;> try exact h.elim
    cases rx
    cases ry
    exact .inr ⟨_, _, rfl, rfl, h.1, q _ H _ h.2 (fun _ _ z => z) (.str _)⟩
theorem de_add (ha : DR X K W c1 a wa) (hb : DR X K W c2 b wb) : DE X K W (c1 + c2) (.BinOp a .Add b pos) (w2 fAdd wa wb) := two opAdd (fun _ _ _ pa pb => pe_op (op_add.or op_add_str) pa pb) ha hb
theorem de_sub (ha : DR X K W c1 a wa) (hb : DR X K W c2 b wb) : DE X K W (c1 + c2) (.BinOp a .Sub b pos) (w2 (fI0 fun i j => .int (i - j)) wa wb) := two (opI0 fun _ _ => .int _) (fun _ _ _ pa pb => pe_op op_sub pa pb) ha hb
theorem de_mul (ha : DR X K W c1 a wa) (hb : DR X K W c2 b wb) : DE X K W (c1 + c2) (.BinOp a .Mult b pos) (w2 (fI CMul fun i j => .int (i * j)) wa wb) := two (opI fun _ _ => .int _) (fun _ _ _ pa pb => pe_op op_mul pa pb) ha hb
theorem de_mod (ha : DR X K W c1 a wa) (hb : DR X K W c2 b wb) : DE X K W (c1 + c2) (.BinOp a .Mod b pos) (w2 (fI (fun _ j => 0 < j) fun i j => .int (i % j)) wa wb) := two (opI fun _ _ => .int _) (fun _ _ _ pa pb => pe_op op_mod pa pb) ha hb
theorem de_fdiv (ha : DR X K W c1 a wa) (hb : DR X K W c2 b wb) : DE X K W (c1 + c2) (.BinOp a .FloorDiv b pos) (w2 (fI CDiv fun i j => .int (i / j)) wa wb) := two (opI fun _ _ => .int _) (fun _ _ _ pa pb => pe_op op_fdiv pa pb) ha hb
theorem de_pow (ha : DR X K W c1 a wa) (hb : DR X K W c2 b wb) : DE X K W (c1 + c2) (.BinOp a .Pow b pos) (w2 (fI CPow fun i j => .int (i ^ j.toNat)) wa wb) := two (opI fun _ _ => .int _) (fun _ _ _ pa pb => pe_op op_pow pa pb) ha hb
/-- lists: +, * -/
def fCat : D → D → (List D → Prop) → Prop
  | .lst xs, .lst ys, Q => xs.length + ys.length ≤ sizeLine ∧ Q (xs ++ ys)
  | _, _, _ => False
theorem opCat : OpF K rCat fCat := by
  intro is av H x y dx dy Qd hi ha rx ry h Q q
  cases dx <;> try exact h.elim
  cases dy <;> try exact h.elim
  obtain ⟨p, xs, rfl, n1, r1⟩ := rx
  obtain ⟨p2, ys, rfl, n2, r2⟩ := ry
  refine ⟨p, p2, xs, ys, rfl, rfl, n1.1, n2.1, ?_, fun z hz => ?_⟩
  · rw [r1.len, r2.len]
    exact h.1
  · exact q z _ _ h.2 hz (r1.append r2)
theorem df_cat (ha : DR X K W c1 a wa) (hb : DR X K W c2 b wb) : DF X K W (c1 + c2) (.BinOp a .Add b pos) (w2F fCat wa wb) := twoF opCat (fun _ _ _ pa pb => pe_op op_cat pa pb) ha hb
def fRep : D → D → (List D → Prop) → Prop
  | .lst xs, .int k, Q => -(2 ^ 63) ≤ k ∧ k < 2 ^ 63 ∧ xs.length * k.toNat ≤ sizeLine ∧ Q (List.replicate k.toNat xs).flatten
  | _, _, _ => False
theorem rps_rep {K : Fg} {av : Av} {H : Hp} {xs : List V} {ds : List D} (r : Rps K av H xs ds) : ∀ k : Nat, Rps K av H (List.replicate k xs).flatten (List.replicate k ds).flatten
  | 0 => .nil
  | k + 1 => by
    rw [List.replicate_succ, List.replicate_succ, List.flatten_cons, List.flatten_cons]
    exact r.append (rps_rep r k)
theorem opRep : OpF K rRep fRep := by
  intro is av H x y dx dy Qd hi ha rx ry h Q q
  cases dx <;> try exact h.elim
  cases dy <;> try exact h.elim
  obtain ⟨p, xs, rfl, n1, r1⟩ := rx
  cases ry
  refine ⟨p, _, xs, rfl, rfl, n1.1, h.1, h.2.1, ?_, fun z hz => ?_⟩
  · rw [r1.len]
    exact h.2.2.1
  · exact q z _ _ h.2.2.2 hz (rps_rep r1 _)
theorem df_rep (ha : DR X K W c1 a wa) (hb : DR X K W c2 b wb) : DF X K W (c1 + c2) (.BinOp a .Mult b pos) (w2F fRep wa wb) := twoF opRep (fun _ _ _ pa pb => pe_op op_rep pa pb) ha hb
/-! ### comparisons -/
theorem dx_lt (ha : DR X K W c1 a wa) (hb : DR X K W c2 b wb) : DX X K W (c1 + c2) (.Compare a [.Lt] [b] pos) (w2 (fI0 fun i j => .bl (decide (i < j))) wa wb) := twoX (opI0 fun _ _ => .bl _) (fun _ _ _ pa pb => ⟨pe_cmpR op_lt pa pb (nomark _), pt_cmpR op_lt pa pb (nomark _)⟩) ha hb
theorem dx_le (ha : DR X K W c1 a wa) (hb : DR X K W c2 b wb) : DX X K W (c1 + c2) (.Compare a [.LtE] [b] pos) (w2 (fI0 fun i j => .bl (decide (i ≤ j))) wa wb) := twoX (opI0 fun _ _ => .bl _) (fun _ _ _ pa pb => ⟨pe_cmpR op_le pa pb (nomark _), pt_cmpR op_le pa pb (nomark _)⟩) ha hb
theorem dx_gt (ha : DR X K W c1 a wa) (hb : DR X K W c2 b wb) : DX X K W (c1 + c2) (.Compare a [.Gt] [b] pos) (w2 (fI0 fun i j => .bl (decide (j < i))) wa wb) := twoX (opI0 fun _ _ => .bl _) (fun _ _ _ pa pb => ⟨pe_cmpR op_gt pa pb (nomark _), pt_cmpR op_gt pa pb (nomark _)⟩) ha hb
theorem dx_ge (ha : DR X K W c1 a wa) (hb : DR X K W c2 b wb) : DX X K W (c1 + c2) (.Compare a [.GtE] [b] pos) (w2 (fI0 fun i j => .bl (decide (j ≤ i))) wa wb) := twoX (opI0 fun _ _ => .bl _) (fun _ _ _ pa pb => ⟨pe_cmpR op_ge pa pb (nomark _), pt_cmpR op_ge pa pb (nomark _)⟩) ha hb
/-- a < b: ints or texts -/
def rLt2 : R2 := fun x y H Q => rI0 (fun i j => .bl (decide (i < j))) x y H Q ∨ (∃ i j, x = .str i ∧ y = .str j ∧ Q (.bl (decide (i.cps.toList < j.cps.toList))) H)
def fLt : D → D → (D → Prop) → Prop
  | .int i, .int j, Q => Q (.bl (decide (i < j)))
  | .str i, .str j, Q => Q (.bl (decide (i.cps.toList < j.cps.toList)))
  | _, _, _ => False
theorem opLt : OpS K rLt2 fLt := by
  intro is av H x y dx dy Qd hi ha rx ry h Q q
  cases dx <;> try exact h.elim
  · cases dy <;> try exact h.elim
    cases rx
    cases ry
    exact .inl ⟨_, _, rfl, rfl, q _ H _ h (fun _ _ z => z) (.bl _)⟩
  · cases dy <;> try exact h.elim
    cases rx
    cases ry
    exact .inr ⟨_, _, rfl, rfl, q _ H _ h (fun _ _ z => z) (.bl _)⟩
theorem dx_ltS (ha : DR X K W c1 a wa) (hb : DR X K W c2 b wb) : DX X K W (c1 + c2) (.Compare a [.Lt] [b] pos) (w2 fLt wa wb) := twoX opLt (fun _ _ _ pa pb => ⟨pe_cmpR (op_lt.or op_lt_str) pa pb (nomark _), pt_cmpR (op_lt.or op_lt_str) pa pb (nomark _)⟩) ha hb
/-- a == b, a != b of atoms -/
def atomV : D → Option V
  | .non => some .non | .bl b => some (.bl b) | .int i => some (.int i) | .str s => some (.str s) | _ => none
def eqA (g : Bool → Bool) : D → D → (D → Prop) → Prop
  | .non, .non, Q => Q (.bl (g true)) | .non, .int _, Q => Q (.bl (g false)) | .int _, .non, Q => Q (.bl (g false)) | .non, .bl _, Q => Q (.bl (g false)) | .bl _, .non, Q => Q (.bl (g false))
  | .non, .str _, Q => Q (.bl (g false)) | .str _, .non, Q => Q (.bl (g false)) | .int i, .int j, Q => Q (.bl (g (decide (i = j)))) | .bl i, .bl j, Q => Q (.bl (g (decide (i = j)))) | .str i, .str j, Q => Q (.bl (g (decide (i = j))))
  | .int _, .str _, Q => Q (.bl (g false)) | .str _, .int _, Q => Q (.bl (g false)) | .bl _, .str _, Q => Q (.bl (g false)) | .str _, .bl _, Q => Q (.bl (g false))
  | _, _, _ => False
theorem dec_v {α : Type} [DecidableEq α] (f : α → V) (hf : ∀ i j, f i = f j → i = j) (i j : α) : decide (f i = f j) = decide (i = j) := by
  by_cases e : i = j
  · subst e; simp
  · rw [decide_eq_false e, decide_eq_false fun z => e (hf _ _ z)]
theorem opEqA {r : R2} {g : Bool → Bool} (hr : ∀ x y H Q, scal x y = true → Q (.bl (g (decide (x = y)))) H → r x y H Q) : OpS K r (eqA g) := by
  intro is av H x y dx dy Qd hi ha rx ry h Q q
  cases dx <;> try exact h.elim
  all_goals (cases dy <;> try exact h.elim)
  all_goals (cases rx; cases ry)
  all_goals first
    | (refine hr _ _ _ _ rfl (q _ H _ h (fun _ _ z => z) ?_); exact .bl _)
    | (refine hr _ _ _ _ rfl ?_; rw [dec_v V.int fun _ _ z => V.int.inj z]; exact q _ H _ h (fun _ _ z => z) (.bl _))
    | (refine hr _ _ _ _ rfl ?_; rw [dec_v V.str fun _ _ z => V.str.inj z]; exact q _ H _ h (fun _ _ z => z) (.bl _))
    | (refine hr _ _ _ _ rfl ?_; rw [dec_v V.bl fun _ _ z => V.bl.inj z]; exact q _ H _ h (fun _ _ z => z) (.bl _))
theorem dx_eq (ha : DR X K W c1 a wa) (hb : DR X K W c2 b wb) : DX X K W (c1 + c2) (.Compare a [.Eq] [b] pos) (w2 (eqA id) wa wb) := twoX (opEqA fun _ _ _ _ h q => ⟨h, q⟩) (fun _ _ _ pa pb => ⟨pe_cmpR op_eq pa pb (nomark _), pt_cmpR op_eq pa pb (nomark _)⟩) ha hb
theorem dx_ne (ha : DR X K W c1 a wa) (hb : DR X K W c2 b wb) : DX X K W (c1 + c2) (.Compare a [.NotEq] [b] pos) (w2 (eqA not) wa wb) := twoX (opEqA fun _ _ _ _ h q => ⟨h, q⟩) (fun _ _ _ pa pb => ⟨pe_cmpR op_ne pa pb (nomark _), pt_cmpR op_ne pa pb (nomark _)⟩) ha hb
/-- a is None, a is not None -/
def isN : D → Option Bool
  | .non => some true | .obj _ => none | _ => some false
def fIsN (g : Bool → Bool) : D → D → (D → Prop) → Prop := fun x y Q => onO (isN x) fun b => isN y = some true ∧ Q (.bl (g b))
theorem opIsN {r : R2} {g : Bool → Bool} (hr : ∀ x H Q, Q (.bl (g (decide (x = .non)))) H → r x .non H Q) : OpS K r (fIsN g) := by
  intro is av H x y dx dy Qd hi ha rx ry h Q q
  obtain ⟨b, h1, h2, h3⟩ := onO_of h
  obtain rfl : dy = .non := by cases dy <;> first | rfl | (simp [isN] at h2)
  cases ry
  refine hr _ _ _ ?_
  have k : decide (x = V.non) = b := by
    cases dx with
    | obj v => simp [isN] at h1
    | lst xs => obtain ⟨p, xs, rfl, _, _⟩ := rx; simp [isN] at h1; simp [h1]
    | non => cases rx; simp [isN] at h1; simp [h1]
    | bl _ => cases rx; simp [isN] at h1; simp [h1]
    | int _ => cases rx; simp [isN] at h1; simp [h1]
    | str _ => cases rx; simp [isN] at h1; simp [h1]
    | tup _ => cases rx; simp [isN] at h1; simp [h1]
    | dic _ _ => obtain ⟨p, xs, rfl, _, _, _⟩ := rx; simp [isN] at h1; simp [h1]
    | err _ _ => cases rx; simp [isN] at h1; simp [h1]
  rw [k]
  exact q _ H _ h3 (fun _ _ z => z) (.bl _)
theorem dx_isN (ha : DR X K W c1 a wa) (hb : DR X K W c2 b wb) : DX X K W (c1 + c2) (.Compare a [.Is] [b] pos) (w2 (fIsN id) wa wb) := twoX (opIsN fun _ _ _ q => ⟨rfl, q⟩) (fun _ _ _ pa pb => ⟨pe_cmpR op_isN pa pb (nomark _), pt_cmpR op_isN pa pb (nomark _)⟩) ha hb
theorem dx_notN (ha : DR X K W c1 a wa) (hb : DR X K W c2 b wb) : DX X K W (c1 + c2) (.Compare a [.IsNot] [b] pos) (w2 (fIsN not) wa wb) := twoX (opIsN fun _ _ _ q => ⟨rfl, q⟩) (fun _ _ _ pa pb => ⟨pe_cmpR op_notN pa pb (nomark _), pt_cmpR op_notN pa pb (nomark _)⟩) ha hb
end
end DL

namespace DL
open PySem PySem.Spec PyProof.Rows L2
section
variable {ι : Type} {X : ι → Cx} {K : Fg} {W : Ctl} {c c1 c2 c3 : Nat} {e a b t : Expr} {es : List Expr} {w wa wb wc : WE} {wt wu : WT} {wl : WL} {pos p apos cpos : Pos}
/-! ### in -/
def flatD : D → Bool
  | .non => true | .bl _ => true | .int _ => true | .str _ => true | _ => false
def eqD : D → D → Bool
  | .non, .non => true
  | .bl a, .bl b => a == b
  | .bl a, .int b => (if a then 1 else 0) == b
  | .int a, .bl b => a == (if b then 1 else 0)
  | .int a, .int b => a == b
  | .str a, .str b => a == b
  | _, _ => false
def inD (x : D) (xs : List D) : Bool := xs.any fun y => eqD y x
theorem rp_flat {K : Fg} {av : Av} {H : Hp} {v : V} {d : D} (h : Rp K av H v d) (f : flatD d = true) : Atom v d := by
  cases h <;> first | (simp [flatD] at f; done) | constructor
theorem atom_flat {v : V} {d : D} (h : Atom v d) (f : flatD d = true) : flatV v = true := by cases h <;> first | rfl | (simp [flatD] at f; done)
theorem atom_eq {v u : V} {d e : D} (h : Atom v d) (k : Atom u e) (f : flatD d = true) (g : flatD e = true) : eqV v u = eqD d e := by
  cases h <;> first | (simp [flatD] at f; done) | (cases k <;> first | rfl | (simp [flatD] at g; done))
theorem rps_flat {K : Fg} {av : Av} {H : Hp} {x : V} {dx : D} (hx : Atom x dx) (fx : flatD dx = true) : ∀ {vs : List V} {ds : List D}, Rps K av H vs ds → ds.all flatD = true → vs.all flatV = true ∧ inV x vs = inD dx ds
  | _, _, .nil, _ => ⟨rfl, rfl⟩
  | v :: vs, d :: ds, .cons h hs, f => by
    rw [List.all_cons, Bool.and_eq_true] at f
    obtain ⟨h1, h2⟩ := rps_flat hx fx hs f.2
    have a := rp_flat h f.1
    refine ⟨?_, ?_⟩
    · rw [List.all_cons, atom_flat a f.1, h1]; rfl
    · show (eqV v x || inV x vs) = (eqD d dx || inD dx ds)
      rw [h2, atom_eq a hx f.1 fx]
def sign1 : D → Option Nat
  | .str s => match s.cps.toList with
    | [c] => some c
    | _ => none
  | _ => none
theorem sign1_of {d : D} {c : Nat} (h : sign1 d = some c) : d = .str ⟨#[c]⟩ := by
  cases d <;> simp only [sign1, reduceCtorEq] at h
  rename_i s
  obtain ⟨a⟩ := s
  obtain ⟨l⟩ := a
  match l, h with
  | [c'], h => cases h; rfl
def fIn (g : Bool → Bool) : D → D → (D → Prop) → Prop := fun x y Q => match y with
  | .str z => onO (sign1 x) fun c => Q (.bl (g (decide (c ∈ z.cps.toList))))
  | .lst ys => flatD x = true ∧ ys.all flatD = true ∧ Q (.bl (g (inD x ys)))
  | .tup ys => flatD x = true ∧ ys.all flatD = true ∧ Q (.bl (g (inD x ys)))
  | _ => False
def rInS (g : Bool → Bool) : R2 := fun x y H Q => ∃ (c : Nat) (z : Str), x = .str ⟨#[c]⟩ ∧ y = .str z ∧ Q (.bl (g (decide (c ∈ z.cps.toList)))) H
theorem opIn {g : Bool → Bool} {neg : Bool} (hg : ∀ b, g b = if neg then !b else b) : OpS K (fun x y H Q => rInS g x y H Q ∨ rIn K neg x y H Q) (fIn g) := by
  intro is av H x y dx dy Qd hi ha rx ry h Q q
  cases dy <;> try exact h.elim
  · obtain ⟨c, hs, h⟩ := onO_of h
    obtain rfl := sign1_of hs
    cases rx; cases ry
    exact .inl ⟨c, _, rfl, rfl, q _ H _ h (fun _ _ z => z) (.bl _)⟩
  · obtain ⟨f1, f2, h⟩ := h
    obtain ⟨p, xs, rfl, n, r⟩ := ry
    have ax : Atom x dx := by
      cases dx <;> first | (simp [flatD] at f1; done) | exact rp_flat (K := K) (av := av) (H := H) rx f1
    obtain ⟨k1, k2⟩ := rps_flat ax f1 r f2
    refine .inr ⟨p, xs, rfl, .inl n.sq, atom_flat ax f1, k1, ?_⟩
    have e := (hg (inV x xs)).symm
    rw [show (if neg = true then !inV x xs else inV x xs) = g (inV x xs) from e, k2]
    exact q _ H _ h (fun _ _ z => z) (.bl _)
  · obtain ⟨f1, f2, h⟩ := h
    cases ry with
    | tup n r =>
      have ax : Atom x dx := by
        cases dx <;> first | (simp [flatD] at f1; done) | exact rp_flat (K := K) (av := av) (H := H) rx f1
      obtain ⟨k1, k2⟩ := rps_flat ax f1 r f2
      refine .inr ⟨_, _, rfl, .inr n.sq, atom_flat ax f1, k1, ?_⟩
      rename_i p xs
      have e := (hg (inV x xs)).symm
      rw [show (if neg = true then !inV x xs else inV x xs) = g (inV x xs) from e, k2]
      exact q _ H _ h (fun _ _ z => z) (.bl _)
theorem dx_in (hK : ∀ i, (X i).K = K) (ha : DR X K W c1 a wa) (hb : DR X K W c2 b wb) (hm : behindInMarks .In b = false := by rfl) : DX X K W (c1 + c2) (.Compare a [.In] [b] pos) (w2 (fIn id) wa wb) :=
  twoX (opIn (neg := false) fun b => rfl) (fun i _ _ pa pb => by rw [← hK i]; exact ⟨pe_cmpR (op_in_sign.or op_in_seq) pa pb hm, pt_cmpR (op_in_sign.or op_in_seq) pa pb hm⟩) ha hb
theorem dx_notIn (hK : ∀ i, (X i).K = K) (ha : DR X K W c1 a wa) (hb : DR X K W c2 b wb) (hm : behindInMarks .NotIn b = false := by rfl) : DX X K W (c1 + c2) (.Compare a [.NotIn] [b] pos) (w2 (fIn not) wa wb) :=
  twoX (opIn (neg := true) fun b => rfl) (fun i _ _ pa pb => by rw [← hK i]; exact ⟨pe_cmpR (op_notIn_sign.or op_notIn_seq) pa pb hm, pt_cmpR (op_notIn_sign.or op_notIn_seq) pa pb hm⟩) ha hb
/-! ### a <= b <= c -/
def wChain (f f' : D → D → (D → Prop) → Prop) (wa wb wc : WE) : WE := fun G ed Q => wa G ed fun x => wb G ed fun y => f x y fun d => onB d fun k => fork k (wc G ed fun z => f' y z Q) (Q (.bl false))
theorem dx_chain {op op' : CmpOp} {r r' : R2} {f f' : D → D → (D → Prop) → Prop} (ho : ∀ i, OpR (X i) (compareOp op) r) (ho' : ∀ i, OpR (X i) (compareOp op') r') (hf : OpS K r f) (hf' : OpS K r' f') (ha : DR X K W c1 a wa) (hb : DR X K W c2 b wb) (hc : DR X K W c3 t wc)
    (hm : lastMarks [op, op'] [b, t] = false := by with_unfolding_all rfl) : DX X K W (c1 + c2 + c3) (.Compare a [op, op'] [b, t] pos) (wChain f f' wa wb wc) := by
  obtain ⟨ta, pa, sa⟩ := ha
  obtain ⟨tb, pb, sb⟩ := hb
  obtain ⟨tc, pc, sc⟩ := hc
  refine ⟨_, fun i => ⟨pe_chain (ho i) (ho' i) (pa i) (pb i) (pc i) hm, pt_chain (ho i) (ho' i) (pa i) (pb i) (pc i) hm⟩, fun P av H0 ed hw n H σ G Qd L h Q q => ?_⟩
  refine sa P av H0 ed hw (n + c2 + c3) H σ G _ (L.le (by omega)) h _ fun x H1 dx hx L1 e1 r1 => ?_
  refine sb P av H0 ed hw (n + c3) H1 σ G _ (L1.le (by omega)) hx _ fun y H2 dy hy L2 e2 r2 => ?_
  refine hf P.is (avo av σ G) H2 x y dx dy _ (fun _ => L2.isAvo) (fun _ => L2.avoNe) (r1.ext e2 fun _ => L2.isAvo) r2 hy _ fun v H3 d hd ex rv => ?_
  obtain ⟨k, rfl, hk⟩ := onB_of hd
  cases rv
  refine ⟨k, rfl, ?_⟩
  have e3 := e1.trans (e2.trans (Ex.ext (is := P.is) ex))
  cases k with
  | false => rw [fork_ff] at hk; exact q _ H3 _ hk ((L2.growEx ex).le (by omega)) e3 (.bl _)
  | true =>
    rw [fork_tt] at hk
    refine sc P av H0 ed hw n H3 σ G _ ((L2.growEx ex).le (by omega)) hk _ fun z H4 dz hz L4 e4 r4 => ?_
    refine hf' P.is (avo av σ G) H4 y z dy dz Qd (fun _ => L4.isAvo) (fun _ => L4.avoNe) ((r2.ext (Ex.ext ex) fun _ => L2.isAvo).ext e4 fun _ => L4.isAvo) r4 hz Q fun v H5 d hd ex5 rv5 => ?_
    exact q v H5 d hd (L4.growEx ex5) (e3.trans (e4.trans (Ex.ext ex5))) rv5
theorem dx_lele (ha : DR X K W c1 a wa) (hb : DR X K W c2 b wb) (hc : DR X K W c3 t wc) (hm : lastMarks [.LtE, .LtE] [b, t] = false := by with_unfolding_all rfl) :
    DX X K W (c1 + c2 + c3) (.Compare a [.LtE, .LtE] [b, t] pos) (wChain (fI0 fun i j => .bl (decide (i ≤ j))) (fI0 fun i j => .bl (decide (i ≤ j))) wa wb wc) :=
  dx_chain (fun _ => op_le) (fun _ => op_le) (opI0 fun _ _ => .bl _) (opI0 fun _ _ => .bl _) ha hb hc hm
theorem dx_lelt (ha : DR X K W c1 a wa) (hb : DR X K W c2 b wb) (hc : DR X K W c3 t wc) (hm : lastMarks [.LtE, .Lt] [b, t] = false := by with_unfolding_all rfl) :
    DX X K W (c1 + c2 + c3) (.Compare a [.LtE, .Lt] [b, t] pos) (wChain (fI0 fun i j => .bl (decide (i ≤ j))) (fI0 fun i j => .bl (decide (i < j))) wa wb wc) :=
  dx_chain (fun _ => op_le) (fun _ => op_lt) (opI0 fun _ _ => .bl _) (opI0 fun _ _ => .bl _) ha hb hc hm
/-! ### tests -/
theorem dt_val (h : DE X K W c e w) (he : ∀ i whole, isTrue e (X i).env whole = (do let v ← whole; standAt e.pos; holding [v] (truthy v)) := by intro _ _; rfl) : DT X K W c e (wB w) := by
  obtain ⟨te, pe, s⟩ := h
  refine ⟨_, fun i => pt_val (pe i) (he i), fun P av H0 ed hw n H σ G Qd L h Q q => s P av H0 ed hw n H σ G _ L h _ fun v H' d hd L' e' r => ?_⟩
  obtain ⟨b, rfl, hb⟩ := onB_of hd
  cases r
  exact ⟨b, rfl, q b H' hb L' e'⟩
/-- by truth -/
def truD : D → Option Bool
  | .non => some false | .bl b => some b | .int i => some (i != 0) | .lst xs => some (!xs.isEmpty) | .tup xs => some (!xs.isEmpty) | _ => none
def wTru (w : WE) : WT := fun G ed Q => w G ed fun d => onO (truD d) Q
theorem isEmpty_len {α β : Type} {xs : List α} {ys : List β} (h : xs.length = ys.length) : xs.isEmpty = ys.isEmpty := by
  cases xs <;> cases ys <;> simp at h ⊢
theorem dt_truth (hK : ∀ i, (X i).K = K) (h : DR X K W c e w) (he : ∀ i whole, isTrue e (X i).env whole = (do let v ← whole; standAt e.pos; holding [v] (truthy v)) := by intro _ _; rfl) : DT X K W c e (wTru w) := by
  obtain ⟨te, pe, s⟩ := h
  refine ⟨fun σ H Q => te σ H fun x H' => ∃ k, TruV K x H' k ∧ Q k H', fun i => (by rw [← hK i]; exact pt_truth (pe i) (he i)), fun P av H0 ed hw n H σ G Qd L h Q q => s P av H0 ed hw n H σ G _ L h _ fun v H' d hd L' e' r => ?_⟩
  obtain ⟨b, hb, hq⟩ := onO_of hd
  refine ⟨b, ?_, q b H' hq L' e'⟩
  cases d <;> simp only [truD, Option.some.injEq, reduceCtorEq] at hb
  · cases r; exact hb.symm
  · cases r; exact hb.symm
  · cases r; exact hb.symm
  · obtain ⟨p, xs, rfl, n, r⟩ := r
    exact .inl ⟨xs, n.sq, by rw [isEmpty_len r.len]; exact hb.symm⟩
  · cases r with
    | tup n r => exact .inr (.inl ⟨_, n.sq, by rw [isEmpty_len r.len]; exact hb.symm⟩)
def wAnd (t u : WT) : WT := fun G ed Q => t G ed fun b => fork b (u G ed Q) (Q false)
def wOr (t u : WT) : WT := fun G ed Q => t G ed fun b => fork b (Q true) (u G ed Q)
def wNot (t : WT) : WT := fun G ed Q => t G ed fun b => Q (!b)
/-- chains of and, or as tests -/
def DW {ι : Type} (X : ι → Cx) (K : Fg) (W : Ctl) (c : Nat) (e : Expr) (w : WT) : Prop := ∃ tt, (∀ i, PW (X i) e tt) ∧ ∀ (P : Pn) (av : Av) (H0 : Hp) (ed : Value → Prop), HW W P H0 ed → ∀ (n : Nat) (H : Hp) (σ : Sg) (G : Gm) (Qd : Bool → Prop),
  LocOk P K av H0 (n + c) H σ G → w G ed Qd → ∀ Q : Bool → Hp → Prop, (∀ b H', Qd b → LocOk P K av H0 n H' σ G → Ext P.is H H' → Q b H') → tt σ H Q
theorem DW.dt (h : DW X K W c e wt) : DT X K W c e wt := by
  obtain ⟨tt, pw, s⟩ := h
  exact ⟨tt, fun i => (pw i).pt, s⟩
theorem dw_and1 (h : DT X K W c a wt) : DW X K W c (.BoolOp .And [a] pos) wt := by
  obtain ⟨tt, pt, s⟩ := h
  exact ⟨tt, fun i => pw_and1 (pt i), s⟩
theorem dw_or1 (h : DT X K W c a wt) : DW X K W c (.BoolOp .Or [a] pos) wt := by
  obtain ⟨tt, pt, s⟩ := h
  exact ⟨tt, fun i => pw_or1 (pt i), s⟩
theorem dw_and (ha : DT X K W c1 a wt) (hb : DW X K W c2 (.BoolOp .And (b :: es) pos) wu) : DW X K W (c1 + c2) (.BoolOp .And (a :: b :: es) pos) (wAnd wt wu) := by
  obtain ⟨ta, pa, sa⟩ := ha
  obtain ⟨tb, pb, sb⟩ := hb
  refine ⟨_, fun i => pw_and (pa i) (pb i), fun P av H0 ed hw n H σ G Qd L h Q q => ?_⟩
  refine sa P av H0 ed hw (n + c2) H σ G _ (L.le (by omega)) h _ fun k H1 hk L1 e1 => ?_
  cases k with
  | false => rw [fork_ff] at hk; exact q _ _ hk (L1.le (by omega)) e1
  | true => rw [fork_tt] at hk; exact sb P av H0 ed hw n H1 σ G _ (L1.le (by omega)) hk _ fun k2 H2 hk2 L2 e2 => q _ _ hk2 L2 (e1.trans e2)
theorem dw_or (ha : DT X K W c1 a wt) (hb : DW X K W c2 (.BoolOp .Or (b :: es) pos) wu) : DW X K W (c1 + c2) (.BoolOp .Or (a :: b :: es) pos) (wOr wt wu) := by
  obtain ⟨ta, pa, sa⟩ := ha
  obtain ⟨tb, pb, sb⟩ := hb
  refine ⟨_, fun i => pw_or (pa i) (pb i), fun P av H0 ed hw n H σ G Qd L h Q q => ?_⟩
  refine sa P av H0 ed hw (n + c2) H σ G _ (L.le (by omega)) h _ fun k H1 hk L1 e1 => ?_
  cases k with
  | true => rw [fork_tt] at hk; exact q _ _ hk (L1.le (by omega)) e1
  | false => rw [fork_ff] at hk; exact sb P av H0 ed hw n H1 σ G _ (L1.le (by omega)) hk _ fun k2 H2 hk2 L2 e2 => q _ _ hk2 L2 (e1.trans e2)
theorem dt_not (h : DT X K W c a wt) : DT X K W c (.UnaryOp .Not a pos) (wNot wt) := by
  obtain ⟨tt, pt, s⟩ := h
  exact ⟨_, fun i => pt_not (pt i), fun P av H0 ed hw n H σ G Qd L h Q q => s P av H0 ed hw n H σ G _ L h _ fun k H1 hk L1 e1 => q _ _ hk L1 e1⟩
/-! ### and, or, not, if as values -/
def wAndV (wa wb : WE) : WE := fun G ed Q => wa G ed fun d => onB d fun k => fork k (wb G ed Q) (Q (.bl false))
def wOrV (wa wb : WE) : WE := fun G ed Q => wa G ed fun d => onB d fun k => fork k (Q (.bl true)) (wb G ed Q)
def wNotV (wa : WE) : WE := fun G ed Q => wa G ed fun d => onB d fun k => Q (.bl (!k))
theorem de_one {op} (h : DE X K W c a w) : DE X K W c (.BoolOp op [a] pos) w := by
  obtain ⟨te, pe, s⟩ := h
  exact ⟨te, fun i => pe_one (pe i), s⟩
theorem de_and (ha : DE X K W c1 a wa) (hb : DE X K W c2 (.BoolOp .And (b :: es) pos) wb) : DE X K W (c1 + c2) (.BoolOp .And (a :: b :: es) pos) (wAndV wa wb) := by
  obtain ⟨ta, pa, sa⟩ := ha
  obtain ⟨tb, pb, sb⟩ := hb
  refine ⟨_, fun i => pe_and (pa i) (pb i), fun P av H0 ed hw n H σ G Qd L h Q q => ?_⟩
  refine sa P av H0 ed hw (n + c2) H σ G _ (L.le (by omega)) h _ fun x H1 dx hx L1 e1 r1 => ?_
  obtain ⟨k, rfl, hk⟩ := onB_of hx
  cases r1
  refine ⟨k, rfl, ?_⟩
  cases k with
  | false => rw [fork_ff] at hk; exact q _ _ _ hk (L1.le (by omega)) e1 (.bl _)
  | true => rw [fork_tt] at hk; exact sb P av H0 ed hw n H1 σ G _ (L1.le (by omega)) hk _ fun y H2 dy hy L2 e2 r2 => q _ _ _ hy L2 (e1.trans e2) r2
theorem de_or (ha : DE X K W c1 a wa) (hb : DE X K W c2 (.BoolOp .Or (b :: es) pos) wb) : DE X K W (c1 + c2) (.BoolOp .Or (a :: b :: es) pos) (wOrV wa wb) := by
  obtain ⟨ta, pa, sa⟩ := ha
  obtain ⟨tb, pb, sb⟩ := hb
  refine ⟨_, fun i => pe_or (pa i) (pb i), fun P av H0 ed hw n H σ G Qd L h Q q => ?_⟩
  refine sa P av H0 ed hw (n + c2) H σ G _ (L.le (by omega)) h _ fun x H1 dx hx L1 e1 r1 => ?_
  obtain ⟨k, rfl, hk⟩ := onB_of hx
  cases r1
  refine ⟨k, rfl, ?_⟩
  cases k with
  | true => rw [fork_tt] at hk; exact q _ _ _ hk (L1.le (by omega)) e1 (.bl _)
  | false => rw [fork_ff] at hk; exact sb P av H0 ed hw n H1 σ G _ (L1.le (by omega)) hk _ fun y H2 dy hy L2 e2 r2 => q _ _ _ hy L2 (e1.trans e2) r2
theorem de_not (h : DE X K W c a w) : DE X K W c (.UnaryOp .Not a pos) (wNotV w) := by
  obtain ⟨te, pe, s⟩ := h
  refine ⟨_, fun i => pe_not (pe i), fun P av H0 ed hw n H σ G Qd L h Q q => s P av H0 ed hw n H σ G _ L h _ fun x H1 dx hx L1 e1 r1 => ?_⟩
  obtain ⟨k, rfl, hk⟩ := onB_of hx
  cases r1
  exact ⟨k, rfl, q _ _ _ hk L1 e1 (.bl _)⟩
def wIf (t : WT) (wa wb : WE) : WE := fun G ed Q => t G ed fun b => fork b (wa G ed Q) (wb G ed Q)
theorem de_if (hc : DT X K W c t wt) (ha : DE X K W c1 a wa) (hb : DE X K W c2 b wb) : DE X K W (c + (c1 + c2)) (.IfExp t a b pos) (wIf wt wa wb) := by
  obtain ⟨tt, pt, s⟩ := hc
  obtain ⟨ta, pa, sa⟩ := ha
  obtain ⟨tb, pb, sb⟩ := hb
  refine ⟨_, fun i => pe_ifExp (pt i) (pa i) (pb i), fun P av H0 ed hw n H σ G Qd L h Q q => s P av H0 ed hw (n + (c1 + c2)) H σ G _ (L.le (by omega)) h _ fun k H1 hk L1 e1 => ?_⟩
  cases k with
  | true => rw [fork_tt] at hk; exact sa P av H0 ed hw n H1 σ G _ (L1.le (by omega)) hk _ fun y H2 dy hy L2 e2 r2 => q _ _ _ hy L2 (e1.trans e2) r2
  | false => rw [fork_ff] at hk; exact sb P av H0 ed hw n H1 σ G _ (L1.le (by omega)) hk _ fun y H2 dy hy L2 e2 r2 => q _ _ _ hy L2 (e1.trans e2) r2
def wIfF (t : WT) (wa wb : WL) : WL := fun G ed Q => t G ed fun b => fork b (wa G ed Q) (wb G ed Q)
theorem df_if {wa wb : WL} (hc : DT X K W c t wt) (ha : DF X K W c1 a wa) (hb : DF X K W c2 b wb) : DF X K W (c + (c1 + c2)) (.IfExp t a b pos) (wIfF wt wa wb) := by
  obtain ⟨tt, pt, s⟩ := hc
  obtain ⟨ta, pa, sa⟩ := ha
  obtain ⟨tb, pb, sb⟩ := hb
  refine ⟨_, fun i => pe_ifExp (pt i) (pa i) (pb i), fun P av H0 ed hw n H σ G Qd L h Q q => s P av H0 ed hw (n + (c1 + c2)) H σ G _ (L.le (by omega)) h _ fun k H1 hk L1 e1 => ?_⟩
  have back : ∀ p H2, LocOk P K av H0 n H2 σ G → Ext P.is H1 H2 → H1 p = none → H p = none := fun p H2 L2 e2 z => e1.none (fun i => L1.avNe (L1.pav _ i) z) z
  cases k with
  | true => rw [fork_tt] at hk; exact sa P av H0 ed hw n H1 σ G _ (L1.le (by omega)) hk _ fun y xs H2 dy hy L2 e2 hn hp r2 => q _ _ _ _ hy L2 (e1.trans e2) (back y H2 L2 e2 hn) hp r2
  | false => rw [fork_ff] at hk; exact sb P av H0 ed hw n H1 σ G _ (L1.le (by omega)) hk _ fun y xs H2 dy hy L2 e2 hn hp r2 => q _ _ _ _ hy L2 (e1.trans e2) (back y H2 L2 e2 hn) hp r2
/-! ### arguments, displays -/
def wNil : WL := fun _ _ Q => Q []
def wCons (wa : WE) (wl : WL) : WL := fun G ed Q => wa G ed fun d => wl G ed fun ds => Q (d :: ds)
theorem da_nil : DA X K W 0 [] wNil := ⟨_, fun _ => pa_nil, fun P av H0 ed hw n H σ G Qd L h Q q => q _ _ _ h L (.refl _ _) .nil⟩
theorem da_cons (ha : DE X K W c1 e wa) (hr : DA X K W c2 es wl) (hs : ∀ i, starEach (e :: es) (X i).env = (false, eval e (X i).env) :: starEach es (X i).env := by intro _; rfl) : DA X K W (c1 + c2) (e :: es) (wCons wa wl) := by
  obtain ⟨ta, pa, sa⟩ := ha
  obtain ⟨tb, pb, sb⟩ := hr
  refine ⟨_, fun i => pa_cons (pa i) (pb i) (hs i), fun P av H0 ed hw n H σ G Qd L h Q q => ?_⟩
  refine sa P av H0 ed hw (n + c2) H σ G _ (L.le (by omega)) h _ fun x H1 dx hx L1 e1 r1 => ?_
  exact sb P av H0 ed hw n H1 σ G _ (L1.le (by omega)) hx _ fun y H2 dy hy L2 e2 r2 => q _ _ _ hy L2 (e1.trans e2) (.cons (r1.ext e2 (fun _ => L2.isAvo) fun _ _ z => z) r2)
theorem db_nil : DB X K W 0 [] wNil := ⟨_, fun _ => pa_nil, fun P av H0 ed hw n H σ G Qd L h Q q => q _ _ _ h L (.refl _ _) .nil⟩
theorem db_cons (ha : DR X K W c1 e wa) (hr : DB X K W c2 es wl) (hs : ∀ i, starEach (e :: es) (X i).env = (false, eval e (X i).env) :: starEach es (X i).env := by intro _; rfl) : DB X K W (c1 + c2) (e :: es) (wCons wa wl) := by
  obtain ⟨ta, pa, sa⟩ := ha
  obtain ⟨tb, pb, sb⟩ := hr
  refine ⟨_, fun i => pa_cons (pa i) (pb i) (hs i), fun P av H0 ed hw n H σ G Qd L h Q q => ?_⟩
  refine sa P av H0 ed hw (n + c2) H σ G _ (L.le (by omega)) h _ fun x H1 dx hx L1 e1 r1 => ?_
  exact sb P av H0 ed hw n H1 σ G _ (L1.le (by omega)) hx _ fun y H2 dy hy L2 e2 r2 => q _ _ _ hy L2 (e1.trans e2) (.cons (r1.ext e2 fun _ => L2.isAvo) r2)
def wSz (wl : WL) : WL := fun G ed Q => wl G ed fun ds => ds.length ≤ sizeLine ∧ Q ds
theorem df_lst (h : DA X K W c es wl) : DF X K W c (.List es pos) (wSz wl) := by
  obtain ⟨ta, pa, s⟩ := h
  refine ⟨_, fun i => pe_lst (pa i), fun P av H0 ed hw n H σ G Qd L h Q q => s P av H0 ed hw n H σ G _ L h _ fun vs H1 ds hd L1 e1 r1 => ⟨by rw [r1.len]; exact hd.1, fun p hp => ?_⟩⟩
  have ni : ¬ P.is p := fun z => L1.avNe (L1.pav _ z) hp
  exact q p vs _ ds hd.2 (L1.new hp) (e1.trans (.new hp)) (e1.none ni hp) upd_same (r1.ext (is := P.is) (.new hp) (fun _ => L1.isAvo) (avp_of hp))
def wTup (wl : WL) : WE := fun G ed Q => wl G ed fun ds => ds.length ≤ sizeLine ∧ Q (.tup ds)
theorem de_tup {x1} (h : DA X K W c es wl) : DE X K W c (.Tuple es x1 pos) (wTup wl) := by
  obtain ⟨ta, pa, s⟩ := h
  refine ⟨_, fun i => pe_tup (pa i), fun P av H0 ed hw n H σ G Qd L h Q q => s P av H0 ed hw n H σ G _ L h _ fun vs H1 ds hd L1 e1 r1 => ⟨by rw [r1.len]; exact hd.1, fun p hp => ?_⟩⟩
  exact q _ _ _ hd.2 (L1.new hp) (e1.trans (.new hp)) (.tup (.inl ⟨upd_same, fun z => L1.avoNe z hp⟩) (r1.ext (is := P.is) (.new hp) (fun _ => L1.isAvo) fun _ _ z => z))
/-! ### built-ins by name -/
def CaS (K : Fg) (r : List V → Hp → VK → Prop) (f : List D → (D → Prop) → Prop) : Prop := ∀ (is av : Av) (H : Hp) (xs : List V) (ds : List D) (Qd : D → Prop), (∀ a, is a → av a) → (∀ a, av a → H a ≠ none) → Rqs K is av H xs ds → f ds Qd →
  ∀ Q : VK, (∀ v H' d, Qd d → Ex H H' → Rp K av H' v d → Q v H') → r xs H Q
def CaF (K : Fg) (r : List V → Hp → VK → Prop) (f : List D → (List D → Prop) → Prop) : Prop := ∀ (is av : Av) (H : Hp) (xs : List V) (ds : List D) (Qd : List D → Prop), (∀ a, is a → av a) → (∀ a, av a → H a ≠ none) → Rqs K is av H xs ds → f ds Qd →
  ∀ Q : VK, (∀ p zs es, Qd es → H p = none → Rps K av H zs es → Q (.ref p) (upd H p (.lst zs))) → r xs H Q
def wCb (f : List D → (D → Prop) → Prop) (wl : WL) : WE := fun G ed Q => wl G ed fun ds => f ds Q
def wCbF (f : List D → (List D → Prop) → Prop) (wl : WL) : WL := fun G ed Q => wl G ed fun ds => f ds Q
theorem de_cb {r : List V → Hp → VK → Prop} {f : List D → (D → Prop) → Prop} (hf : CaS K r f) (pe : ∀ i t, PA (X i) es t → PE (X i) e (tCB r t)) (h : DB X K W c es wl) : DE X K W c e (wCb f wl) := by
  obtain ⟨ta, pa, s⟩ := h
  refine ⟨_, fun i => pe i _ (pa i), fun P av H0 ed hw n H σ G Qd L h Q q => s P av H0 ed hw n H σ G _ L h _ fun vs H1 ds hd L1 e1 r1 => ?_⟩
  exact hf P.is (avo av σ G) H1 vs ds Qd (fun _ => L1.isAvo) (fun _ => L1.avoNe) r1 hd Q fun v H2 d hd ex rv => q v H2 d hd (L1.growEx ex) (e1.trans (Ex.ext ex)) rv
theorem df_cb {r : List V → Hp → VK → Prop} {f : List D → (List D → Prop) → Prop} (hf : CaF K r f) (pe : ∀ i t, PA (X i) es t → PE (X i) e (tCB r t)) (h : DB X K W c es wl) : DF X K W c e (wCbF f wl) := by
  obtain ⟨ta, pa, s⟩ := h
  refine ⟨_, fun i => pe i _ (pa i), fun P av H0 ed hw n H σ G Qd L h Q q => s P av H0 ed hw n H σ G _ L h _ fun vs H1 ds hd L1 e1 r1 => ?_⟩
  refine hf P.is (avo av σ G) H1 vs ds Qd (fun _ => L1.isAvo) (fun _ => L1.avoNe) r1 hd Q fun p zs es hd hp rv => ?_
  have ni : ¬ P.is p := fun z => L1.avNe (L1.pav _ z) hp
  exact q p zs _ es hd (L1.new hp) (e1.trans (.new hp)) (e1.none ni hp) upd_same (rv.ext (is := P.is) (.new hp) (fun _ => L1.isAvo) (avp_of hp))
/-- len -/
def fLen : List D → (D → Prop) → Prop
  | [.lst xs], Q => Q (.int xs.length)
  | [.tup xs], Q => Q (.int xs.length)
  | [.str s], Q => s.length ≤ sizeLine ∧ Q (.int s.length)
  | _, _ => False
theorem caLen : CaS K (fun xs H Q => ∃ x n, xs = [x] ∧ LenV K x H n ∧ Q (.int n) H) fLen := by
  intro is av H xs ds Qd hi ha r h Q q
  unfold fLen at h
  split at h
  · cases r with
    | cons r rr =>
      cases rr
      obtain ⟨p, xs, rfl, n1, r⟩ := r
      exact ⟨_, _, rfl, .inl ⟨xs, n1.sq, r.len.symm⟩, q _ H _ h (fun _ _ z => z) (.int _)⟩
  · cases r with
    | cons r rr =>
      cases rr
      cases r with
      | tup n1 r => exact ⟨_, _, rfl, .inr ⟨_, n1.sq, r.len.symm⟩, q _ H _ h (fun _ _ z => z) (.int _)⟩
  · cases r with
    | cons r rr =>
      cases rr
      cases r
      exact ⟨_, _, rfl, ⟨h.1, rfl⟩, q _ H _ h.2 (fun _ _ z => z) (.int _)⟩
  · exact h.elim
theorem de_len (hK : ∀ i, (X i).K = K) (hm : ∀ i, (X i).mg "len" = none) (h : DB X K W c [e] wl) (hg : ∀ i, Gl (X i) "len" := by intro _; rfl) (he : ∀ i, starEach [e] (X i).env = (false, eval e (X i).env) :: starEach [] (X i).env := by intro _; rfl) : DE X K W c (.Call (.Name "len" p) [e] [] pos) (wCb fLen wl) :=
  de_cb caLen (fun i _ pa => by rw [← hK i]; exact pe_callB call_len (hg i) (hm i) PySem.boot_len pa (by decide) (by decide) (he i)) h
/-- isinstance(x, T), T a built-in class -/
def tyD : D → Option String
  | .non => some "NoneType" | .bl _ => some "bool" | .int _ => some "int" | .str _ => some "str" | .lst _ => some "list" | .tup _ => some "tuple" | .dic _ _ => some "dict" | .obj _ => none | .err _ _ => none
def isiD (d : D) (n : String) : Option Bool := (tyD d).bind fun m => kitB m n
def fIsi : List D → (D → Prop) → Prop
  | [d, .obj (.ty n)], Q => onO (isiD d n) fun b => Q (.bl b)
  | _, _ => False
theorem caIsi : CaS K (rIsi K) fIsi := by
  intro is av H xs ds Qd hi ha r h Q q
  obtain ⟨d, n, rfl⟩ : ∃ d n, ds = [d, .obj (.ty n)] := by
    unfold fIsi at h
    split at h
    · exact ⟨_, _, rfl⟩
    · exact h.elim
  obtain ⟨b, hb, h⟩ := onO_of h
  obtain ⟨m, hm, hk⟩ := Option.bind_eq_some_iff.mp hb
  cases r with
  | cons r rr =>
    cases rr with
    | cons r2 rr =>
      cases rr
      cases r2
      rename_i v
      have ty : TyX K H v (.type m) := by
        cases d <;> simp only [tyD, Option.some.injEq, reduceCtorEq] at hm <;> subst hm
        · cases r; exact .base .non
        · cases r; exact .base (.bl _)
        · cases r; exact .base (.int _)
        · cases r; exact .base (.str _)
        · obtain ⟨p, xs, rfl, n1, r⟩ := r; exact .base (.lst n1.1)
        · cases r with
          | tup n1 r =>
            rcases n1 with n1 | ⟨o, its, k, e1, e2, _⟩
            · exact .base (.tup n1.1)
            · exact .kTuple e1 e2
        · obtain ⟨p, xs, rfl, n1, _, r⟩ := r; exact .base (.dK n1.1)
      exact ⟨v, .ty n, .type m, .type n, b, rfl, .ty n, ty, kit_ty hk, q _ H _ h (fun _ _ z => z) (.bl _)⟩
theorem de_isi {e2 : Expr} (hK : ∀ i, (X i).K = K) (hm : ∀ i, (X i).mg "isinstance" = none) (h : DB X K W c [e, e2] wl) (hg : ∀ i, Gl (X i) "isinstance" := by intro _; rfl) (he : ∀ i, starEach [e, e2] (X i).env = (false, eval e (X i).env) :: starEach [e2] (X i).env := by intro _; rfl) (hpl : ∀ i, (backTo pos (starEach [e2] (X i).env)).any (·.1) = false := by intro _; rfl) :
    DE X K W c (.Call (.Name "isinstance" p) [e, e2] [] pos) (wCb fIsi wl) :=
  de_cb caIsi (fun i _ pa => by rw [← hK i]; exact pe_callB call_isi (hg i) (hm i) (by decide +kernel) pa (by decide) (by decide) (he i) (hpl i)) h
theorem de_ty {x : Str} {n : String} (hm : ∀ i, (X i).mg x = none) (hv : bootBuiltins x = some (.type n)) (hg : ∀ i, Gl (X i) x := by intro _; rfl) (hn : x ≠ "__name__" := by decide) (hd : (x == ("__debug__" : Str)) = false := by decide) : DE X K W 0 (.Name x pos) (wC (.obj (.ty n))) :=
  de_c (fun i => pe_bltn (v := .ty n) (hg i) (hm i) hv rfl hn hd) (.obj _)
/-- all, any of a list of bools -/
def fAll (g : List Bool → Bool) : List D → (D → Prop) → Prop := fun ds Q => ∃ bs : List Bool, ds = [.lst (bs.map .bl)] ∧ Q (.bl (g bs))
theorem rps_bl {K : Fg} {av : Av} {H : Hp} : ∀ {bs : List Bool} {xs : List V}, Rps K av H xs (bs.map .bl) → xs = bs.map V.bl
  | [], _, h => by cases h; rfl
  | b :: bs, _, h => by
    cases h with
    | cons h hs =>
      cases h
      rw [rps_bl hs]
      rfl
theorem caAll {g : List Bool → Bool} : CaS K (fun vs H Q => ∃ (a : Addr) (bs : List Bool), vs = [V.ref a] ∧ SqL K H a (bs.map V.bl) ∧ Q (.bl (g bs)) H) (fAll g) := by
  intro is av H xs ds Qd hi ha r h Q q
  obtain ⟨bs, rfl, h⟩ := h
  cases r with
  | cons r rr =>
    cases rr
    obtain ⟨p, ys, rfl, n, r⟩ := r
    rw [rps_bl r] at n
    exact ⟨p, bs, rfl, n.sq, q _ H _ h (fun _ _ z => z) (.bl _)⟩
theorem de_all (hK : ∀ i, (X i).K = K) (hc : ∀ i, (X i).calm = true) (hm : ∀ i, (X i).mg "all" = none) (h : DB X K W c [e] wl) (hg : ∀ i, Gl (X i) "all" := by intro _; rfl) (he : ∀ i, starEach [e] (X i).env = (false, eval e (X i).env) :: starEach [] (X i).env := by intro _; rfl) : DE X K W c (.Call (.Name "all" p) [e] [] pos) (wCb (fAll fun bs => bs.all id) wl) :=
  de_cb caAll (fun i _ pa => by rw [← hK i]; exact pe_callB (cr_all (hc i)) (hg i) (hm i) (by decide +kernel) pa (by decide) (by decide) (he i)) h
theorem de_any (hK : ∀ i, (X i).K = K) (hc : ∀ i, (X i).calm = true) (hm : ∀ i, (X i).mg "any" = none) (h : DB X K W c [e] wl) (hg : ∀ i, Gl (X i) "any" := by intro _; rfl) (he : ∀ i, starEach [e] (X i).env = (false, eval e (X i).env) :: starEach [] (X i).env := by intro _; rfl) : DE X K W c (.Call (.Name "any" p) [e] [] pos) (wCb (fAll fun bs => bs.any id) wl) :=
  de_cb caAll (fun i _ pa => by rw [← hK i]; exact pe_callB (cr_any (hc i)) (hg i) (hm i) (by decide +kernel) pa (by decide) (by decide) (he i)) h
/-- list(xs), tuple(xs) -/
def fListOf : List D → (List D → Prop) → Prop
  | [.lst xs], Q => Q xs
  | [.tup xs], Q => Q xs
  | _, _ => False
theorem fListOf_of {ds : List D} {Q : List D → Prop} (h : fListOf ds Q) : ∃ xs, (ds = [.lst xs] ∨ ds = [.tup xs]) ∧ Q xs := by
  unfold fListOf at h
  split at h
  · exact ⟨_, .inl rfl, h⟩
  · exact ⟨_, .inr rfl, h⟩
  · exact h.elim
theorem caList : CaF K (fun xs H Q => ∃ p ys, xs = [.ref p] ∧ (SqL K H p ys ∨ SqT K H p ys) ∧ ∀ l, H l = none → Q (.ref l) (upd H l (.lst ys))) fListOf := by
  intro is av H xs ds Qd hi ha r h Q q
  obtain ⟨es, rfl | rfl, h⟩ := fListOf_of h
  · cases r with
    | cons r rr =>
      cases rr
      obtain ⟨p, ys, rfl, n, r⟩ := r
      exact ⟨p, ys, rfl, .inl n.sq, fun l hl => q l _ _ h hl r⟩
  · cases r with
    | cons r rr =>
      cases rr
      cases r with
      | tup n r => exact ⟨_, _, rfl, .inr n.sq, fun l hl => q l _ _ h hl r⟩
theorem df_list (hK : ∀ i, (X i).K = K) (hm : ∀ i, (X i).mg "list" = none) (h : DB X K W c [e] wl) (hg : ∀ i, Gl (X i) "list" := by intro _; rfl) (he : ∀ i, starEach [e] (X i).env = (false, eval e (X i).env) :: starEach [] (X i).env := by intro _; rfl) : DF X K W c (.Call (.Name "list" p) [e] [] pos) (wCbF fListOf wl) :=
  df_cb caList (fun i _ pa => by rw [← hK i]; exact pe_callTy call_list_of (hg i) (hm i) (by decide +kernel) pa (by decide) (by decide) (he i)) h
def fTupOf : List D → (D → Prop) → Prop := fun ds Q => fListOf ds fun xs => Q (.tup xs)
theorem caTup : CaS K (fun xs H Q => ∃ p ys, xs = [.ref p] ∧ ((SqL K H p ys ∧ ∀ l, H l = none → Q (.ref l) (upd H l (.tup ys))) ∨ (SqT K H p ys ∧ Q (.ref p) H))) fTupOf := by
  intro is av H xs ds Qd hi ha r h Q q
  obtain ⟨es, rfl | rfl, h⟩ := fListOf_of h
  · cases r with
    | cons r rr =>
      cases rr
      obtain ⟨p, ys, rfl, n, r⟩ := r
      exact ⟨p, ys, rfl, .inl ⟨n.sq, fun l hl => q _ _ _ h (ex_new hl) (.tup (.inl ⟨upd_same, fun z => ha l z hl⟩) (r.ext (is := is) (.new hl) hi fun _ _ z => z))⟩⟩
  · cases r with
    | cons r rr =>
      cases rr
      cases r with
      | tup n r => exact ⟨_, _, rfl, .inr ⟨n.sq, q _ H _ h (fun _ _ z => z) (.tup n r)⟩⟩
theorem de_tupleOf (hK : ∀ i, (X i).K = K) (hm : ∀ i, (X i).mg "tuple" = none) (h : DB X K W c [e] wl) (hg : ∀ i, Gl (X i) "tuple" := by intro _; rfl) (he : ∀ i, starEach [e] (X i).env = (false, eval e (X i).env) :: starEach [] (X i).env := by intro _; rfl) : DE X K W c (.Call (.Name "tuple" p) [e] [] pos) (wCb fTupOf wl) :=
  de_cb caTup (fun i _ pa => by rw [← hK i]; exact pe_callTy call_tuple_of (hg i) (hm i) (by decide +kernel) pa (by decide) (by decide) (he i)) h
/-- int(n) -/
def fInt : List D → (D → Prop) → Prop
  | [.int i], Q => Q (.int i)
  | [.bl b], Q => Q (.int (if b then 1 else 0))
  | _, _ => False
theorem caInt : CaS K (fun xs H Q => (∃ i, xs = [.int i] ∧ Q (.int i) H) ∨ ∃ k, xs = [.bl k] ∧ Q (.int (if k then 1 else 0)) H) fInt := by
  intro is av H xs ds Qd hi ha r h Q q
  obtain ⟨i, rfl, h⟩ | ⟨b, rfl, h⟩ : (∃ i, ds = [.int i] ∧ Qd (.int i)) ∨ ∃ b, ds = [.bl b] ∧ Qd (.int (if b then 1 else 0)) := by
    unfold fInt at h
    split at h
    · exact .inl ⟨_, rfl, h⟩
    · exact .inr ⟨_, rfl, h⟩
    · exact h.elim
  · cases r with
    | cons r rr =>
      cases rr
      cases r
      exact .inl ⟨_, rfl, q _ H _ h (fun _ _ z => z) (.int _)⟩
  · cases r with
    | cons r rr =>
      cases rr
      cases r
      exact .inr ⟨_, rfl, q _ H _ h (fun _ _ z => z) (.int _)⟩
theorem de_intOf (hm : ∀ i, (X i).mg "int" = none) (h : DB X K W c [e] wl) (hg : ∀ i, Gl (X i) "int" := by intro _; rfl) (he : ∀ i, starEach [e] (X i).env = (false, eval e (X i).env) :: starEach [] (X i).env := by intro _; rfl) : DE X K W c (.Call (.Name "int" p) [e] [] pos) (wCb fInt wl) :=
  de_cb caInt (fun i _ pa => pe_callTy call_int1 (hg i) (hm i) (by decide +kernel) pa (by decide) (by decide) (he i)) h
end
end DL

namespace DL
open PySem PySem.Spec PyProof.Rows L2
section
variable {ι : Type} {X : ι → Cx} {K : Fg} {W : Ctl} {c c1 c2 c3 : Nat} {e a b t : Expr} {es : List Expr} {w wa wb wc : WE} {wt wu : WT} {wl : WL} {pos p apos cpos : Pos}
/-! ### a[i] -/
theorem ixN_lt {n : Nat} {i : Int} {j : Nat} (h : ixN n i = some j) : j < n := (ixN_seq h).2.1
theorem rps_at {K : Fg} {av : Av} {H : Hp} {vs : List V} {ds : List D} {i : Int} {d : D} (r : Rps K av H vs ds) (h : atI ds i = some d) : ∃ v, atI vs i = some v ∧ Rp K av H v d := by
  unfold atI at h ⊢
  rw [r.len]
  cases q : ixN ds.length i with
  | none => rw [q] at h; exact nomatch h
  | some j =>
    rw [q] at h
    exact r.get (i := j) h
def fIx : D → D → (D → Prop) → Prop
  | .lst xs, .int i, Q => onO (atI xs i) Q
  | .tup xs, .int i, Q => onO (atI xs i) Q
  | .str z, .int i, Q => z.length ≤ sizeLine ∧ onO (atI z.cps.toList i) fun c => Q (.str ⟨#[c]⟩)
  | _, _, _ => False
theorem opIx : OpS K (rIx K) fIx := by
  intro is av H x y dx dy Qd hi ha rx ry h Q q
  cases dx <;> try exact h.elim
  · cases dy <;> try exact h.elim
    cases rx; cases ry
    obtain ⟨h1, h⟩ := h
    obtain ⟨c, h2, h3⟩ := onO_of h
    exact .inr (.inr ⟨_, _, c, rfl, rfl, h1, h2, q _ H _ h3 (fun _ _ z => z) (.str _)⟩)
  · cases dy <;> try exact h.elim
    obtain ⟨p, xs, rfl, n, r⟩ := rx
    cases ry
    obtain ⟨d, h1, h2⟩ := onO_of h
    obtain ⟨v, h3, h4⟩ := rps_at r h1
    exact .inl ⟨p, xs, _, v, rfl, rfl, n.sq, h3, q _ H _ h2 (fun _ _ z => z) h4⟩
  · cases dy <;> try exact h.elim
    cases ry
    obtain ⟨d, h1, h2⟩ := onO_of h
    cases rx with
    | tup n r =>
      obtain ⟨v, h3, h4⟩ := rps_at r h1
      exact .inr (.inl ⟨_, _, _, v, rfl, rfl, n.sq, h3, q _ H _ h2 (fun _ _ z => z) h4⟩)
theorem de_ix (hK : ∀ i, (X i).K = K) (ha : DR X K W c1 a wa) (hb : DR X K W c2 b wb) (hs : PlainIx b := by exact fun _ _ => rfl) : DE X K W (c1 + c2) (.Subscript a b pos) (w2 fIx wa wb) :=
  two opIx (fun i _ _ pa pb => by rw [← hK i]; exact pe_ix ix_seq pa pb hs) ha hb
/-! ### slices -/
abbrev WO := Gm → (Value → Prop) → (Option Int → Prop) → Prop
def DO {ι : Type} (X : ι → Cx) (K : Fg) (W : Ctl) (c : Nat) (o : Option Expr) (w : WO) : Prop := ∃ to, (∀ i, PO (X i) o to) ∧ ∀ (P : Pn) (av : Av) (H0 : Hp) (ed : Value → Prop), HW W P H0 ed → ∀ (n : Nat) (H : Hp) (σ : Sg) (G : Gm) (Qd : Option Int → Prop),
  LocOk P K av H0 (n + c) H σ G → w G ed Qd → ∀ Q : Option Int → Hp → Prop, (∀ o H', Qd o → LocOk P K av H0 n H' σ G → Ext P.is H H' → Q o H') → to σ H Q
def wNone : WO := fun _ _ Q => Q none
def wSome (w : WE) : WO := fun G ed Q => w G ed fun d => onI d fun i => Q (some i)
theorem do_none : DO X K W 0 none wNone := ⟨_, fun _ => po_none, fun P av H0 ed hw n H σ G Qd L h Q q => q _ _ h L (.refl _ _)⟩
theorem do_some (h : DE X K W c e w) : DO X K W c (some e) (wSome w) := by
  obtain ⟨te, pe, s⟩ := h
  refine ⟨_, fun i => po_some (pe i), fun P av H0 ed hw n H σ G Qd L h Q q => s P av H0 ed hw n H σ G _ L h _ fun v H1 d hd L1 e1 r => ?_⟩
  obtain ⟨i, rfl, hq⟩ := onI_of hd
  cases r
  exact ⟨i, rfl, q _ _ hq L1 e1⟩
def cut {α : Type} (xs : List α) (lo hi : Option Int) : List α := (xs.drop (HT.sIx xs.length 0 lo)).take (HT.sIx xs.length xs.length hi - HT.sIx xs.length 0 lo)
theorem rps_cut {K : Fg} {av : Av} {H : Hp} {vs : List V} {ds : List D} (r : Rps K av H vs ds) (lo hi : Option Int) : Rps K av H (cutV vs lo hi) (cut ds lo hi) := by
  unfold cutV cut
  rw [r.len]
  exact (r.drop _).take _
def rSl3 (K : Fg) : V → Option Int → Option Int → Hp → VK → Prop := fun x lo hi H Q => rSlS x lo hi H Q ∨ rSlL K x lo hi H Q
def fSl : D → Option Int → Option Int → (D → Prop) → Prop
  | .str z, lo, hi, Q => z.length ≤ sizeLine ∧ Q (.str (cutS z lo hi))
  | .lst xs, lo, hi, Q => Q (.lst (cut xs lo hi))
  | _, _, _, _ => False
def wSl (wa : WE) (wl wh : WO) : WE := fun G ed Q => wa G ed fun x => wl G ed fun lo => wh G ed fun hi => fSl x lo hi Q
theorem de_sl {lo hi : Option Expr} {p2 : Pos} {wl wh : WO} (hK : ∀ i, (X i).K = K) (ha : DR X K W c1 a wa) (hl : DO X K W c2 lo wl) (hh : DO X K W c3 hi wh) : DE X K W (c1 + c2 + c3) (.Subscript a (.Slice lo hi none p2) pos) (wSl wa wl wh) := by
  obtain ⟨ta, pa, sa⟩ := ha
  obtain ⟨tl, pl, sl⟩ := hl
  obtain ⟨th, ph, sh⟩ := hh
  refine ⟨tSl (rSl3 K) ta tl th, fun i => (by rw [← hK i]; exact pe_slice (sl_str.or sl_list) (pa i) (pl i) (ph i)), fun P av H0 ed hw n H σ G Qd L h Q q => ?_⟩
  refine sa P av H0 ed hw (n + c2 + c3) H σ G _ (L.le (by omega)) h _ fun x H1 dx hx L1 e1 r1 => ?_
  refine sl P av H0 ed hw (n + c3) H1 σ G _ (L1.le (by omega)) hx _ fun lo H2 hl L2 e2 => ?_
  refine sh P av H0 ed hw n H2 σ G _ (L2.le (by omega)) hl _ fun hi H3 hh L3 e3 => ?_
  have r3 := (r1.ext e2 fun _ => L2.isAvo).ext e3 fun _ => L3.isAvo
  have e13 := e1.trans (e2.trans e3)
  cases dx <;> try exact hh.elim
  · cases r3
    exact .inl ⟨_, rfl, hh.1, q _ _ _ hh.2 L3 e13 (.str _)⟩
  · obtain ⟨p, xs, rfl, n1, r⟩ := r3
    refine .inr ⟨p, xs, rfl, n1.sq, fun z hz => q _ _ _ hh (L3.new hz) (e13.trans (.new hz)) (.lst ⟨upd_same, fun k => L3.avoNe k hz⟩ ?_)⟩
    exact (rps_cut r lo hi).ext (is := P.is) (.new hz) (fun _ => L3.isAvo) fun _ _ z => z
/-! ### methods of texts -/
def MeS (K : Fg) (W : Ctl) (r : L2.St → V → List V → Hp → VK → Prop) (T : String) (f : D → List D → (D → Prop) → Prop) : Prop := ∀ (is av : Av) (σ : Sg) (H H' : Hp) (x : V) (xs : List V) (dx : D) (ds : List D) (Qd : D → Prop), (∀ a, is a → av a) → (∀ a, av a → H' a ≠ none) → Ext is H H' → Rq K is av H x dx → Rqs K is av H' xs ds → f dx ds Qd →
  ∀ Q : VK, (∀ v H2 d, Qd d → Ex H' H2 → Rp K av H2 v d → Q v H2) → r σ x xs H' Q
def wMe (f : D → List D → (D → Prop) → Prop) (ty : D → Bool) (wa : WE) (wl : WL) : WE := fun G ed Q => wa G ed fun x => ty x = true ∧ wl G ed fun ds => f x ds Q
theorem de_me {r : L2.St → V → List V → Hp → VK → Prop} {T : String} {f : D → List D → (D → Prop) → Prop} {ty : D → Bool} (hty : ∀ is av H v d, ty d = true → Rq K is av H v d → tyV K T v H) (hf : MeS K W r T f) (pe : ∀ i to ta, PE (X i) a to → PA (X i) es ta → PE (X i) e (tBMS K T r to ta)) (ha : DR X K W c1 a wa) (hb : DB X K W c2 es wl) : DE X K W (c1 + c2) e (wMe f ty wa wl) := by
  obtain ⟨ta, pa, sa⟩ := ha
  obtain ⟨tl, pl, sl⟩ := hb
  refine ⟨_, fun i => pe i _ _ (pa i) (pl i), fun P av H0 ed hw n H σ G Qd L h Q q => ?_⟩
  refine sa P av H0 ed hw (n + c2) H σ G _ (L.le (by omega)) h _ fun x H1 dx hx L1 e1 r1 => ⟨hty _ _ _ _ _ hx.1 r1, ?_⟩
  refine sl P av H0 ed hw n H1 σ G _ (L1.le (by omega)) hx.2 _ fun vs H2 ds hd L2 e2 r2 => ?_
  exact hf P.is (avo av σ G) σ H1 H2 x vs dx ds Qd (fun _ => L2.isAvo) (fun _ => L2.avoNe) e2 r1 r2 hd Q fun v H3 d hd ex rv => q v H3 d hd (L2.growEx ex) (e1.trans (e2.trans (Ex.ext ex))) rv
def isStr : D → Bool
  | .str _ => true | _ => false
theorem str_ty {is av : Av} {H : Hp} {v : V} {d : D} (h : isStr d = true) (r : Rq K is av H v d) : tyV K "str" v H := by
  cases d <;> first | (simp [isStr] at h; done) | (cases r; rfl)
def fIndex : D → List D → (D → Prop) → Prop
  | .str a, [.str b], Q => onO (Txt.index0 a b) fun k => Q (.int (k : Nat))
  | _, _, _ => False
theorem meIndex : MeS K W (rIndexX W.w) "str" fIndex := by
  intro is av σ H H' x xs dx ds Qd hi ha ex rx rs h Q q
  obtain ⟨a, b, rfl, rfl⟩ : ∃ a b, dx = .str a ∧ ds = [.str b] := by
    unfold fIndex at h
    split at h
    · exact ⟨_, _, rfl, rfl⟩
    · exact h.elim
  obtain ⟨k, hk, h⟩ := onO_of h
  cases rx
  cases rs with
  | cons r rr =>
    cases rr
    cases r
    refine ⟨_, _, rfl, rfl, fun k' e' => ?_, fun e' => by rw [hk] at e'; exact nomatch e'⟩
    rw [hk] at e'
    cases e'
    exact q _ H' _ h (fun _ _ z => z) (.int _)
theorem de_index (hK : ∀ i, (X i).K = K) (hc : ∀ i, (X i).calm = true) (tk : ∀ i, Takes (X i) W.w) (ha : DR X K W c1 a wa) (hb : DB X K W c2 [e] wl)
    (hbase : ∀ i, attributeBase a "index" (X i).env (eval a (X i).env) = eval a (X i).env := by intro _; rfl)
    (hfew : ∀ i, ((backTo cpos (starEach [e] (X i).env)).all (fun x => !x.1) && (backToKw cpos (keywordEach [] (X i).env)).all (fun x => x.1.isSome) && decide ([e].length + ([] : List Keyword).length + (if ([] : List Keyword).isEmpty then 0 else 1) < 30)) = true := by intro _; rfl)
    (hline : (apos.endLine == cpos.line) = true := by rfl) (hs : ∀ i, starEach [e] (X i).env = (false, eval e (X i).env) :: starEach [] (X i).env := by intro _; rfl) : DE X K W (c1 + c2) (.Call (.Attribute a "index" apos) [e] [] cpos) (wMe fIndex isStr wa wl) :=
  de_me (T := "str") (fun _ _ _ _ _ => str_ty) meIndex (fun i _ _ pa pl => by rw [← hK i]; exact pe_bmS PySem.F.plainAttrs_str PySem.F.slot_str_index PySem.F.type_str_index (mt_indexX (hc i) (tk i)) pa pl (hbase i) (hfew i) hline (hs i)) ha hb
/-! ### a def of the text, called -/
abbrev WF := List D → (Value → Prop) → (D → Prop) → Prop
def spOf (K : Fg) (np : Nat) (Wf : WF) : Sp := fun vs H Q E => vs.length = np ∧ ∃ (av : Av) (ds : List D) (ed : Value → Prop) (Qd : D → Prop), (∀ a, av a → H a ≠ none) ∧ Rps K av H vs ds ∧ Wf ds ed Qd ∧ (∀ cls H', ed cls → Ex H H' → E cls none H') ∧ ∀ v H' d, Qd d → Ex H H' → Rp K av H' v d → Q v H'
structure DFn (P : Program) (w : World) (K : Fg) (mg : Str → Option Value) (base : Heap) (x : Str) (k np : Nat) (Wf : WF) : Prop where
  len : ∀ ds ed Q, Wf ds ed Q → ds.length = np
  ex : ∃ (f : Addr) (fd : FuncData) (ps : List Str), mg x = some (.ref f) ∧ PySem.W.keepIn K (.ref f) = true ∧ Binds K fd ps [] ∧ FnOk P w K mg base (L2.CX P w) k f fd ps (spOf K np Wf)
def Fam {ι : Type} (X : ι → Cx) (P : Program) (w : World) (K : Fg) (mg : Str → Option Value) (base : Heap) : Prop := ∀ i, (X i).prog = P ∧ (X i).w = w ∧ (X i).K = K ∧ (X i).mg = mg ∧ (X i).base = base
def wCall (Wf : WF) (wl : WL) : WE := fun G ed Q => wl G ed fun ds => Wf ds ed Q
theorem de_call {P : Program} {w : World} {mg : Str → Option Value} {base : Heap} {x : Str} {k kk np : Nat} {Wf : WF} (F : DFn P w K mg base x k np Wf) (hF : Fam X P w K mg base) (tk : ∀ i, Takes (X i) W.w) (hr : ∀ i, Room kk (X i).A) (h : DA X K W c (e :: es) wl) (hk : k ≤ kk := by decide) 
    (hg : ∀ i, Gl (X i) x := by intro _; rfl) (hdb : (x == ("__debug__" : Str)) = false := by decide) (he : ∀ i, starEach (e :: es) (X i).env = (false, eval e (X i).env) :: starEach es (X i).env := by intro _; rfl) (hpl : ∀ i, (backTo pos (starEach es (X i).env)).any (·.1) = false := by intro _; rfl) :
    DE X K W c (.Call (.Name x p) (e :: es) [] pos) (wCall Wf wl) := by
  obtain ⟨ta, pa, s⟩ := h
  obtain ⟨f, fd, ps, h1, h2, h3, h4⟩ := F.ex
  refine ⟨tCallS (spOf K np Wf) (L2.WE W.w) ta, fun i => ?_, fun P' av H0 ed hw n H σ G Qd L h Q q => ?_⟩
  · obtain ⟨e1, e2, e3, e4, e5⟩ := hF i
    subst e1; subst e2; subst e3; subst e4; subst e5
    exact pe_callS (h4.mono (Nat.le_refl _)) ((hr i).mono hk) (hg i) h1 h2 h3 (fun σ => passAt (tk i) σ) (pa i) hdb (he i) (hpl i)
  · refine s P' av H0 ed hw n H σ G _ L h _ fun vs H1 ds hd L1 e1 r1 => ?_
    refine ⟨by rw [r1.len]; exact F.len ds ed Qd hd, avo av σ G, ds, ed, Qd, fun _ => L1.avoNe, r1, hd, fun cls H' hc ex => ?_, fun v H' d hd ex r => ?_⟩
    · exact hw.2 cls σ H' hc (L1.ext.trans (Ex.ext ex))
    · exact q v H' d hd (L1.growEx ex) (e1.trans (Ex.ext ex)) r
end
end DL

namespace DL
open PySem PySem.Spec PyProof.Rows L2
/-! ### what is walked -/
structure Walks (P : Pn) (K : Fg) (av : Av) (H0 : Hp) (J : It) (ds : List D) : Prop where
  ex : ∃ (G : Hp → Prop) (Y : Nat → Hp → V → Hp → Prop), Walk J ds.length G Y ∧ (∀ H', Ext av H0 H' → G H') ∧
    ∀ (i : Nat) (x : V) (H1 H2 : Hp) (av2 : Av), i < ds.length → (∀ a, H0 a ≠ none → av2 a → av a) → (∀ a, av2 a → H1 a ≠ none) → Ext av H0 H1 → Y i H1 x H2 → ∃ d, ds[i]? = some d ∧ Ex H1 H2 ∧ Rp K av2 H2 x d
def DI {ι : Type} (X : ι → Cx) (K : Fg) (W : Ctl) (c : Nat) (tg it : Expr) (w : WL) : Prop := ∃ wi, (∀ i, PI (X i) tg it wi) ∧ ∀ (P : Pn) (av : Av) (H0 : Hp) (ed : Value → Prop), HW W P H0 ed → ∀ (n : Nat) (H : Hp) (σ : Sg) (G : Gm) (Qd : List D → Prop),
  LocOk P K av H0 (n + c) H σ G → w G ed Qd → ∀ R : It → Hp → Prop, (∀ J H' ds, Qd ds → LocOk P K av H0 n H' σ G → Ext P.is H H' → Walks P K (avo av σ G) H' J ds → R J H') → wi σ H R
section
variable {K : Fg} {av : Av} {H : Hp} {P : Pn} {xs : List V} {ds : List D} {a : Addr}
theorem walks_list (n : NL av H a xs) (r : Rps K av H xs ds) : Walks P K av H (Itl K a) ds := by
  refine ⟨fun H => SqL K H a xs, _, by rw [← r.len]; exact walk_list, fun H' e => .inl (.inl (e a _ n.2 n.1)), fun i x H1 H2 av2 hi h2 ha e y => ?_⟩
  obtain ⟨rfl, hx⟩ := y
  obtain ⟨d, hd⟩ : ∃ d, ds[i]? = some d := ⟨_, List.getElem?_eq_getElem hi⟩
  obtain ⟨v, e1, e2⟩ := r.get hd
  rw [hx] at e1
  cases e1
  exact ⟨d, hd, fun _ _ z => z, e2.ext e (fun _ z => z) h2⟩
theorem walks_tup (n : NT K av H a xs) (r : Rps K av H xs ds) : Walks P K av H (Itt K a) ds := by
  refine ⟨_, _, by rw [← r.len]; exact walk_tup, fun H' e => (n.ext e (fun _ z => z) (fun _ _ z => z)).sq, fun i x H1 H2 av2 hi h2 ha e y => ?_⟩
  obtain ⟨rfl, hx⟩ := y
  obtain ⟨d, hd⟩ : ∃ d, ds[i]? = some d := ⟨_, List.getElem?_eq_getElem hi⟩
  obtain ⟨v, e1, e2⟩ := r.get hd
  rw [hx] at e1
  cases e1
  exact ⟨d, hd, fun _ _ z => z, e2.ext e (fun _ z => z) h2⟩
def chars (z : Str) : List D := z.cps.toList.map fun c => .str ⟨#[c]⟩
theorem walks_str (z : Str) : Walks P K av H (Its z) (chars z) := by
  have el : (chars z).length = z.cps.size := by unfold chars; rw [List.length_map, Array.length_toList]
  refine ⟨_, _, by rw [el]; exact walk_str, fun _ _ => trivial, fun i x H1 H2 av2 hi h2 ha e y => ?_⟩
  obtain ⟨rfl, c, hc, rfl⟩ := y
  refine ⟨.str ⟨#[c]⟩, ?_, fun _ _ z => z, .str _⟩
  unfold chars
  rw [List.getElem?_map, Array.getElem?_toList, hc]
  rfl
def rngD (lo : Int) (n : Nat) : List D := (List.range n).map fun k => .int (lo + (k : Nat))
theorem walks_range (lo : Int) (n : Nat) : Walks P K av H (Itr lo n) (rngD lo n) := by
  have el : (rngD lo n).length = n := by unfold rngD; rw [List.length_map, List.length_range]
  refine ⟨_, _, by rw [el]; exact walk_range, fun _ _ => trivial, fun i x H1 H2 av2 hi h2 ha e y => ?_⟩
  obtain ⟨rfl, rfl⟩ := y
  refine ⟨.int (lo + i), ?_, fun _ _ z => z, .int _⟩
  rw [el] at hi
  unfold rngD
  rw [List.getElem?_map, List.getElem?_range hi]
  rfl
def enum (xs : List D) : List D := xs.zipIdx.map fun p => .tup [.int (p.2 : Nat), p.1]
theorem walks_enum (n : NL av H a xs) (r : Rps K av H xs ds) : Walks P K av H (Ite K a) (enum ds) := by
  have el : (enum ds).length = xs.length := by unfold enum; rw [List.length_map, List.length_zipIdx, r.len]
  refine ⟨fun H => SqL K H a xs, _, by rw [el]; exact walk_enum, fun H' e => .inl (.inl (e a _ n.2 n.1)), fun i x H1 H2 av2 hi h2 ha e y => ?_⟩
  obtain ⟨T, u, v, rfl, nT, rfl, hu, hv⟩ := y
  cases hu
  rw [el, r.len] at hi
  obtain ⟨d, hd⟩ : ∃ d, ds[i]? = some d := ⟨_, List.getElem?_eq_getElem hi⟩
  obtain ⟨v', e1, e2⟩ := r.get hd
  rw [show xs[i]? = some v from hv] at e1
  cases e1
  refine ⟨.tup [.int (i : Nat), d], ?_, ex_new nT, .tup (.inl ⟨upd_same, fun z => ha T z nT⟩) (.cons (.int _) (.cons ?_ .nil))⟩
  · unfold enum
    rw [List.getElem?_map, List.getElem?_zipIdx, hd]
    simp
  · exact (e2.ext e (fun _ z => z) h2 : Rp K av2 H1 v d).ext (is := fun _ => False) (.new nT) (fun _ z => z.elim) (fun _ _ z => z)
end
section
variable {X : Cx} {tg it : Expr} {te : TE}
/-- a list, a tuple or a text is walked -/
theorem pi_seq (he : PE X it te) : PI X tg it (fun σ H R => te σ H fun x H1 => (∃ a xs, x = .ref a ∧ SqL X.K H1 a xs ∧ R (Itl X.K a) H1) ∨ (∃ a xs, x = .ref a ∧ SqT X.K H1 a xs ∧ R (Itt X.K a) H1) ∨ ∃ z, x = .str z ∧ R (Its z) H1) := by
  refine ⟨fun pins s σ H R I hyp => thn (he.run pins s σ H _ I hyp) ?_⟩
  rintro v s1 ⟨x, H1, I1, rx, ⟨a, xs, rfl, hs, q⟩ | ⟨a, xs, rfl, hs, q⟩ | ⟨z, rfl, q⟩⟩
  · cases rx
    obtain ⟨its, rv, pl, hz⟩ := I1.list hs
    exact wpAny_pyIter_list pl.isList (pi_one (tk := s1.toks) I1 _ (turn_list a _) ⟨_, Heap.get?_push_size _ rfl, rfl, rfl⟩ q)
  · cases rx
    obtain ⟨its, rv, pl, hz⟩ := I1.tuple hs
    exact wpAny_pyIter_tuple pl (pi_one (tk := s1.toks) I1 _ (turn_tuple a _) ⟨_, Heap.get?_push_size _ rfl, rfl, rfl⟩ q)
  · obtain ⟨t, rfl⟩ := rx
    cases wide : z.cps.all (· < 128) with
    | false => exact wpAny_pyIter_wide wide (pi_one (tk := s1.toks) I1 _ (turn_str _ z t _ (.inr rfl)) ⟨_, Heap.get?_push_size _ rfl, rfl, rfl⟩ q)
    | true => exact wpAny_pyIter_ascii wide (pi_one (tk := s1.toks) I1 _ (turn_str _ z t _ (.inl rfl)) ⟨_, Heap.get?_push_size _ rfl, rfl, rfl⟩ q)
end
section
variable {ι : Type} {X : ι → Cx} {K : Fg} {W : Ctl} {c c1 c2 c3 : Nat} {e a b t tg it : Expr} {es : List Expr} {w wa wb wc : WE} {wt wu : WT} {wl : WL} {pos p apos cpos : Pos}
def itemsD : D → Option (List D)
  | .lst xs => some xs | .tup xs => some xs | .str z => some (chars z) | _ => none
def wSeq (w : WE) : WL := fun G ed Q => w G ed fun d => onO (itemsD d) Q
theorem di_seq (hK : ∀ i, (X i).K = K) (h : DE X K W c it w) : DI X K W c tg it (wSeq w) := by
  obtain ⟨te, pe, s⟩ := h
  refine ⟨fun σ H R => te σ H fun x H1 => (∃ a xs, x = .ref a ∧ SqL K H1 a xs ∧ R (Itl K a) H1) ∨ (∃ a xs, x = .ref a ∧ SqT K H1 a xs ∧ R (Itt K a) H1) ∨ ∃ z, x = .str z ∧ R (Its z) H1, fun i => (by rw [← hK i]; exact pi_seq (pe i)), fun P av H0 ed hw n H σ G Qd L h R q => s P av H0 ed hw n H σ G _ L h _ fun v H1 d hd L1 e1 r => ?_⟩
  obtain ⟨ds, h1, h2⟩ := onO_of hd
  cases r with
  | lst nn r => cases h1; exact .inl ⟨_, _, rfl, nn.sq, q _ _ _ h2 L1 e1 (walks_list nn r)⟩
  | tup nn r => cases h1; exact .inr (.inl ⟨_, _, rfl, nn.sq, q _ _ _ h2 L1 e1 (walks_tup nn r)⟩)
  | str z => cases h1; exact .inr (.inr ⟨z, rfl, q _ _ _ h2 L1 e1 (walks_str z)⟩)
  | _ => simp [itemsD] at h1
def int1 : List D → (Int → Prop) → Prop
  | [.int j], Q => Q j
  | _, _ => False
theorem int1_of {ds : List D} {Q : Int → Prop} (h : int1 ds Q) : ∃ j, ds = [.int j] ∧ Q j := by
  unfold int1 at h
  split at h
  · exact ⟨_, rfl, h⟩
  · exact h.elim
def int2 : List D → (Int → Int → Prop) → Prop
  | [.int i, .int j], Q => Q i j
  | _, _ => False
theorem int2_of {ds : List D} {Q : Int → Int → Prop} (h : int2 ds Q) : ∃ i j, ds = [.int i, .int j] ∧ Q i j := by
  unfold int2 at h
  split at h
  · exact ⟨_, _, rfl, h⟩
  · exact h.elim
def wRng1 (wl : WL) : WL := fun G ed Q => wl G ed fun ds => int1 ds fun j => -(2 ^ 62) ≤ j ∧ j < 2 ^ 62 ∧ Q (rngD 0 j.toNat)
theorem di_range1 (hm : ∀ i, (X i).mg "range" = none) (h : DB X K W c [e] wl) (hg : ∀ i, Gl (X i) "range" := by intro _; rfl) (hs : ∀ i, starEach [e] (X i).env = [(false, eval e (X i).env)] := by intro _; rfl) : DI X K W c tg (.Call (.Name "range" p) [e] [] pos) (wRng1 wl) := by
  obtain ⟨ta, pa, s⟩ := h
  refine ⟨_, fun i => pi_range1 (hg i) (hm i) (pa i) (hs i), fun P av H0 ed hw n H σ G Qd L h R q => s P av H0 ed hw n H σ G _ L h _ fun vs H1 ds hd L1 e1 r => ?_⟩
  obtain ⟨j, rfl, h1, h2, h3⟩ := int1_of hd
  cases r with
  | cons r rr =>
    cases rr; cases r
    exact ⟨j, rfl, h1, h2, q _ _ _ h3 L1 e1 (walks_range 0 _)⟩
def wRng2 (wl : WL) : WL := fun G ed Q => wl G ed fun ds => int2 ds fun i j => (-(2 ^ 62) ≤ i ∧ i < 2 ^ 62 ∧ -(2 ^ 62) ≤ j ∧ j < 2 ^ 62) ∧ Q (rngD i (j - i).toNat)
theorem di_range2 {e2 : Expr} (hm : ∀ i, (X i).mg "range" = none) (h : DB X K W c [e, e2] wl) (hg : ∀ i, Gl (X i) "range" := by intro _; rfl) (hs : ∀ i, starEach [e, e2] (X i).env = [(false, eval e (X i).env), (false, eval e2 (X i).env)] := by intro _; rfl) (hs2 : ∀ i, starEach [e2] (X i).env = [(false, eval e2 (X i).env)] := by intro _; rfl) : DI X K W c tg (.Call (.Name "range" p) [e, e2] [] pos) (wRng2 wl) := by
  obtain ⟨ta, pa, s⟩ := h
  refine ⟨_, fun i => pi_range2 (hg i) (hm i) (pa i) (hs i) (hs2 i), fun P av H0 ed hw n H σ G Qd L h R q => s P av H0 ed hw n H σ G _ L h _ fun vs H1 ds hd L1 e1 r => ?_⟩
  obtain ⟨i, j, rfl, h1, h3⟩ := int2_of hd
  cases r with
  | cons r rr =>
    cases rr with
    | cons r2 rr =>
      cases rr; cases r; cases r2
      exact ⟨i, j, rfl, h1, q _ _ _ h3 L1 e1 (walks_range i _)⟩
def lst1 : List D → (List D → Prop) → Prop
  | [.lst xs], Q => Q xs
  | _, _ => False
theorem lst1_of {ds : List D} {Q : List D → Prop} (h : lst1 ds Q) : ∃ xs, ds = [.lst xs] ∧ Q xs := by
  unfold lst1 at h
  split at h
  · exact ⟨_, rfl, h⟩
  · exact h.elim
def wEnum (wl : WL) : WL := fun G ed Q => wl G ed fun ds => lst1 ds fun xs => Q (enum xs)
theorem di_enum {elts : List Expr} {kk : Nat} {tpos : Pos} (hK : ∀ i, (X i).K = K) (hm : ∀ i, (X i).mg "enumerate" = none) (h : DA X K W c [e] wl) (hg : ∀ i, Gl (X i) "enumerate" := by intro _; rfl) (hs : ∀ i, starEach [e] (X i).env = [(false, eval e (X i).env)] := by intro _; rfl) :
    DI X K W c (.Tuple elts kk tpos) (.Call (.Name "enumerate" p) [e] [] pos) (wEnum wl) := by
  obtain ⟨ta, pa, s⟩ := h
  refine ⟨iEnum K ta, fun i => (by rw [← hK i]; exact pi_enum (hg i) (hm i) (pa i) (hs i)), fun P av H0 ed hw n H σ G Qd L h R q => s P av H0 ed hw n H σ G _ L h _ fun vs H1 ds hd L1 e1 r => ?_⟩
  obtain ⟨xs, rfl, h3⟩ := lst1_of hd
  cases r with
  | cons r rr =>
    cases rr
    cases r with
    | lst nn r => exact ⟨_, _, rfl, nn.sq, q _ _ _ h3 L1 e1 (walks_enum nn r)⟩
/-! ### targets -/
abbrev WG := D → Gm → (Gm → Prop) → Prop
theorem getElem?_set_self' {α : Type} {l : List α} {i : Nat} {x y : α} (h : (l.set i x)[i]? = some y) : y = x := by
  rw [List.getElem?_set] at h
  split at h
  · split at h
    · exact (Option.some.inj h).symm
    · exact nomatch h
  · rename_i z; exact absurd rfl z
/-- a slot is given a datum (or nothing) -/
theorem LocOk.put {P : Pn} {K : Fg} {av : Av} {H0 H : Hp} {n : Nat} {σ : Sg} {G : Gm} {i : Nat} {v : Option V} {s : Slot} (L : LocOk P K av H0 n H σ G) (h : SlotOk K (avo av σ G) H s v) (hs : ∀ ds, s ≠ .own ds) :
    LocOk P K av H0 n H (σ.set i v) (G.set i s) ∧ ∀ a, Own (σ.set i v) (G.set i s) a → Own σ G a := by
  have own : ∀ a, Own (σ.set i v) (G.set i s) a → Own σ G a := by
    rintro a ⟨j, ds, h1, h2⟩
    by_cases e : j = i
    · subst e
      exact absurd (getElem?_set_self' h1).symm (hs ds)
    · rw [List.getElem?_set_ne (Ne.symm e)] at h1 h2
      exact ⟨j, ds, h1, h2⟩
  have am : ∀ a, H a ≠ none → avo av (σ.set i v) (G.set i s) a → avo av σ G a := fun a _ z => z.elim .inl fun z => .inr (own a z)
  refine ⟨⟨by rw [List.length_set, List.length_set]; exact L.len, fun j s' hj => ?_, fun j k ds es a h1 h2 h3 h4 => ?_, L.ext, fun a z => L.fr a (own a z), L.ok, L.pav, L.al⟩, own⟩
  · by_cases e : j = i
    · subst e
      have q := getElem?_set_self' hj
      subst q
      have hl : j < σ.length := by
        rw [← L.len]
        by_cases k : j < G.length
        · exact k
        · rw [List.getElem?_eq_none (by rw [List.length_set]; omega)] at hj
          exact nomatch hj
      exact ⟨v, List.getElem?_set_self hl, h.shrink am⟩
    · rw [List.getElem?_set_ne (Ne.symm e)] at hj
      obtain ⟨o, e1, e2⟩ := L.sl j s' hj
      exact ⟨o, by rw [List.getElem?_set_ne (Ne.symm e)]; exact e1, e2.shrink am⟩
  · have nj : ∀ {j : Nat} {ds : D}, (G.set i s)[j]? = some (Slot.own ds) → j ≠ i := fun h e => by
      subst e
      exact absurd (getElem?_set_self' h).symm (hs _)
    have e1 := nj h1
    have e2 := nj h2
    rw [List.getElem?_set_ne (Ne.symm e1)] at h1 h3
    rw [List.getElem?_set_ne (Ne.symm e2)] at h2 h4
    exact L.inj j k ds es a h1 h2 h3 h4
/-- a slot is given a new list that is the def's own -/
theorem LocOk.putOwn {P : Pn} {K : Fg} {av : Av} {H0 H H' : Hp} {n m : Nat} {σ : Sg} {G : Gm} {i : Nat} {p : Addr} {u : HO} {xs : List V} {dd : D} {ds : List D} (L : LocOk P K av H0 m H σ G) (L' : LocOk P K av H0 n H' σ G) (e : Ext P.is H H') (hn : H p = none) (hp : H' p = some u) (sh : Shp dd u xs ds)
    (r : Rps K (avp (avo av σ G) p) H' xs ds) : LocOk P K av H0 n H' (σ.set i (some (.ref p))) (G.set i (.own dd)) ∧ ∀ a, Own (σ.set i (some (.ref p))) (G.set i (.own dd)) a → Own σ G a ∨ a = p := by
  have own : ∀ a, Own (σ.set i (some (.ref p))) (G.set i (.own dd)) a → Own σ G a ∨ a = p := by
    rintro a ⟨j, es, h1, h2⟩
    by_cases q : j = i
    · subst q
      have z := getElem?_set_self' h2
      cases z
      exact .inr rfl
    · rw [List.getElem?_set_ne (Ne.symm q)] at h1 h2
      exact .inl ⟨j, es, h1, h2⟩
  have np : ¬ avo av σ G p := fun z => L.avoNe z hn
  have am : ∀ a, H a ≠ none → avo av (σ.set i (some (.ref p))) (G.set i (.own dd)) a → avo av σ G a := fun a k z => z.elim .inl fun z => (own a z).elim .inr fun z => absurd (z ▸ hn) k
  have am2 : ∀ a, H' a ≠ none → avo av (σ.set i (some (.ref p))) (G.set i (.own dd)) a → avp (avo av σ G) p a := fun a k z => z.elim (fun z => .inl (.inl z)) fun z => (own a z).elim (fun z => .inl (.inr z)) .inr
  have hl : ∀ {j : Nat} {s : Slot}, (G.set i (.own dd))[j]? = some s → j < σ.length := fun {j s} h => by
    rw [← L.len]
    by_cases k : j < G.length
    · exact k
    · rw [List.getElem?_eq_none (by rw [List.length_set]; omega)] at h
      exact nomatch h
  refine ⟨⟨by rw [List.length_set, List.length_set]; exact L.len, fun j s' hj => ?_, fun j k ds1 es a h1 h2 h3 h4 => ?_, L'.ext, fun a z => ?_, L'.ok, L.pav, L.al⟩, own⟩
  · by_cases q : j = i
    · subst q
      have z := getElem?_set_self' hj
      subst z
      exact ⟨_, List.getElem?_set_self (hl hj), p, u, xs, ds, rfl, hp, sh, r.ext (is := fun _ => False) (.refl _ _) (fun _ z => z.elim) am2⟩
    · have hj0 := hj
      rw [List.getElem?_set_ne (Ne.symm q)] at hj
      obtain ⟨o, e1, e2⟩ := L.sl j s' hj
      refine ⟨o, by rw [List.getElem?_set_ne (Ne.symm q)]; exact e1, ?_⟩
      cases s' with
      | un => trivial
      | dat d => obtain ⟨v, k1, k2⟩ := e2; exact ⟨v, k1, k2.ext e (fun _ => L.isAvo) am⟩
      | own es => obtain ⟨a, w, zs, fs, k1, k2, k4, k3⟩ := e2; exact ⟨a, w, zs, fs, k1, e a _ (L.ownIs ⟨j, es, hj, by rw [e1, k1]⟩) k2, k4, k3.ext e (fun _ => L.isAvo) am⟩
  · have old : ∀ {j : Nat} {ds1 : D}, j ≠ i → (G.set i (.own dd))[j]? = some (Slot.own ds1) → (σ.set i (some (.ref p)))[j]? = some (some (.ref p)) → False := fun {j ds1} q h1 h2 => by
      rw [List.getElem?_set_ne (Ne.symm q)] at h1 h2
      exact np (.inr ⟨j, ds1, h1, h2⟩)
    by_cases q1 : j = i
    · by_cases q2 : k = i
      · exact q1.trans q2.symm
      · rw [q1] at h3
        have z := getElem?_set_self' h3
        cases z
        exact (old q2 h2 h4).elim
    · by_cases q2 : k = i
      · rw [q2] at h4
        have z := getElem?_set_self' h4
        cases z
        exact (old q1 h1 h3).elim
      · rw [List.getElem?_set_ne (Ne.symm q1)] at h1 h3
        rw [List.getElem?_set_ne (Ne.symm q2)] at h2 h4
        exact L.inj j k ds1 es a h1 h2 h3 h4
  · rcases own a z with z | rfl
    · exact L.fr a z
    · exact L.ext.none (fun k => np (.inl (L.pav _ k))) hn
/-- what a def owned is not its own any more -/
theorem LocOk.frz {P : Pn} {K : Fg} {av : Av} {H0 H : Hp} {n : Nat} {σ : Sg} {G : Gm} {i : Nat} {ds : D} (L : LocOk P K av H0 n H σ G) (h : G[i]? = some (.own ds)) : LocOk P K av H0 n H σ (G.set i (.dat ds)) ∧ ∀ a, Own σ (G.set i (.dat ds)) a → Own σ G a := by
  obtain ⟨o, h1, a, u, xs, fs, h2, h3, sh, r⟩ := L.sl i _ h
  subst h2
  have own : ∀ b, Own σ (G.set i (.dat ds)) b → Own σ G b ∧ b ≠ a := by
    rintro b ⟨j, es, k1, k2⟩
    by_cases e : j = i
    · subst e
      exact absurd (getElem?_set_self' k1) (fun z => nomatch z)
    · rw [List.getElem?_set_ne (Ne.symm e)] at k1
      refine ⟨⟨j, es, k1, k2⟩, fun z => ?_⟩
      subst z
      exact e (L.inj j i es ds b k1 h k2 h1)
  have am : ∀ b, H b ≠ none → avo av σ (G.set i (.dat ds)) b → avo av σ G b := fun b _ z => z.elim .inl fun z => .inr (own b z).1
  refine ⟨⟨by rw [List.length_set]; exact L.len, fun j s' hj => ?_, fun j k ds1 es b k1 k2 k3 k4 => ?_, L.ext, fun b z => L.fr b (own b z).1, L.ok, L.pav, L.al⟩, fun b z => (own b z).1⟩
  · by_cases e : j = i
    · subst e
      have z := getElem?_set_self' hj
      subst z
      have na : ¬ avo av σ (G.set j (.dat ds)) a := fun z => z.elim (fun z => L.al a z (L.fr a ⟨j, ds, h, h1⟩)) fun z => (own a z).2 rfl
      have r' := r.ext (is := fun _ => False) (.refl _ _) (fun _ z => z.elim) am
      refine ⟨_, h1, _, rfl, ?_⟩
      cases sh with
      | lst => exact .lst ⟨h3, na⟩ r'
      | dic hl => exact .dic ⟨h3, na⟩ hl r'
    · rw [List.getElem?_set_ne (Ne.symm e)] at hj
      obtain ⟨o, e1, e2⟩ := L.sl j s' hj
      exact ⟨o, e1, e2.shrink am⟩
  · have nj : ∀ {j : Nat} {es : D}, (G.set i (.dat ds))[j]? = some (Slot.own es) → j ≠ i := fun h e => by
      subst e
      exact absurd (getElem?_set_self' h) (fun z => nomatch z)
    rw [List.getElem?_set_ne (Ne.symm (nj k1))] at k1
    rw [List.getElem?_set_ne (Ne.symm (nj k2))] at k2
    exact L.inj j k ds1 es b k1 k2 k3 k4
end
end DL

namespace DL
open PySem PySem.Spec PyProof.Rows L2
/-! ### targets -/
theorem wipe_put : ∀ (vs : List Nat) (σ : Sg) (i : Nat) (o : Option V), i ∈ vs → wipe (σ.set i o) vs = wipe σ vs
  | [], _, _, _, h => nomatch h
  | v :: vs, σ, i, o, h => by
    show (wipe (σ.set i o) vs).set v none = (wipe σ vs).set v none
    by_cases k : i ∈ vs
    · rw [wipe_put vs σ i o k]
    · have e : i = v := by
        rcases List.mem_cons.mp h with h | h
        · exact h
        · exact absurd h k
      subst e
      have far : ∀ (us : List Nat) (τ : Sg), i ∉ us → wipe (τ.set i o) us = (wipe τ us).set i o := by
        intro us
        induction us with
        | nil => intro τ _; rfl
        | cons u us ih =>
          intro τ hn
          show (wipe (τ.set i o) us).set u none = ((wipe τ us).set u none).set i o
          rw [ih τ fun z => hn (List.mem_cons_of_mem _ z)]
          exact List.set_comm _ _ (fun z => hn (by rw [z]; exact List.mem_cons_self))
      rw [far vs σ k, List.set_set]
theorem wipe_wipe : ∀ (vs us : List Nat) (σ : Sg), (∀ v ∈ us, v ∈ vs) → wipe (wipe σ us) vs = wipe σ vs
  | vs, [], σ, _ => rfl
  | vs, u :: us, σ, h => by
    show wipe ((wipe σ us).set u none) vs = wipe σ vs
    rw [wipe_put vs _ u none (h u List.mem_cons_self)]
    exact wipe_wipe vs us σ fun v hv => h v (List.mem_cons_of_mem _ hv)
def DG {ι : Type} (X : ι → Cx) (K : Fg) (is : List Nat) (tg : Expr) (w : WG) : Prop := ∃ g, (∀ i, PG (X i) tg g) ∧ ∀ (P : Pn) (av : Av) (H0 : Hp) (n : Nat) (H : Hp) (σ : Sg) (G : Gm) (v : V) (d : D) (Qd : Gm → Prop),
  LocOk P K av H0 n H σ G → Rp K (avo av σ G) H v d → w d G Qd → ∀ Q : L2.St → Hp → Prop, (∀ σ' G', Qd G' → LocOk P K av H0 n H σ' G' → (∀ a, Own σ' G' a → Own σ G a) → (∀ vs, (∀ i ∈ is, i ∈ vs) → wipe σ' vs = wipe σ vs) → Q σ' H) → g v σ H Q
def DGs {ι : Type} (X : ι → Cx) (K : Fg) (is : List Nat) (tg : List Expr) (w : List D → Gm → (Gm → Prop) → Prop) : Prop := ∃ g, (∀ i, PGs (X i) tg g) ∧ ∀ (P : Pn) (av : Av) (H0 : Hp) (n : Nat) (H : Hp) (σ : Sg) (G : Gm) (v : List V) (d : List D) (Qd : Gm → Prop),
  LocOk P K av H0 n H σ G → Rps K (avo av σ G) H v d → w d G Qd → ∀ Q : L2.St → Hp → Prop, (∀ σ' G', Qd G' → LocOk P K av H0 n H σ' G' → (∀ a, Own σ' G' a → Own σ G a) → (∀ vs, (∀ i ∈ is, i ∈ vs) → wipe σ' vs = wipe σ vs) → Q σ' H) → g v σ H Q
section
variable {ι : Type} {X : ι → Cx} {K : Fg} {W : Ctl} {c c1 c2 c3 ci ct ce : Nat} {e a b t tg it elt : Expr} {es : List Expr} {w wa wb wc : WE} {wt wu : WT} {wl wi : WL} {pos p apos cpos : Pos}
def gN (i : Nat) : WG := fun d G Q => Q (G.set i (.dat d))
theorem dg_pg {i : Nat} {x : Str} (h : ∀ j, PG (X j) (.Name x pos) (gName i)) : DG X K [i] (.Name x pos) (gN i) := by
  refine ⟨_, h, fun P av H0 n H σ G v d Qd L r h Q q => ?_⟩
  obtain ⟨L', o⟩ := L.put (i := i) (v := some v) (s := .dat d) ⟨v, rfl, r⟩ fun _ => fun z => nomatch z
  exact q _ _ h L' o fun vs hv => wipe_put vs σ i _ (hv i List.mem_cons_self)
def gsN : List D → Gm → (Gm → Prop) → Prop := fun ds G Q => ds = [] ∧ Q G
def gsC (g : WG) (u : List D → Gm → (Gm → Prop) → Prop) : List D → Gm → (Gm → Prop) → Prop := fun ds G Q => match ds with
  | [] => False
  | d :: r => g d G fun G1 => u r G1 Q
theorem dgs_nil : DGs X K [] [] gsN := by
  refine ⟨_, fun _ => pgs_nil, fun P av H0 n H σ G v d Qd L r h Q q => ?_⟩
  obtain ⟨rfl, h⟩ := h
  cases r
  exact ⟨rfl, q _ _ h L (fun _ z => z) fun _ _ => rfl⟩
theorem dgs_cons {is js : List Nat} {g : WG} {u : List D → Gm → (Gm → Prop) → Prop} (h1 : DG X K is e g) (h2 : DGs X K js es u) (hs : ∀ i, (assignEach (e :: es) (X i).env).map (·.2) = assign e (X i).env :: (assignEach es (X i).env).map (·.2) := by intro _; rfl) : DGs X K (is ++ js) (e :: es) (gsC g u) := by
  obtain ⟨g1, p1, s1⟩ := h1
  obtain ⟨g2, p2, s2⟩ := h2
  refine ⟨_, fun i => pgs_cons (p1 i) (p2 i) (hs i), fun P av H0 n H σ G v d Qd L r h Q q => ?_⟩
  cases r with
  | nil => exact h.elim
  | cons r rr =>
    refine ⟨_, _, rfl, s1 P av H0 n H σ G _ _ _ L r h _ fun σ' G' h' L' o' k' => ?_⟩
    refine s2 P av H0 n H σ' G' _ _ _ L' (rr.ext (is := fun _ => False) (.refl _ _) (fun _ z => z.elim) fun a _ z => z.elim .inl fun z => .inr (o' a z)) h' _ fun σ2 G2 h2 L2 o2 k2 => ?_
    exact q _ _ h2 L2 (fun a z => o' a (o2 a z)) fun vs hv => (k2 vs fun i hi => hv i (List.mem_append_right _ hi)).trans (k' vs fun i hi => hv i (List.mem_append_left _ hi))
def gT (n : Nat) (u : List D → Gm → (Gm → Prop) → Prop) : WG := fun d G Q => match d with
  | .tup ds => ds.length = n ∧ u ds G Q
  | _ => False
theorem dg_tup {is : List Nat} {k n : Nat} {u : List D → Gm → (Gm → Prop) → Prop} (hK : ∀ i, (X i).K = K) (hc : ∀ i, (X i).calm = true) (h : DGs X K is es u) (hn : ∀ i, (assignEach es (X i).env).length = n := by intro _; rfl) (hst : ∀ i, (assignEach es (X i).env).findIdx? (·.1) = none := by intro _; rfl) :
    DG X K is (.Tuple es k pos) (gT n u) := by
  obtain ⟨g, p, s⟩ := h
  refine ⟨gTup K n g, fun i => (by rw [← hK i]; exact pg_tup (hc i) (p i) (hn i) (hst i)), fun P av H0 n H σ G v d Qd L r h Q q => ?_⟩
  cases r with
  | tup nn r => exact ⟨_, _, rfl, nn.sq, by rw [r.len]; exact h.1, s P av H0 n H σ G _ _ _ L r h.2 _ q⟩
  | _ => exact h.elim
/-! ### comprehensions -/
def SF (K : Fg) (W : Ctl) (c : Nat) (te : TE) (w : WL) : Prop := ∀ (P : Pn) (av : Av) (H0 : Hp) (ed : Value → Prop), HW W P H0 ed → ∀ (n : Nat) (H : Hp) (σ : Sg) (G : Gm) (Qd : List D → Prop),
  LocOk P K av H0 (n + c) H σ G → w G ed Qd → ∀ Q : VK, (∀ p xs H' ds, Qd ds → LocOk P K av H0 n H' σ G → Ext P.is H H' → H p = none → H' p = some (.lst xs) → Rps K (avp (avo av σ G) p) H' xs ds → Q (.ref p) H') → te σ H Q
abbrev BI : Type := Shared × Hp × Addr × List (Str × Addr) × List Addr
abbrev blkF {ι : Type} (X : ι → Cx) (scope : Scope) : ι × BI → Cx := fun q => (X q.1).blk q.2.1 q.2.2.1 scope (compEnvC scope q.2.2.2.2.1 q.2.2.2.1 (X q.1).env) q.2.2.2.2.2
def wipeG (G : Gm) : List Nat → Gm
  | [] => G
  | v :: vs => (wipeG G vs).set v .un
def unO : Slot → Slot
  | .own _ => .un | s => s
def inG (G : Gm) (vs : List Nat) : Gm := (wipeG G vs).map unO
theorem wipeG_len (G : Gm) : ∀ vs : List Nat, (wipeG G vs).length = G.length
  | [] => rfl
  | v :: vs => by
    show ((wipeG G vs).set v .un).length = _
    rw [List.length_set, wipeG_len G vs]
theorem wipeG_dat {G : Gm} {σ : Sg} {i : Nat} {d : D} : ∀ vs : List Nat, (wipeG G vs)[i]? = some (.dat d) → G[i]? = some (.dat d) ∧ (wipe σ vs)[i]? = σ[i]?
  | [], h => ⟨h, rfl⟩
  | v :: vs, h => by
    have h : ((wipeG G vs).set v .un)[i]? = some (.dat d) := h
    by_cases e : v = i
    · subst e
      exact absurd (getElem?_set_self' h) (fun z => nomatch z)
    · rw [List.getElem?_set_ne e] at h
      obtain ⟨h1, h2⟩ := wipeG_dat (σ := σ) vs h
      refine ⟨h1, ?_⟩
      show ((wipe σ vs).set v none)[i]? = _
      rw [List.getElem?_set_ne e]
      exact h2
theorem inG_no {G : Gm} {vs : List Nat} {i : Nat} {ds : D} : (inG G vs)[i]? ≠ some (.own ds) := by
  unfold inG
  rw [List.getElem?_map]
  cases (wipeG G vs)[i]? with
  | none => exact fun z => nomatch z
  | some s => cases s <;> exact fun z => nomatch z
theorem inG_dat {G : Gm} {vs : List Nat} {i : Nat} {d : D} (h : (inG G vs)[i]? = some (.dat d)) : (wipeG G vs)[i]? = some (.dat d) := by
  unfold inG at h
  rw [List.getElem?_map] at h
  cases q : (wipeG G vs)[i]? with
  | none => rw [q] at h; exact nomatch h
  | some s =>
    rw [q] at h
    cases s with
    | dat d' => exact h
    | un => exact nomatch h
    | own _ => exact nomatch h
theorem LocOk.inner {P : Pn} {K : Fg} {av : Av} {H0 H1 H : Hp} {n m : Nat} {σ : Sg} {G : Gm} {D : Addr} (L : LocOk P K av H0 n H1 σ G) (vs : List Nat) (e : Ext P.is H1 H) (k : P.ok m H) (hD : H1 D = none) (hD2 : H D ≠ none) :
    LocOk P K (avp (avo av σ G) D) H m H (wipe σ vs) (inG G vs) := by
  have no : ∀ a, ¬ Own (wipe σ vs) (inG G vs) a := fun a ⟨i, ds, h1, _⟩ => inG_no h1
  refine ⟨by unfold inG; rw [List.length_map, wipeG_len, wipe_length]; exact L.len, fun i s h => ?_, fun i j ds es a h1 _ _ _ => absurd h1 inG_no, .refl _ _, fun a z => absurd z (no a), k, fun a z => .inl (L.isAvo z), fun a z => ?_⟩
  · have hl : i < (wipe σ vs).length := by
      rw [wipe_length, ← L.len, ← wipeG_len G vs, ← List.length_map (f := unO)]
      exact (List.getElem?_eq_some_iff.mp h).1
    cases s with
    | un => exact ⟨_, List.getElem?_eq_getElem hl, trivial⟩
    | own ds => exact absurd h inG_no
    | dat d =>
      obtain ⟨h1, h2⟩ := wipeG_dat (σ := σ) vs (inG_dat h)
      obtain ⟨o, e1, v, e2, r⟩ := L.sl i _ h1
      refine ⟨o, h2.trans e1, v, e2, r.ext e (fun _ => L.isAvo) fun a ka z => ?_⟩
      rcases z with (z | z) | z
      · exact z
      · exact absurd (z ▸ hD) ka
      · exact absurd z (no a)
  · rcases z with z | z
    · exact (L.grow e k).avoNe z
    · rw [z]; exact hD2
def compW (wg : WG) (wt : WT) (we : WE) (G : Gm) : List D → List D → (List D → Prop) → Prop
  | [], acc, Q => Q acc
  | d :: r, acc, Q => wg d G fun G1 => wt G1 (fun _ => False) fun b => fork b (we G1 (fun _ => False) fun y => compW wg wt we G r (acc ++ [y]) Q) (compW wg wt we G r acc Q)
def wLc (cb : Nat) (vs : List Nat) (wi : WL) (wg : WG) (wt : WT) (we : WE) : WL := fun G ed Q => wi G ed fun ds => ds.length < sizeLine ∧ (cb = 0 ∨ ds.length ≤ 256) ∧ compW wg wt we (inG G vs) ds [] Q
def wTt : WT := fun _ _ Q => Q true
theorem sf_lc {is vs : List Nat} {wg : WG} {we : WE} {wi' : TI} {g : TG} {tt : TT} {te : TE}
    (si : ∀ (P : Pn) (av : Av) (H0 : Hp) (ed : Value → Prop), HW W P H0 ed → ∀ (n : Nat) (H : Hp) (σ : Sg) (G : Gm) (Qd : List D → Prop), LocOk P K av H0 (n + ci) H σ G → wi G ed Qd → ∀ R : It → Hp → Prop, (∀ J H' ds, Qd ds → LocOk P K av H0 n H' σ G → Ext P.is H H' → Walks P K (avo av σ G) H' J ds → R J H') → wi' σ H R)
    (sg : ∀ (P : Pn) (av : Av) (H0 : Hp) (n : Nat) (H : Hp) (σ : Sg) (G : Gm) (v : V) (d : D) (Qd : Gm → Prop), LocOk P K av H0 n H σ G → Rp K (avo av σ G) H v d → wg d G Qd → ∀ Q : L2.St → Hp → Prop, (∀ σ' G', Qd G' → LocOk P K av H0 n H σ' G' → (∀ a, Own σ' G' a → Own σ G a) → (∀ vs, (∀ i ∈ is, i ∈ vs) → wipe σ' vs = wipe σ vs) → Q σ' H) → g v σ H Q)
    (stt : ∀ (P : Pn) (av : Av) (H0 : Hp) (ed : Value → Prop), HW W.no P H0 ed → ∀ (n : Nat) (H : Hp) (σ : Sg) (G : Gm) (Qd : Bool → Prop), LocOk P K av H0 (n + ct) H σ G → wt G ed Qd → ∀ Q : Bool → Hp → Prop, (∀ b H', Qd b → LocOk P K av H0 n H' σ G → Ext P.is H H' → Q b H') → tt σ H Q)
    (se : ∀ (P : Pn) (av : Av) (H0 : Hp) (ed : Value → Prop), HW W.no P H0 ed → ∀ (n : Nat) (H : Hp) (σ : Sg) (G : Gm) (Qd : D → Prop), LocOk P K av H0 (n + ce) H σ G → we G ed Qd → ∀ Q : VK, (∀ v H' d, Qd d → LocOk P K av H0 n H' σ G → Ext P.is H H' → Rp K (avo av σ G) H' v d → Q v H') → te σ H Q)
    (hv : ∀ i ∈ is, i ∈ vs) : SF K W (ci + 256 * (ct + ce)) (tLc wi' g tt te vs) (wLc (ct + ce) vs wi wg wt we) := by
  intro P av H0 ed hw n H σ G Qd L h Q q
  refine si P av H0 ed hw (n + 256 * (ct + ce)) H σ G _ (L.le (by omega)) h _ fun J H1 ds hd L1 e1 Wk => ?_
  obtain ⟨hz, hc, hd⟩ := hd
  intro D hD
  obtain ⟨GG, Y, wk, hG, hy⟩ := Wk.ex
  have avD : ¬ avo av σ G D := fun z => L1.avoNe z hD
  have isD : ¬ P.is D := fun z => avD (L1.isAvo z)
  have small : ∀ i, i ≤ ds.length → (ds.length - i) * (ct + ce) ≤ 256 * (ct + ce) := fun i _ => by
    rcases hc with hc | hc
    · rw [hc]; simp
    · exact Nat.mul_le_mul_right _ (by omega)
  refine lc_it wk (fun i H' => ∃ xs acc, i ≤ ds.length ∧ Ext P.is H1 H' ∧ Ext (avo av σ G) H1 H' ∧ P.ok (n + (ds.length - i) * (ct + ce)) H' ∧ H' D = some (.lst xs) ∧ acc.length ≤ i ∧ Rps K (avp (avo av σ G) D) H' xs acc ∧ compW wg wt we (inG G vs) (ds.drop i) acc Qd)
    ⟨[], [], Nat.zero_le _, .new hD, .new hD, P.mono (L1.new hD).ok (by have := small 0 (Nat.zero_le _); omega), upd_same, Nat.le_refl _, .nil, hd⟩ (fun i H' _ ⟨_, _, _, _, ea, _⟩ => hG H' ea) ?_ ?_
  · rintro i x H' H2 hi ⟨xs, acc, hle, e', ea, k', hx, hl, hr, hcw⟩ y
    have Li := L1.inner vs e' k' hD (by rw [hx]; exact fun z => nomatch z)
    have no : ∀ a, ¬ Own (wipe σ vs) (inG G vs) a := fun a ⟨j, ds, h1, _⟩ => inG_no h1
    obtain ⟨d, hd, ex, rx⟩ := hy i x H' H2 (avo (avp (avo av σ G) D) (wipe σ vs) (inG G vs)) hi (fun a ka z => by
      rcases z with (z | z) | z
      · exact z
      · exact absurd (z ▸ hD) ka
      · exact absurd z (no a)) (fun a z => Li.avoNe z) ea y
    have hdrop : ds.drop i = d :: ds.drop (i + 1) := by
      rw [List.drop_eq_getElem_cons hi]
      rw [List.getElem?_eq_getElem hi] at hd
      rw [Option.some.inj hd]
    rw [hdrop] at hcw
    have L2 := Li.growEx ex
    have e2 : Ext P.is H1 H2 := e'.trans (Ex.ext ex)
    have ea2 : Ext (avo av σ G) H1 H2 := ea.trans (Ex.ext ex)
    have hx2 : H2 D = some (.lst xs) := ex D _ hx
    have cnt : n + (ds.length - i) * (ct + ce) = n + (ds.length - (i + 1)) * (ct + ce) + ce + ct := by
      have : ds.length - i = ds.length - (i + 1) + 1 := by omega
      rw [this, Nat.add_mul]
      omega
    refine sg P _ _ _ H2 _ _ x d _ L2 rx hcw _ fun σ' G' hG' L' o' k' => ⟨(k' vs hv).trans (wipe_wipe vs vs σ fun _ z => z), ?_⟩
    have no' : ∀ a, ¬ Own σ' G' a := fun a z => no a (o' a z)
    refine stt P _ _ _ hw.no (n + (ds.length - (i + 1)) * (ct + ce) + ce) H2 σ' G' _ (L'.le (by omega)) hG' _ fun b H3 hb L3 e3 => ?_
    have e13 : Ext P.is H1 H3 := e2.trans e3
    have ea3 : Ext (avo av σ G) H1 H3 := ea2.trans fun a o na hh => e3 a o (fun z => na (L1.isAvo z)) hh
    have hx3 : H3 D = some (.lst xs) := e3 D _ isD hx2
    have hr3 : Rps K (avp (avo av σ G) D) H3 xs acc := (hr.ext (is := P.is) (Ex.ext ex) (fun _ z => .inl (L1.isAvo z)) fun _ _ z => z).ext e3 (fun _ z => .inl (L1.isAvo z)) fun _ _ z => z
    cases b with
    | false => rw [fork_ff] at hb; exact ⟨xs, acc, by omega, e13, ea3, P.mono L3.ok (by omega), hx3, by omega, hr3, hb⟩
    | true =>
      rw [fork_tt] at hb
      refine se P _ _ _ hw.no (n + (ds.length - (i + 1)) * (ct + ce)) H3 σ' G' _ (L3.le (Nat.le_refl _)) hb _ fun v H4 y hy4 L4 e4 r4 => ?_
      have hx4 : H4 D = some (.lst xs) := e4 D _ isD hx3
      refine ⟨xs, hx4, by rw [hr.len]; omega, xs ++ [v], acc ++ [y], by omega, ?_, ?_, ?_, upd_same, by rw [List.length_append]; simp; omega, ?_, hy4⟩
      · intro a o na hh
        rw [upd_ne (ne_of_none hh hD)]
        exact e4 a o na (e13 a o na hh)
      · intro a o na hh
        rw [upd_ne (ne_of_none hh hD)]
        exact e4 a o (fun z => na (L1.isAvo z)) (ea3 a o na hh)
      · exact P.stab L4.ok (fun a ia => upd_ne (fun z : a = D => isD (by rw [← z]; exact ia))) (.lst hx4)
      · have stay : Ext (fun a => a = D) H4 (upd H4 D (.lst (xs ++ [v]))) := fun a o na hh => by rw [upd_ne na]; exact hh
        refine Rps.append ?_ (.cons ?_ .nil)
        · exact (hr3.ext e4 (fun _ z => .inl (L1.isAvo z)) fun _ _ z => z : Rps K (avp (avo av σ G) D) H4 xs acc).ext stay (fun _ z => .inr z) fun _ _ z => z
        · exact (r4.ext (is := fun _ => False) (.refl _ _) (fun _ z => z.elim) fun _ _ z => .inl z : Rp K (avp (avo av σ G) D) H4 v y).ext stay (fun _ z => .inr z) fun _ _ z => z
  · rintro H' ⟨xs, acc, hle, e', ea, k', hx, hl, hr, hcw⟩
    rw [List.drop_length] at hcw
    have L' : LocOk P K av H0 n H' σ G := L1.grow e' (P.mono k' (by omega))
    exact q D xs H' acc hcw L' (e1.trans e') (e1.none (fun z => isD z) hD) hx hr
end
end DL

namespace DL
open PySem PySem.Spec PyProof.Rows L2
section
variable {ι : Type} {X : ι → Cx} {K : Fg} {W : Ctl} {c c1 c2 c3 ci ct ce : Nat} {e a b t tg it elt : Expr} {es : List Expr} {w wa wb wc we : WE} {wt wu : WT} {wl wi : WL} {wg : WG} {pos p apos cpos : Pos} {st : Stmt} {sts body : List Stmt} {ws wr : WS}
theorem df_lc {scope : Scope} {is : List Nat} {own : List (Str × Nat)} (hc : ∀ i, (X i).calm = true) (hN : ∀ i, (X i).N.Nodup) (hi : DI X K W ci tg it wi) (hg : DG (blkF X scope) K is tg wg) (he : DE (blkF X scope) K W.no ce elt we) (ok : ∀ i, BlkOk (X i).N (X i).env.scope scope own) (hv : ∀ i ∈ is, i ∈ own.map (·.2) := by decide)
    (hs : ∀ i x, foldedSetIterable it (X i).env x = pure x := by intro _ _; rfl) : DF X K W (ci + 256 * (0 + ce)) (.ListComp elt [⟨tg, it, [], 0⟩] scope pos) (wLc (0 + ce) (own.map (·.2)) wi wg wTt we) := by
  obtain ⟨wi', pi, si⟩ := hi
  obtain ⟨g, pg, sg⟩ := hg
  obtain ⟨te, pe, se⟩ := he
  refine ⟨_, fun i => pe_lc (tt := tYes) (hc i) (hN i) (pi i) (ok i) (fun s H C cl fp => pg (i, s, H, C, cl, fp)) (fun _ _ _ _ _ => pts_nil) (fun s H C cl fp => pe (i, s, H, C, cl, fp)) (hs i), ?_⟩
  exact sf_lc (ct := 0) si sg (fun P av H0 ed hw n H σ G Qd L h Q q => q _ _ h L (.refl _ _)) se hv
theorem df_lcIf {scope : Scope} {is : List Nat} {own : List (Str × Nat)} (hc : ∀ i, (X i).calm = true) (hN : ∀ i, (X i).N.Nodup) (hi : DI X K W ci tg it wi) (hg : DG (blkF X scope) K is tg wg) (ht : DT (blkF X scope) K W.no ct t wt) (he : DE (blkF X scope) K W.no ce elt we) (ok : ∀ i, BlkOk (X i).N (X i).env.scope scope own) (hv : ∀ i ∈ is, i ∈ own.map (·.2) := by decide)
    (hs : ∀ i x, foldedSetIterable it (X i).env x = pure x := by intro _ _; rfl) : DF X K W (ci + 256 * (ct + ce)) (.ListComp elt [⟨tg, it, [t], 0⟩] scope pos) (wLc (ct + ce) (own.map (·.2)) wi wg wt we) := by
  obtain ⟨wi', pi, si⟩ := hi
  obtain ⟨g, pg, sg⟩ := hg
  obtain ⟨te, pe, se⟩ := he
  obtain ⟨tt, pt, stt⟩ := ht
  refine ⟨_, fun i => pe_lc (hc i) (hN i) (pi i) (ok i) (fun s H C cl fp => pg (i, s, H, C, cl, fp)) (fun s H C cl fp => pts_one (pt (i, s, H, C, cl, fp))) (fun s H C cl fp => pe (i, s, H, C, cl, fp)) (hs i), ?_⟩
  exact sf_lc si sg stt se hv
/-! ### statements -/
theorem LocOk.frzAll {P : Pn} {K : Fg} {av : Av} {H0 H : Hp} {n : Nat} {σ : Sg} {G : Gm} (L : LocOk P K av H0 n H σ G) : LocOk P K av H0 n H σ (G.map fun s => match s with | .own d => .dat d | s => s) ∧ ∀ a, ¬ Own σ (G.map fun s => match s with | .own d => .dat d | s => s) a := by
  have no : ∀ a, ¬ Own σ (G.map fun s => match s with | .own d => .dat d | s => s) a := by
    rintro a ⟨i, ds, h1, _⟩
    rw [List.getElem?_map] at h1
    cases q : G[i]? with
    | none => rw [q] at h1; exact nomatch h1
    | some s => rw [q] at h1; cases s <;> exact nomatch h1
  refine ⟨⟨by rw [List.length_map]; exact L.len, fun i s h => ?_, fun i j ds es a h1 h2 h3 _ => absurd ⟨i, ds, h1, h3⟩ (no a), L.ext, fun a z => absurd z (no a), L.ok, L.pav, L.al⟩, no⟩
  rw [List.getElem?_map] at h
  cases q : G[i]? with
  | none => rw [q] at h; exact nomatch h
  | some s' =>
    rw [q] at h
    obtain ⟨o, e1, e2⟩ := L.sl i s' q
    have am : ∀ a, H a ≠ none → avo av σ (G.map fun s => match s with | .own d => .dat d | s => s) a → avo av σ G a := fun a _ z => z.elim .inl fun z => absurd z (no a)
    cases s' with
    | un => cases h; exact ⟨o, e1, trivial⟩
    | dat d => cases h; exact ⟨o, e1, e2.shrink am⟩
    | own ds =>
      cases h
      obtain ⟨a, u, xs, fs, k1, k2, sh, k3⟩ := e2
      have na := fun z => Or.elim (c := False) z (fun z => L.al a z (L.fr a ⟨i, ds, q, by rw [e1, k1]⟩)) fun z => no a z
      have r' := k3.ext (is := fun _ => False) (.refl _ _) (fun _ z => z.elim) am
      refine ⟨o, e1, _, k1, ?_⟩
      cases sh with
      | lst => exact .lst ⟨k2, na⟩ r'
      | dic hl => exact .dic ⟨k2, na⟩ hl r'
def frzG (G : Gm) : Gm := G.map fun s => match s with | .own d => .dat d | s => s
def wRet (w : WE) : WS := fun G De => w (frzG G) De.ex De.rt
theorem ds_ret (h : DE X K W c e w) : DS X K W c (.Return (some e) pos) (wRet w) := by
  obtain ⟨te, pe, s⟩ := h
  refine ⟨_, fun i => ps_ret (pe i), fun P av H0 De hw n H σ G L h D dd => ?_⟩
  obtain ⟨L', no⟩ := L.frzAll
  exact s P av H0 _ hw n H σ _ _ L' h _ fun v H' d hd L2 e' r => dd.rt v H' d hd L2.ext L2.ok (r.ext (is := fun _ => False) (.refl _ _) (fun _ z => z.elim) fun _ _ z => .inl z)
def wRetN : WS := fun _ De => De.rt .non
theorem ds_retN : DS X K W 0 (.Return none pos) wRetN := ⟨_, fun _ => ps_retN, fun P av H0 De hw n H σ G L h D dd => dd.rt _ _ _ h L.ext L.ok .non⟩
def wDrop (w : WE) : WS := fun G De => w G De.ex fun _ => De.nx G
theorem ds_expr (h : DE X K W c e w) (hs : ∀ i, swapsWith e none pos.line (X i).env = pure false := by intro _; rfl) : DS X K W c (.Expr e pos) (wDrop w) := by
  obtain ⟨te, pe, s⟩ := h
  refine ⟨_, fun i => ps_expr (pe i) (hs i), fun P av H0 De hw n H σ G L h D dd => s P av H0 _ hw n H σ G _ L h _ fun v H' d hd L2 e' r => dd.nx _ _ _ hd L2 (.of e' fun _ z => z)⟩
def wPass : WS := fun G De => De.nx G
theorem ds_pass : DS X K W 0 (.Pass pos) wPass := ⟨_, fun _ => ps_pass, fun P av H0 De hw n H σ G L h D dd => dd.nx _ _ _ h L (.of (.refl _ _) fun _ z => z)⟩
def wBrk : WS := fun G De => De.bk G
theorem ds_break : DS X K W 0 (.Break pos) wBrk := ⟨_, fun _ => ps_break, fun P av H0 De hw n H σ G L h D dd => dd.bk _ _ _ h L (.of (.refl _ _) fun _ z => z)⟩
def wCnt : WS := fun G De => De.ct G
theorem ds_continue : DS X K W 0 (.Continue pos) wCnt := ⟨_, fun _ => ps_continue, fun P av H0 De hw n H σ G L h D dd => dd.ct _ _ _ h L (.of (.refl _ _) fun _ z => z)⟩
theorem DD.le {P : Pn} {K : Fg} {av : Av} {H0 : Hp} {n m : Nat} {H H1 : Hp} {σ : Sg} {G : Gm} {De : DEnds} {D : Ends} (dd : DD P K av H0 n H σ G De D) (hm : n ≤ m) (r : Rl P H σ G H1 σ G) : DD P K av H0 m H1 σ G De D :=
  ⟨fun σ' H' G' h L q => dd.nx σ' H' G' h (L.le hm) (r.trans q), fun σ' H' G' h L q => dd.bk σ' H' G' h (L.le hm) (r.trans q), fun σ' H' G' h L q => dd.ct σ' H' G' h (L.le hm) (r.trans q), fun v H' d h e k q => dd.rt v H' d h e (P.mono k hm) q, fun p xs H' ds h e k => dd.rf p xs H' ds h e (P.mono k hm)⟩
/-! blocks -/
def wSq (a b : WS) : WS := fun G De => a G { De with nx := fun G' => b G' De }
theorem dss_nil : DSs X K W 0 [] wPass := ⟨_, fun _ => pss_nil, fun P av H0 De hw n H σ G L h D dd => dd.nx _ _ _ h L (.of (.refl _ _) fun _ z => z)⟩
theorem dss_cons (h1 : DS X K W c1 st ws) (h2 : DSs X K W c2 sts wr) : DSs X K W (c1 + c2) (st :: sts) (wSq ws wr) := by
  obtain ⟨ts, ps, s1⟩ := h1
  obtain ⟨tr, pr, s2⟩ := h2
  refine ⟨_, fun i => pss_cons (ps i) (pr i), fun P av H0 De hw n H σ G L h D dd => ?_⟩
  refine s1 P av H0 { De with nx := fun G' => wr G' De } hw (n + c2) H σ G (L.le (by omega)) h _ ⟨fun σ' H' G' h' L' r => ?_, fun σ' H' G' h' L' r => dd.bk _ _ _ h' (L'.le (by omega)) r, fun σ' H' G' h' L' r => dd.ct _ _ _ h' (L'.le (by omega)) r, fun v H' d h' e' k' r => dd.rt _ _ _ h' e' (P.mono k' (by omega)) r, fun p xs H' ds h' e' k' => dd.rf p xs H' ds h' e' (P.mono k' (by omega))⟩
  exact s2 P av H0 De hw n H' σ' G' (L'.le (Nat.le_refl _)) h' _ ⟨fun σ2 H2 G2 h2 L2 r2 => dd.nx _ _ _ h2 L2 (r.trans r2), fun σ2 H2 G2 h2 L2 r2 => dd.bk _ _ _ h2 L2 (r.trans r2), fun σ2 H2 G2 h2 L2 r2 => dd.ct _ _ _ h2 L2 (r.trans r2), dd.rt, dd.rf⟩
theorem dss_one (h1 : DS X K W c1 st ws) : DSs X K W c1 [st] ws := by
  obtain ⟨ts, ps, s1⟩ := h1
  exact ⟨_, fun i => pss_one (ps i), s1⟩
def wIfS (t : WT) (a b : WS) : WS := fun G De => t G De.ex fun k => fork k (a G De) (b G De)
theorem ds_if (hc : DT X K W c t wt) (ha : DSs X K W c1 sts ws) (hb : DSs X K W c2 body wr) : DS X K W (c + (c1 + c2)) (.If t sts body pos) (wIfS wt ws wr) := by
  obtain ⟨tt, pt, s⟩ := hc
  obtain ⟨ta, pa, sa⟩ := ha
  obtain ⟨tb, pb, sb⟩ := hb
  refine ⟨_, fun i => ps_if (pt i) (pa i) (pb i), fun P av H0 De hw n H σ G L h D dd => s P av H0 _ hw (n + (c1 + c2)) H σ G _ (L.le (by omega)) h _ fun k H1 hk L1 e1 => ?_⟩
  have r : Rl P H σ G H1 σ G := .of e1 fun _ z => z
  cases k with
  | true => rw [fork_tt] at hk; exact sa P av H0 De hw n H1 σ G (L1.le (by omega)) hk D (dd.le (Nat.le_refl _) r)
  | false => rw [fork_ff] at hk; exact sb P av H0 De hw n H1 σ G (L1.le (by omega)) hk D (dd.le (Nat.le_refl _) r)
/-! assignments -/
def wSet (i : Nat) (w : WE) : WS := fun G De => w G De.ex fun d => De.nx (G.set i (.dat d))
def wSetO (i : Nat) (w : WL) : WS := fun G De => w G De.ex fun ds => De.nx (G.set i (.own (.lst ds)))
theorem set_sem {te : TE} {i : Nat} (s : ∀ (P : Pn) (av : Av) (H0 : Hp) (ed : Value → Prop), HW W P H0 ed → ∀ (n : Nat) (H : Hp) (σ : Sg) (G : Gm) (Qd : D → Prop), LocOk P K av H0 (n + c) H σ G → w G ed Qd → ∀ Q : VK, (∀ v H' d, Qd d → LocOk P K av H0 n H' σ G → Ext P.is H H' → Rp K (avo av σ G) H' v d → Q v H') → te σ H Q) :
    ∀ (P : Pn) (av : Av) (H0 : Hp) (De : DEnds), HW W P H0 De.ex → ∀ (n : Nat) (H : Hp) (σ : Sg) (G : Gm), LocOk P K av H0 (n + c) H σ G → wSet i w G De → ∀ D : Ends, DD P K av H0 n H σ G De D → tAsg te (gName i) D σ H := fun P av H0 De hw n H σ G L h D dd => by
  refine s P av H0 _ hw n H σ G _ L h _ fun v H' d hd L2 e' r => ?_
  obtain ⟨L3, o⟩ := L2.put (i := i) (v := some v) (s := .dat d) ⟨v, rfl, r⟩ fun _ => fun z => nomatch z
  exact dd.nx _ _ _ hd L3 (.of e' o)
theorem setO_sem {te : TE} {i : Nat} (s : SF K W c te wl) :
    ∀ (P : Pn) (av : Av) (H0 : Hp) (De : DEnds), HW W P H0 De.ex → ∀ (n : Nat) (H : Hp) (σ : Sg) (G : Gm), LocOk P K av H0 (n + c) H σ G → wSetO i wl G De → ∀ D : Ends, DD P K av H0 n H σ G De D → tAsg te (gName i) D σ H := fun P av H0 De hw n H σ G L h D dd => by
  refine s P av H0 _ hw n H σ G _ L h _ fun p xs H' ds hd L2 e' hn hp r => ?_
  obtain ⟨L3, o⟩ := L.putOwn (i := i) L2 e' hn hp .lst r
  have np : ¬ P.is p := fun z => L.avNe (L.pav _ z) hn
  refine dd.nx _ _ _ hd L3 ⟨fun a u k hh => e' a u (fun z => k (.inl z)) hh, fun a z => (o a z).elim .inl fun z => .inr ⟨z ▸ hn, z ▸ np⟩⟩
theorem ds_set {i : Nat} {x : Str} {pos' : Pos} (h : DE X K W c e w) (hN : ∀ j, (X j).N.Nodup) (hi : ∀ j, (X j).N[i]? = some x := by intro _; rfl) (hx : ∀ j, Loc (X j).env.scope x := by intro _; first | exact .inl rfl | exact .inr rfl) (hs : ∀ j, swapsWith e (some (.Name x pos')) pos.line (X j).env = pure false := by intro _; rfl)
    (hf : ∀ j, (X j).fn x = true ∨ (X j).env.scope.names.lookup x = some .local := by intro _; first | exact .inl rfl | exact .inr rfl) : DS X K W c (.Assign [.Name x pos'] e pos) (wSet i w) := by
  obtain ⟨te, pe, s⟩ := h
  exact ⟨_, fun j => ps_set (hN j) (hi j) (hx j) (pe j) (hs j) (hf j), set_sem s⟩
theorem ds_setO {i : Nat} {x : Str} {pos' : Pos} (h : DF X K W c e wl) (hN : ∀ j, (X j).N.Nodup) (hi : ∀ j, (X j).N[i]? = some x := by intro _; rfl) (hx : ∀ j, Loc (X j).env.scope x := by intro _; first | exact .inl rfl | exact .inr rfl) (hs : ∀ j, swapsWith e (some (.Name x pos')) pos.line (X j).env = pure false := by intro _; rfl)
    (hf : ∀ j, (X j).fn x = true ∨ (X j).env.scope.names.lookup x = some .local := by intro _; first | exact .inl rfl | exact .inr rfl) : DS X K W c (.Assign [.Name x pos'] e pos) (wSetO i wl) := by
  obtain ⟨te, pe, s⟩ := h
  exact ⟨_, fun j => ps_set (hN j) (hi j) (hx j) (pe j) (hs j) (hf j), setO_sem s⟩
/-- y = [.. for ..], y a local name -/
theorem setLc_core {scope : Scope} {is : List Nat} {own : List (Str × Nat)} {i : Nat} {y : Str} {py spos : Pos} (hc : ∀ i, (X i).calm = true) (hN : ∀ i, (X i).N.Nodup) (hi : DI X K W ci tg it wi) (hg : DG (blkF X scope) K is tg wg) (he : DE (blkF X scope) K W.no ce elt we) (ok : ∀ i, BlkOk (X i).N (X i).env.scope scope own)
    (hv : ∀ i ∈ is, i ∈ own.map (·.2)) (hy : ∀ j, (X j).N[i]? = some y) (hyl : ∀ j, (X j).env.scope.names.lookup y = some .local) (hsw : ∀ j, swapsWith (.ListComp elt [⟨tg, it, [], 0⟩] scope pos) (some (.Name y py)) spos.line (X j).env = pure true) (hs : ∀ i x, foldedSetIterable it (X i).env x = pure x) :
    ∃ te, (∀ j, PS (X j) (.Assign [.Name y py] (.ListComp elt [⟨tg, it, [], 0⟩] scope pos) spos) (tAsg te (gName i))) ∧ SF K W (ci + 256 * (0 + ce)) te (wLc (0 + ce) (own.map (·.2)) wi wg wTt we) := by
  obtain ⟨wi', pi, si⟩ := hi
  obtain ⟨g, pg, sg⟩ := hg
  obtain ⟨te, pe, se⟩ := he
  refine ⟨_, fun j => ps_setLc (tt := tYes) (hc j) (hN j) (hy j) (hyl j) (hsw j) (pi j) (ok j) (fun s H C cl fp => pg (j, s, H, C, cl, fp)) (fun _ _ _ _ _ => pts_nil) (fun s H C cl fp => pe (j, s, H, C, cl, fp)) (hs j), ?_⟩
  exact sf_lc (ct := 0) si sg (fun P av H0 ed hw n H σ G Qd L h Q q => q _ _ h L (.refl _ _)) se hv
theorem setLcIf_core {scope : Scope} {is : List Nat} {own : List (Str × Nat)} {i : Nat} {y : Str} {py spos : Pos} (hc : ∀ i, (X i).calm = true) (hN : ∀ i, (X i).N.Nodup) (hi : DI X K W ci tg it wi) (hg : DG (blkF X scope) K is tg wg) (ht : DT (blkF X scope) K W.no ct t wt) (he : DE (blkF X scope) K W.no ce elt we) (ok : ∀ i, BlkOk (X i).N (X i).env.scope scope own)
    (hv : ∀ i ∈ is, i ∈ own.map (·.2)) (hy : ∀ j, (X j).N[i]? = some y) (hyl : ∀ j, (X j).env.scope.names.lookup y = some .local) (hsw : ∀ j, swapsWith (.ListComp elt [⟨tg, it, [t], 0⟩] scope pos) (some (.Name y py)) spos.line (X j).env = pure true) (hs : ∀ i x, foldedSetIterable it (X i).env x = pure x) :
    ∃ te, (∀ j, PS (X j) (.Assign [.Name y py] (.ListComp elt [⟨tg, it, [t], 0⟩] scope pos) spos) (tAsg te (gName i))) ∧ SF K W (ci + 256 * (ct + ce)) te (wLc (ct + ce) (own.map (·.2)) wi wg wt we) := by
  obtain ⟨wi', pi, si⟩ := hi
  obtain ⟨g, pg, sg⟩ := hg
  obtain ⟨te, pe, se⟩ := he
  obtain ⟨tt, pt, stt⟩ := ht
  refine ⟨_, fun j => ps_setLc (hc j) (hN j) (hy j) (hyl j) (hsw j) (pi j) (ok j) (fun s H C cl fp => pg (j, s, H, C, cl, fp)) (fun s H C cl fp => pts_one (pt (j, s, H, C, cl, fp))) (fun s H C cl fp => pe (j, s, H, C, cl, fp)) (hs j), ?_⟩
  exact sf_lc si sg stt se hv
theorem sf_e {te : TE} (s : SF K W c te wl) : ∀ (P : Pn) (av : Av) (H0 : Hp) (ed : Value → Prop), HW W P H0 ed → ∀ (n : Nat) (H : Hp) (σ : Sg) (G : Gm) (Qd : D → Prop), LocOk P K av H0 (n + c) H σ G → wF wl G ed Qd → ∀ Q : VK, (∀ v H' d, Qd d → LocOk P K av H0 n H' σ G → Ext P.is H H' → Rp K (avo av σ G) H' v d → Q v H') → te σ H Q := fun P av H0 ed hw n H σ G Qd L h Q q => by
  refine s P av H0 ed hw n H σ G _ L h Q fun p xs H' ds hd L' e' hn hp r => q _ H' _ hd L' e' (.lst ⟨hp, fun z => L.avoNe z hn⟩ (r.ext (is := fun _ => False) (.refl _ _) (fun _ z => z.elim) fun _ _ z => .inl z))
theorem ds_setLc {scope : Scope} {is : List Nat} {own : List (Str × Nat)} {i : Nat} {y : Str} {py spos : Pos} (hc : ∀ i, (X i).calm = true) (hN : ∀ i, (X i).N.Nodup) (hi : DI X K W ci tg it wi) (hg : DG (blkF X scope) K is tg wg) (he : DE (blkF X scope) K W.no ce elt we) (ok : ∀ i, BlkOk (X i).N (X i).env.scope scope own)
    (hv : ∀ i ∈ is, i ∈ own.map (·.2) := by decide) (hy : ∀ j, (X j).N[i]? = some y := by intro _; rfl) (hyl : ∀ j, (X j).env.scope.names.lookup y = some .local := by intro _; rfl) (hsw : ∀ j, swapsWith (.ListComp elt [⟨tg, it, [], 0⟩] scope pos) (some (.Name y py)) spos.line (X j).env = pure true := by intro _; exact sw_true rfl rfl rfl (by decide +kernel)) (hs : ∀ i x, foldedSetIterable it (X i).env x = pure x := by intro _ _; rfl) :
    DS X K W (ci + 256 * (0 + ce)) (.Assign [.Name y py] (.ListComp elt [⟨tg, it, [], 0⟩] scope pos) spos) (wSet i (wF (wLc (0 + ce) (own.map (·.2)) wi wg wTt we))) := by
  obtain ⟨te, ps, s⟩ := setLc_core hc hN hi hg he ok hv hy hyl hsw hs
  exact ⟨_, ps, set_sem (sf_e s)⟩
theorem ds_setLcIf {scope : Scope} {is : List Nat} {own : List (Str × Nat)} {i : Nat} {y : Str} {py spos : Pos} (hc : ∀ i, (X i).calm = true) (hN : ∀ i, (X i).N.Nodup) (hi : DI X K W ci tg it wi) (hg : DG (blkF X scope) K is tg wg) (ht : DT (blkF X scope) K W.no ct t wt) (he : DE (blkF X scope) K W.no ce elt we) (ok : ∀ i, BlkOk (X i).N (X i).env.scope scope own)
    (hv : ∀ i ∈ is, i ∈ own.map (·.2) := by decide) (hy : ∀ j, (X j).N[i]? = some y := by intro _; rfl) (hyl : ∀ j, (X j).env.scope.names.lookup y = some .local := by intro _; rfl) (hsw : ∀ j, swapsWith (.ListComp elt [⟨tg, it, [t], 0⟩] scope pos) (some (.Name y py)) spos.line (X j).env = pure true := by intro _; exact sw_true rfl rfl rfl (by decide +kernel)) (hs : ∀ i x, foldedSetIterable it (X i).env x = pure x := by intro _ _; rfl) :
    DS X K W (ci + 256 * (ct + ce)) (.Assign [.Name y py] (.ListComp elt [⟨tg, it, [t], 0⟩] scope pos) spos) (wSet i (wF (wLc (ct + ce) (own.map (·.2)) wi wg wt we))) := by
  obtain ⟨te, ps, s⟩ := setLcIf_core hc hN hi hg ht he ok hv hy hyl hsw hs
  exact ⟨_, ps, set_sem (sf_e s)⟩
theorem ds_setLcO {scope : Scope} {is : List Nat} {own : List (Str × Nat)} {i : Nat} {y : Str} {py spos : Pos} (hc : ∀ i, (X i).calm = true) (hN : ∀ i, (X i).N.Nodup) (hi : DI X K W ci tg it wi) (hg : DG (blkF X scope) K is tg wg) (he : DE (blkF X scope) K W.no ce elt we) (ok : ∀ i, BlkOk (X i).N (X i).env.scope scope own)
    (hv : ∀ i ∈ is, i ∈ own.map (·.2) := by decide) (hy : ∀ j, (X j).N[i]? = some y := by intro _; rfl) (hyl : ∀ j, (X j).env.scope.names.lookup y = some .local := by intro _; rfl) (hsw : ∀ j, swapsWith (.ListComp elt [⟨tg, it, [], 0⟩] scope pos) (some (.Name y py)) spos.line (X j).env = pure true := by intro _; exact sw_true rfl rfl rfl (by decide +kernel)) (hs : ∀ i x, foldedSetIterable it (X i).env x = pure x := by intro _ _; rfl) :
    DS X K W (ci + 256 * (0 + ce)) (.Assign [.Name y py] (.ListComp elt [⟨tg, it, [], 0⟩] scope pos) spos) (wSetO i (wLc (0 + ce) (own.map (·.2)) wi wg wTt we)) := by
  obtain ⟨te, ps, s⟩ := setLc_core hc hN hi hg he ok hv hy hyl hsw hs
  exact ⟨_, ps, setO_sem s⟩
/-- a, b = e -/
def wAsgT (wg : WG) (w : WE) : WS := fun G De => w G De.ex fun d => wg d G De.nx
theorem ds_asgT {is : List Nat} (h : DE X K W c e w) (hg : DG X K is tg wg) (hs : ∀ i, swapsWithSole [tg] e pos.line (X i).env = pure false := by intro _; rfl) (hw : ∀ i, swappedStores [tg] e (X i).env = pure none := by intro _; rfl) (h1 : ∀ i, (assignEach [tg] (X i).env).map (·.2) = [assign tg (X i).env] := by intro _; rfl) :
    DS X K W c (.Assign [tg] e pos) (wAsgT wg w) := by
  obtain ⟨te, pe, s⟩ := h
  obtain ⟨g, pg, sg⟩ := hg
  refine ⟨_, fun i => ps_asg (pe i) (pg i) (hs i) (hw i) (h1 i), fun P av H0 De hw n H σ G L h D dd => s P av H0 _ hw n H σ G _ L h _ fun v H' d hd L2 e' r => sg P av H0 n H' σ G v d _ L2 r hd _ fun σ' G' hG L3 o _ => dd.nx _ _ _ hG L3 (.of e' o)⟩
/-- y = x, where the def owned x's list -/
def wAlias (i j : Nat) : WS := fun G De => match G[j]? with
  | some (.dat d) => De.nx (G.set i (.dat d))
  | some (.own d) => De.nx ((G.set j (.dat d)).set i (.dat d))
  | _ => False
theorem ds_alias {i j : Nat} {x : Str} {pos' : Pos} (h : ∀ q, PE (X q) e (tVar j)) (hN : ∀ j, (X j).N.Nodup) (hi : ∀ j, (X j).N[i]? = some x := by intro _; rfl) (hx : ∀ j, Loc (X j).env.scope x := by intro _; first | exact .inl rfl | exact .inr rfl) (hs : ∀ j, swapsWith e (some (.Name x pos')) pos.line (X j).env = pure false := by intro _; rfl)
    (hf : ∀ j, (X j).fn x = true ∨ (X j).env.scope.names.lookup x = some .local := by intro _; first | exact .inl rfl | exact .inr rfl) : DS X K W 0 (.Assign [.Name x pos'] e pos) (wAlias i j) := by
  refine ⟨_, fun j => ps_set (hN j) (hi j) (hx j) (h j) (hs j) (hf j), fun P av H0 De hw n H σ G L h D dd => ?_⟩
  cases q : G[j]? with
  | none => rw [wAlias, q] at h; exact h.elim
  | some s =>
    rw [wAlias, q] at h
    cases s with
    | un => exact h.elim
    | dat d =>
      obtain ⟨o, e1, v, e2, r⟩ := L.sl j _ q
      subst e2
      obtain ⟨L3, o⟩ := L.put (i := i) (v := some v) (s := .dat d) ⟨v, rfl, r⟩ fun _ => fun z => nomatch z
      exact ⟨v, e1, dd.nx _ _ _ h L3 (.of (.refl _ _) o)⟩
    | own ds =>
      obtain ⟨L2, o2⟩ := L.frz q
      have q2 : (G.set j (.dat ds))[j]? = some (.dat ds) := List.getElem?_set_self (List.getElem?_eq_some_iff.mp q).1
      obtain ⟨o, e1, v, e2, r⟩ := L2.sl j _ q2
      subst e2
      obtain ⟨L3, o⟩ := L2.put (i := i) (v := some v) (s := .dat ds) ⟨v, rfl, r⟩ fun _ => fun z => nomatch z
      exact ⟨v, e1, dd.nx _ _ _ h L3 (.of (.refl _ _) fun a z => o2 a (o a z))⟩
/-! x.append(e) -/
theorem LocOk.mut {P : Pn} {K : Fg} {av : Av} {H0 H : Hp} {n : Nat} {σ : Sg} {G : Gm} {i : Nat} {a : Addr} {ds ee : D} {u : HO} {es : List D} {ys : List V} (L : LocOk P K av H0 n H σ G) (h : G[i]? = some (.own ds)) (h1 : σ[i]? = some (some (.ref a))) (sh : Shp ee u ys es) (r : Rps K (avo av σ G) H ys es) :
    LocOk P K av H0 n (upd H a u) σ (G.set i (.own ee)) ∧ Rl P H σ G (upd H a u) σ (G.set i (.own ee)) := by
  have oa : Own σ G a := ⟨i, ds, h, h1⟩
  obtain ⟨u0, hal, hwr⟩ : ∃ u, H a = some u ∧ ((∃ xs, u = .lst xs) ∨ ∃ ks, u = .dK ks) := by
    obtain ⟨o, e1, b, u, xs, fs, e2, e3, sh, _⟩ := L.sl i _ h
    rw [h1] at e1
    cases e1
    cases e2
    exact ⟨u, e3, sh.wr⟩
  have own : ∀ b, Own σ (G.set i (.own ee)) b → Own σ G b := by
    rintro b ⟨j, fs, k1, k2⟩
    by_cases e : j = i
    · subst e
      rw [h1] at k2
      cases k2
      exact oa
    · rw [List.getElem?_set_ne (Ne.symm e)] at k1
      exact ⟨j, fs, k1, k2⟩
  have am : ∀ b, H b ≠ none → avo av σ (G.set i (.own ee)) b → avo av σ G b := fun b _ z => z.elim .inl fun z => .inr (own b z)
  have ex : Ext (fun b => P.is b ∨ b = a) H (upd H a u) := fun b o n hh => by
    rw [upd_ne fun z => n (.inr z)]
    exact hh
  have ia : ∀ b, P.is b ∨ b = a → avo av σ G b := fun b z => z.elim L.isAvo fun z => .inr (z ▸ oa)
  refine ⟨⟨by rw [List.length_set]; exact L.len, fun j s hj => ?_, fun j k d1 d2 b k1 k2 k3 k4 => ?_, fun b o n hh => ?_, fun b z => L.fr b (own b z), P.stab L.ok (fun b ib => upd_ne (fun z : b = a => L.ownIs oa (by rw [← z]; exact ib))) (.wr hal hwr), L.pav, L.al⟩, fun b o n hh => ?_, fun b z => .inl (own b z)⟩
  · by_cases e : j = i
    · subst e
      have z := getElem?_set_self' hj
      subst z
      exact ⟨_, h1, a, u, ys, es, rfl, upd_same, sh, r.ext ex ia am⟩
    · rw [List.getElem?_set_ne (Ne.symm e)] at hj
      obtain ⟨o, e1, e2⟩ := L.sl j s hj
      refine ⟨o, e1, ?_⟩
      cases s with
      | un => trivial
      | dat d => obtain ⟨v, q1, q2⟩ := e2; exact ⟨v, q1, q2.ext ex ia am⟩
      | own fs =>
        obtain ⟨b, w, zs, gs, q1, q2, q4, q3⟩ := e2
        subst q1
        refine ⟨b, w, zs, gs, rfl, ?_, q4, q3.ext ex ia am⟩
        rw [upd_ne (fun z : b = a => e (L.inj j i fs ds b hj h e1 (by rw [z]; exact h1)))]
        exact q2
  · have nj : ∀ {j : Nat} {fs : D}, (G.set i (.own ee))[j]? = some (Slot.own fs) → ∃ gs, G[j]? = some (Slot.own gs) := fun {j fs} hh => by
      by_cases e : j = i
      · subst e; exact ⟨_, h⟩
      · rw [List.getElem?_set_ne (Ne.symm e)] at hh; exact ⟨_, hh⟩
    obtain ⟨g1, k1⟩ := nj k1
    obtain ⟨g2, k2⟩ := nj k2
    exact L.inj j k g1 g2 b k1 k2 k3 k4
  · rw [upd_ne (ne_of_none (L.ext.trans (.refl _ _) |> fun _ => hh) (L.fr a oa))]
    exact L.ext b o n hh
  · rw [upd_ne (fun z : b = a => n (.inr (by rw [z]; exact oa)))]
    exact hh
def wApp (i : Nat) (w : WE) : WS := fun G De => owS G[i]? fun ds => ds.length < sizeLine ∧ w G De.ex fun d => De.nx (G.set i (.own (.lst (ds ++ [d]))))
theorem ds_append {i : Nat} (hK : ∀ i, (X i).K = K) (hp : ∀ j, PE (X j) a (tVar i)) (h : DE X K W c e w)
    (hbase : ∀ i, attributeBase a "append" (X i).env (eval a (X i).env) = eval a (X i).env := by intro _; rfl)
    (hfew : ∀ i, ((backTo cpos (starEach [e] (X i).env)).all (fun x => !x.1) && (backToKw cpos (keywordEach [] (X i).env)).all (fun x => x.1.isSome) && decide ([e].length + ([] : List Keyword).length + (if ([] : List Keyword).isEmpty then 0 else 1) < 30)) = true := by intro _; rfl)
    (hline : (apos.endLine == cpos.line) = true := by rfl) (hs : ∀ i, starEach [e] (X i).env = (false, eval e (X i).env) :: starEach [] (X i).env := by intro _; rfl)
    (hw : ∀ i, swapsWith (.Call (.Attribute a "append" apos) [e] [] cpos) none pos.line (X i).env = pure false := by intro _; rfl) : DS X K W c (.Expr (.Call (.Attribute a "append" apos) [e] [] cpos) pos) (wApp i w) := by
  obtain ⟨te, pe, s⟩ := h
  refine ⟨tDrop (tBM K "list" rAppend (tVar i) (tCons te tNil)), fun j => ps_expr (by rw [← hK j]; exact pe_bm PySem.F.plainAttrs_list PySem.F.slot_list_append PySem.F.type_list_append mt_append (hp j) (pa_cons (pe j) pa_nil (hs j)) (hbase j) (hfew j) hline (hs j)) (hw j), fun P av H0 De hw n H σ G L h D dd => ?_⟩
  obtain ⟨ds, q, hz, h⟩ := owS_of h
  obtain ⟨o, e1, l, _, xs, _, e2, e3, sh, r⟩ := L.sl i _ q
  subst e2
  cases sh
  refine ⟨_, e1, .inl ⟨rfl, xs, .inl (.inl e3)⟩, ?_⟩
  refine s P av H0 _ hw n H σ G _ L h _ fun v H' d hd L2 e' rv => ?_
  have e4 := e' l _ (L.ownIs ⟨i, _, q, e1⟩) e3
  obtain ⟨o', f1, l', _, xs', _, f2, f3, sh', r'⟩ := L2.sl i _ q
  rw [e1] at f1
  cases f1
  cases f2
  cases sh'
  rw [e4] at f3
  cases f3
  obtain ⟨L3, rl⟩ := L2.mut q e1 .lst (r'.append (.cons rv .nil))
  exact ⟨l, xs, v, rfl, rfl, e4, by rw [r.len]; exact hz, dd.nx _ _ _ hd L3 ((Rl.of e' fun _ z => z).trans rl)⟩
end
end DL

namespace DL
open PySem PySem.Spec PyProof.Rows L2
section
variable {ι : Type} {X : ι → Cx} {K : Fg} {W : Ctl} {c c1 c2 c3 ci cb : Nat} {e a b t tg it elt : Expr} {es : List Expr} {w wa : WE} {wt : WT} {wl wi : WL} {wg : WG} {pos p p2 : Pos} {st : Stmt} {sts body : List Stmt} {ws wb : WS}
def forW (wg : WG) (wb : WS) : List D → Gm → DEnds → Prop
  | [], G, De => De.nx G
  | d :: r, G, De => wg d G fun G1 => wb G1 { De with nx := fun G2 => forW wg wb r G2 De, ct := fun G2 => forW wg wb r G2 De, bk := De.nx }
def wFor (cb : Nat) (wi : WL) (wg : WG) (wb : WS) : WS := fun G De => wi G De.ex fun ds => (cb = 0 ∨ ds.length ≤ 256) ∧ forW wg wb ds G De
theorem ds_for {is : List Nat} (hpo : ∀ i, PassesOwn (model (X i).prog (X i).w) (X i).A (X i).env (X i).xe) (hc : ∀ i, (X i).calm = true) (hi : DI X K W ci tg it wi) (hg : DG X K is tg wg) (hb : DSs X K W cb body wb) (hs : ∀ i x, foldedSetIterable it (X i).env x = pure x := by intro _ _; rfl) :
    DS X K W (ci + 256 * cb) (.For tg it body [] pos) (wFor cb wi wg wb) := by
  obtain ⟨wi', pi, si⟩ := hi
  obtain ⟨g, pg, sg⟩ := hg
  obtain ⟨tb, pb, sb⟩ := hb
  refine ⟨_, fun i => ps_for (hpo i) (hc i) (pi i) (pg i) (pb i) (hs i), fun P av H0 De hw n H σ G L h D dd => ?_⟩
  refine si P av H0 _ hw (n + 256 * cb) H σ G _ (L.le (by omega)) h _ fun J H1 ds hd L1 e1 Wk => ?_
  obtain ⟨hcb, hf⟩ := hd
  obtain ⟨GG, Y, wk, hG, hy⟩ := Wk.ex
  have r1 : Rl P H σ G H1 σ G := .of e1 fun _ z => z
  have small : ds.length * cb ≤ 256 * cb := by
    rcases hcb with hc | hc
    · rw [hc]; simp
    · exact Nat.mul_le_mul_right _ hc
  refine for_it wk (fun i σ' H' => ∃ G', i ≤ ds.length ∧ LocOk P K av H0 (n + (ds.length - i) * cb) H' σ' G' ∧ Rl P H1 σ G H' σ' G' ∧ forW wg wb (ds.drop i) G' De)
    ⟨G, Nat.zero_le _, L1.le (by rw [Nat.sub_zero]; omega), .of (.refl _ _) fun _ z => z, hf⟩ (fun i σ' H' _ ⟨G', _, _, r, _⟩ => hG H' fun a o na hh => r.ext a o (fun z => na (z.elim L1.isAvo .inr)) hh) ?_ ?_
  · rintro i x σ' H' H2 hi ⟨G', hle, L', r, hf⟩ y
    obtain ⟨d, hd, ex, rx⟩ := hy i x H' H2 (avo av σ' G') hi (fun a ka z => z.elim .inl fun z => (r.own a z).elim .inr fun z => absurd z.1 ka) (fun a z => L'.avoNe z) (fun a o na hh => r.ext a o (fun z => na (z.elim L1.isAvo .inr)) hh) y
    have hdrop : ds.drop i = d :: ds.drop (i + 1) := by
      rw [List.drop_eq_getElem_cons hi]
      rw [List.getElem?_eq_getElem hi] at hd
      rw [Option.some.inj hd]
    rw [hdrop] at hf
    have cnt : n + (ds.length - i) * cb = n + (ds.length - (i + 1)) * cb + cb := by
      have : ds.length - i = ds.length - (i + 1) + 1 := by omega
      rw [this, Nat.add_mul]
      omega
    have L2 := L'.growEx ex
    have r2 : Rl P H1 σ G H2 σ' G' := r.trans (.of (Ex.ext ex) fun _ z => z)
    refine sg P _ _ _ H2 σ' G' x d _ L2 rx hf _ fun σ3 G3 h3 L3 o3 _ => ?_
    have r3 : Rl P H1 σ G H2 σ3 G3 := r2.trans (.of (.refl _ _) o3)
    refine sb P av H0 { De with nx := fun G2 => forW wg wb (ds.drop (i + 1)) G2 De, ct := fun G2 => forW wg wb (ds.drop (i + 1)) G2 De, bk := De.nx } hw (n + (ds.length - (i + 1)) * cb) H2 σ3 G3 (L3.le (by omega)) h3 _ ⟨?_, ?_, ?_, ?_, fun p xs H4 ds h4 e4 k4 => dd.rf p xs H4 ds h4 e4 (P.mono k4 (by omega))⟩
    · exact fun σ4 H4 G4 h4 L4 r4 => ⟨G4, hi, L4, r3.trans r4, h4⟩
    · exact fun σ4 H4 G4 h4 L4 r4 => dd.nx _ _ _ h4 (L4.le (by omega)) (r1.trans (r3.trans r4))
    · exact fun σ4 H4 G4 h4 L4 r4 => ⟨G4, hi, L4, r3.trans r4, h4⟩
    · exact fun v H4 d4 h4 e4 k4 r4 => dd.rt v H4 d4 h4 e4 (P.mono k4 (by omega)) r4
  · rintro σ' H' ⟨G', hle, L', r, hf⟩
    rw [List.drop_length] at hf
    exact dd.nx _ _ _ hf (L'.le (by omega)) (r1.trans r)
def whileW (wt : WT) (wb : WS) : Nat → Gm → DEnds → Prop
  | 0, _, _ => False
  | k + 1, G, De => wt G De.ex fun b => fork b (wb G { De with nx := fun G2 => whileW wt wb k G2 De, ct := fun G2 => whileW wt wb k G2 De, bk := De.nx }) (De.nx G)
def wWhile (wt : WT) (wb : WS) : WS := fun G De => ∃ k, whileW wt wb k G De
theorem ds_while (hpo : ∀ i, PassesOwn (model (X i).prog (X i).w) (X i).A (X i).env (X i).xe) (ht : DT X K W 0 t wt) (hb : DSs X K W 0 body wb) : DS X K W 0 (.While t body [] pos) (wWhile wt wb) := by
  obtain ⟨tt, pt, s⟩ := ht
  obtain ⟨tb, pb, sb⟩ := hb
  refine ⟨_, fun i => ps_while (hpo i) (pt i) (pb i), fun P av H0 De hw n H σ G L h D dd => ?_⟩
  obtain ⟨k, h⟩ := h
  refine ⟨fun m σ' H' => ∃ G', LocOk P K av H0 n H' σ' G' ∧ Rl P H σ G H' σ' G' ∧ whileW wt wb m G' De, ⟨k, G, L, .of (.refl _ _) fun _ z => z, h⟩, ?_⟩
  rintro m σ' H' ⟨G', L', r, h⟩
  cases m with
  | zero => exact h.elim
  | succ m =>
    refine s P av H0 _ hw n H' σ' G' _ L' h _ fun b H2 hb L2 e2 => ?_
    have r2 : Rl P H σ G H2 σ' G' := r.trans (.of e2 fun _ z => z)
    cases b with
    | false => rw [fork_ff] at hb; exact dd.nx _ _ _ hb L2 r2
    | true =>
      rw [fork_tt] at hb
      refine ⟨fun σ3 H3 => ∃ G3, LocOk P K av H0 n H3 σ3 G3 ∧ Rl P H σ G H3 σ3 G3 ∧ whileW wt wb m G3 De, fun σ3 H3 z => ⟨m, by omega, z⟩, ?_⟩
      refine sb P av H0 { De with nx := fun G2 => whileW wt wb m G2 De, ct := fun G2 => whileW wt wb m G2 De, bk := De.nx } hw n H2 σ' G' L2 hb _ ⟨?_, ?_, ?_, dd.rt, dd.rf⟩
      · exact fun σ4 H4 G4 h4 L4 r4 => ⟨G4, L4, r2.trans r4, h4⟩
      · exact fun σ4 H4 G4 h4 L4 r4 => dd.nx _ _ _ h4 L4 (r2.trans r4)
      · exact fun σ4 H4 G4 h4 L4 r4 => ⟨G4, L4, r2.trans r4, h4⟩
/-! ### raise -/
abbrev veM : List Value := [.type "ValueError", .type "Exception", .type "BaseException", .type "object"]
structure XFact (K : Fg) (mg : Str → Option Value) (x : Str) (C : Addr) : Prop where
  g : mg x = some (.ref C)
  q : PySem.W.excIn K C veM "ValueError.__new__" = true
  kp : PySem.W.keepIn K (.ref C) = true
  b : PySem.W.subIn K (.ref C) (.type "BaseException") = some true
  t : PySem.W.typeIn K (.ref C) = some (.type "type")
def wRaise (C : Addr) : WS := fun _ De => De.ex (.ref C)
theorem ds_raise {mg : Str → Option Value} {x m : Str} {C : Addr} {j : Nat} {p3 : Pos} (hK : ∀ i, (X i).K = K) (hmg : ∀ i, (X i).mg = mg) (F : XFact K mg x C) (hc : ∀ i, (X i).calm = true) (tk : ∀ i, Takes (X i) W.w) (hg : ∀ i, Gl (X i) x := by intro _; rfl) (hdb : (x == ("__debug__" : Str)) = false := by decide) :
    DS X K W 0 (.Raise (some (.Call (.Name x p) [.Constant (.str m) j p2] [] p3)) none pos) (wRaise C) := by
  refine ⟨_, fun i => ps_raise (hc i) (tk i) (pmk_own PySem.F.excBase_ValueError (by rw [hK i]; exact F.q) (by rw [hmg i]; exact F.g) (by rw [hK i]; exact F.kp) (raises_own (by rw [hK i]; exact F.b) (by rw [hK i]; exact F.t)) (hg i) hdb), fun P av H0 De hw n H σ G L h D dd => ?_⟩
  exact hw.2 _ _ _ h L.ext
def wRaise1 (C : Addr) (w : WE) : WS := fun G De => w G De.ex fun _ => De.ex (.ref C)
theorem ds_raise1 {mg : Str → Option Value} {x : Str} {C : Addr} {p3 : Pos} (hK : ∀ i, (X i).K = K) (hmg : ∀ i, (X i).mg = mg) (F : XFact K mg x C) (hc : ∀ i, (X i).calm = true) (tk : ∀ i, Takes (X i) W.w) (h : DE X K W c e w) (hg : ∀ i, Gl (X i) x := by intro _; rfl) (hs : ∀ i, starEach [e] (X i).env = (false, eval e (X i).env) :: starEach [] (X i).env := by intro _; rfl)
    (hdb : (x == ("__debug__" : Str)) = false := by decide) : DS X K W c (.Raise (some (.Call (.Name x p) [e] [] p3)) none pos) (wRaise1 C w) := by
  obtain ⟨te, pe, s⟩ := h
  refine ⟨_, fun i => ps_raise (hc i) (tk i) (SkE.pmk_own1 PySem.F.excBase_ValueError (by rw [hK i]; exact F.q) (by rw [hmg i]; exact F.g) (by rw [hK i]; exact F.kp) (raises_own (by rw [hK i]; exact F.b) (by rw [hK i]; exact F.t)) (hg i) (pe i) (hs i) hdb), fun P av H0 De hw n H σ G L h D dd => ?_⟩
  exact s P av H0 _ hw n H σ G _ L h _ fun v H' d hd L' e' r => hw.2 _ _ _ hd L'.ext
end
/-! ### a def of the text -/
def startG (N : List Str) (ds : List D) : Gm := ds.map .dat ++ List.replicate (N.length - ds.length) .un
theorem loc_start {K : Fg} {av : Av} {H : Hp} {n : Nat} {N : List Str} {vs : List V} {ds : List D} (ha : ∀ a, av a → H a ≠ none) (r : Rps K av H vs ds) : LocOk noPen K av H n H (L2.start N vs) (startG N ds) := by
  have no : ∀ a, ¬ Own (L2.start N vs) (startG N ds) a := by
    rintro a ⟨i, es, h1, _⟩
    unfold startG at h1
    rw [List.getElem?_append] at h1
    split at h1
    · rw [List.getElem?_map] at h1
      cases q : ds[i]? with
      | none => rw [q] at h1; exact nomatch h1
      | some d => rw [q] at h1; exact nomatch h1
    · rw [List.getElem?_replicate] at h1
      split at h1 <;> exact nomatch h1
  have el : vs.length = ds.length := r.len
  refine ⟨by unfold startG L2.start; rw [List.length_append, List.length_append, List.length_map, List.length_map, List.length_replicate, List.length_replicate, el], fun i s h => ?_, fun i j d1 d2 a h1 _ h3 _ => absurd ⟨i, d1, h1, h3⟩ (no a), .refl _ _, fun a z => absurd z (no a), trivial, fun _ z => z.elim, ha⟩
  unfold startG at h
  rw [List.getElem?_append] at h
  split at h
  · rename_i hl
    rw [List.length_map] at hl
    rw [List.getElem?_map] at h
    obtain ⟨d, hd⟩ : ∃ d, ds[i]? = some d := ⟨_, List.getElem?_eq_getElem hl⟩
    rw [hd] at h
    cases h
    obtain ⟨v, e1, e2⟩ := r.get hd
    refine ⟨some v, ?_, v, rfl, e2.ext (is := fun _ => False) (.refl _ _) (fun _ z => z.elim) fun a _ z => z.elim id fun z => absurd z (no a)⟩
    unfold L2.start
    rw [List.getElem?_append_left (by rw [List.length_map, el]; exact hl), List.getElem?_map, e1]
    rfl
  · rename_i hl
    rw [List.length_map] at hl
    rw [List.getElem?_replicate] at h
    split at h
    · rename_i h2
      cases h
      rw [List.length_map] at h2
      refine ⟨none, ?_, trivial⟩
      unfold L2.start
      rw [List.getElem?_append_right (by rw [List.length_map, el]; omega), List.getElem?_replicate, List.length_map, el, if_pos h2]
    · exact nomatch h
def dEnds (ed : Value → Prop) (Q : D → Prop) : DEnds := ⟨fun _ => Q .non, Q, fun _ => False, fun _ => False, ed, fun ds => Q (.lst ds)⟩
theorem rp_fresh {K : Fg} {av : Av} {H0 H : Hp} {p : Addr} {xs : List V} {ds : List D} (ha : ∀ a, av a → H0 a ≠ none) (h0 : H0 p = none) (h : H p = some (.lst xs)) (r : Rps K (avp av p) H xs ds) : Rp K av H (.ref p) (.lst ds) :=
  .lst ⟨h, fun z => ha p z h0⟩ (r.ext (is := fun _ => False) (.refl _ _) (fun _ z => z.elim) fun _ _ z => .inl z)
theorem dfn_of {P : Program} {w : World} {K : Fg} {mg : Str → Option Value} {base : Heap} {x : Str} {st : Stmt} {f : Addr} {fd : FuncData} {N ps : List Str} {k np : Nat} {Wf : WF} {wb : WS} {c : Nat} (F : Fun K x x st f fd) (S : FnScope N ps (defScope st)) (g : mg x = some (.ref f)) (b : Binds K fd ps []) (hnp : ps.length = np)
    (hlen : ∀ ds ed Q, Wf ds ed Q → ds.length = np)
    (hbody : ∀ (cdv : Value) (A : Around) (outer : List Env) (s : Shared) (H : Hp) (E : XK), Room k (A.deeper (envOfC x (defScope st) s.heap.objs.size f cdv)) →
      DSs (fun _ : Unit => cxOf (L2.CX P w) P w K mg base N x (defScope st) f cdv A outer s H E) K ⟨fun cls d _ H => E cls d H, fun _ => True⟩ c (defBody st) wb)
    (hw : ∀ ds ed Q, Wf ds ed Q → wb (startG N ds) (dEnds ed Q)) : DFn P w K mg base x (k + 1) np Wf := by
  refine ⟨hlen, f, fd, ps, g, F.kp, b, ?_⟩
  refine F.okX S (fun vs H Q E h => by rw [h.1, hnp]) fun cdv A outer s H vs Q E hr h => ?_
  obtain ⟨hl, av, ds, ed, Qd, ha, r, hwf, hE, hQ⟩ := h
  obtain ⟨ts, pss, sem⟩ := hbody cdv A outer s H E hr
  refine ⟨ts, pss (), ?_⟩
  refine sem noPen av H (dEnds ed Qd) ⟨trivial, fun cls σ H' hc ex => hE cls H' hc fun a o hh => ex a o (fun z => z) hh⟩ 0 H _ _ (loc_start ha r) (hw ds ed Qd hwf) _ ⟨?_, fun _ _ _ z => z.elim, fun _ _ _ z => z.elim, ?_, ?_⟩
  · exact fun σ' H' G' h' L' r' => hQ _ H' _ h' (fun a o hh => L'.ext a o (fun z => z) hh) .non
  · exact fun v H' d h' e' _ r' => hQ v H' d h' (fun a o hh => e' a o (fun z => z) hh) r'
  · exact fun p xs H' ds h' e' _ h0 h1 r' => hQ _ H' _ h' (fun a o hh => e' a o (fun z => z) hh) (rp_fresh ha h0 h1 r')
end DL

namespace DL
open PySem PySem.Spec PyProof.Rows L2
section
variable {ι : Type} {X : ι → Cx} {K : Fg} {W : Ctl} {c c1 c2 c3 ci cb : Nat} {e a b t tg it elt : Expr} {es : List Expr} {w wa wb : WE} {wt : WT} {wl wi : WL} {wg : WG} {pos p p2 apos cpos : Pos}
/-! ### a + b, a * b of whatever kind -/
def rAdd3 : R2 := fun x y H Q => rAdd2 x y H Q ∨ rCat x y H Q
def fAddA : D → D → (D → Prop) → Prop
  | .int i, .int j, Q => Q (.int (i + j))
  | .str i, .str j, Q => i.length + j.length ≤ sizeLine ∧ Q (.str (i ++ j))
  | .lst xs, .lst ys, Q => xs.length + ys.length ≤ sizeLine ∧ Q (.lst (xs ++ ys))
  | _, _, _ => False
theorem opAddA : OpS K rAdd3 fAddA := by
  intro is av H x y dx dy Qd hi ha rx ry h Q q
  cases dx <;> try exact h.elim
  · cases dy <;> try exact h.elim
    exact .inl (opAdd (K := K) is av H x y _ _ Qd hi ha rx ry h Q q)
  · cases dy <;> try exact h.elim
    exact .inl (opAdd (K := K) is av H x y _ _ Qd hi ha rx ry h Q q)
  · cases dy <;> try exact h.elim
    refine .inr (opCat (K := K) is av H x y _ _ (fun ds => Qd (.lst ds)) hi ha rx ry h Q fun p xs ds hd hp r => q _ _ _ hd (ex_new hp) (.lst ⟨upd_same, fun z => ha p z hp⟩ (r.ext (is := is) (.new hp) hi fun _ _ z => z)))
theorem de_addA (ha : DR X K W c1 a wa) (hb : DR X K W c2 b wb) : DE X K W (c1 + c2) (.BinOp a .Add b pos) (w2 fAddA wa wb) := two opAddA (fun _ _ _ pa pb => pe_op ((op_add.or op_add_str).or op_cat) pa pb) ha hb
def rMulS : R2 := fun x y H Q => ∃ (a : Str) (k : Int), x = .str a ∧ y = .int k ∧ MulOk a k ∧ Q (.str (Txt.mul a k)) H
theorem op_mulS {X : Cx} : OpR X (binaryOp .Mult) rMulS := by
  intro pins s σ H x y v u Q I rx ry h
  obtain ⟨a, k, rfl, rfl, hk, q⟩ := h
  obtain ⟨t, rfl⟩ := rx
  obtain ⟨t2, rfl⟩ := ry
  exact SB.mul hk fun t' k' => ⟨.str _, H, I.tok _, ⟨t', rfl⟩, q⟩
theorem mulOk_of {a : Str} {k : Int} (h0 : 0 ≤ k) (h1 : k ≤ 1000) (h2 : a.length ≤ 1000) : MulOk a k := by
  have e : a.length * k.toNat ≤ 1000 * 1000 := Nat.mul_le_mul h2 (by omega)
  refine ⟨?_, fun hk _ => ?_, fun _ _ => ?_⟩
  · rw [Bool.or_eq_false_iff]
    constructor
    · exact decide_eq_false (by omega)
    · exact decide_eq_false (by omega)
  · have e2 : (9223372036854775807 : Int) / 1000 ≤ 9223372036854775807 / k := Int.le_ediv_of_mul_le (by omega) (by
      have := Int.mul_le_mul_of_nonneg_left h1 (show (0 : Int) ≤ 9223372036854775807 / 1000 by decide)
      have e3 : (9223372036854775807 : Int) / 1000 * 1000 ≤ 9223372036854775807 := by decide
      omega)
    have e4 : (1000 : Int) ≤ 9223372036854775807 / 1000 := by decide
    have e5 : ((2 : Int) ^ 63 - 1) = 9223372036854775807 := by decide
    rw [e5]
    omega
  · unfold Builtin.Str.tooLong
    rw [sizeLine_eq]
    exact decide_eq_false (by omega)
def rMul3 : R2 := fun x y H Q => rI CMul (fun i j => .int (i * j)) x y H Q ∨ rRep x y H Q ∨ rMulS x y H Q
def fMulA : D → D → (D → Prop) → Prop
  | .int i, .int j, Q => CMul i j ∧ Q (.int (i * j))
  | .lst xs, .int k, Q => -(2 ^ 63) ≤ k ∧ k < 2 ^ 63 ∧ xs.length * k.toNat ≤ sizeLine ∧ Q (.lst (List.replicate k.toNat xs).flatten)
  | .str a, .int k, Q => 0 ≤ k ∧ k ≤ 1000 ∧ a.length ≤ 1000 ∧ Q (.str (Txt.mul a k))
  | _, _, _ => False
theorem opMulA : OpS K rMul3 fMulA := by
  intro is av H x y dx dy Qd hi ha rx ry h Q q
  cases dx <;> try exact h.elim
  · cases dy <;> try exact h.elim
    exact .inl (opI (K := K) (fun _ _ => .int _) is av H x y _ _ Qd hi ha rx ry h Q q)
  · cases dy <;> try exact h.elim
    cases rx
    cases ry
    exact .inr (.inr ⟨_, _, rfl, rfl, mulOk_of h.1 h.2.1 h.2.2.1, q _ _ _ h.2.2.2 (fun _ _ z => z) (.str _)⟩)
  · cases dy <;> try exact h.elim
    refine .inr (.inl (opRep (K := K) is av H x y _ _ (fun ds => Qd (.lst ds)) hi ha rx ry h Q fun p xs ds hd hp r => q _ _ _ hd (ex_new hp) (.lst ⟨upd_same, fun z => ha p z hp⟩ (r.ext (is := is) (.new hp) hi fun _ _ z => z))))
theorem de_mulA (ha : DR X K W c1 a wa) (hb : DR X K W c2 b wb) : DE X K W (c1 + c2) (.BinOp a .Mult b pos) (w2 fMulA wa wb) := two opMulA (fun _ _ _ pa pb => pe_op (op_mul.or (op_rep.or op_mulS)) pa pb) ha hb
def fNeg : D → (D → Prop) → Prop
  | .int i, Q => Q (.int (-i))
  | _, _ => False
def w1 (f : D → (D → Prop) → Prop) (wa : WE) : WE := fun G ed Q => wa G ed fun x => f x Q
theorem de_neg (ha : DE X K W c a w) : DE X K W c (.UnaryOp .USub a pos) (w1 fNeg w) := by
  obtain ⟨ta, pa, s⟩ := ha
  refine ⟨_, fun i => pe_un un_neg (pa i), fun P av H0 ed hw n H σ G Qd L h Q q => s P av H0 ed hw n H σ G _ L h _ fun x H1 dx hx L1 e1 r1 => ?_⟩
  cases r1 with
  | int i => exact ⟨i, rfl, q _ _ _ hx L1 e1 (.int _)⟩
  | _ => exact hx.elim
/-! ### texts: f"..", join, upper -/
def fFmt : D → (D → Prop) → Prop
  | .str y, Q => y.length ≤ sizeLine ∧ Q (.str y)
  | .int i, Q => i.natAbs.log2 < 1920 ∧ Q (.str (toString i))
  | _, _ => False
theorem de_fmt (ha : DE X K W c a w) : DE X K W c (.FormattedValue a (-1) none pos) (w1 fFmt w) := by
  obtain ⟨ta, pa, s⟩ := ha
  refine ⟨_, fun i => pe_fmt (pa i), fun P av H0 ed hw n H σ G Qd L h Q q => s P av H0 ed hw n H σ G _ L h _ fun x H1 dx hx L1 e1 r1 => ?_⟩
  cases r1 with
  | int i => exact .inr ⟨i, rfl, hx.1, q _ _ _ hx.2 L1 e1 (.str _)⟩
  | str y => exact .inl ⟨y, rfl, hx.1, q _ _ _ hx.2 L1 e1 (.str _)⟩
  | _ => exact hx.elim
abbrev WJ := Gm → (Value → Prop) → Str → (Str → Prop) → Prop
def DJ {ι : Type} (X : ι → Cx) (K : Fg) (W : Ctl) (c : Nat) (es : List Expr) (w : WJ) : Prop := ∃ ts, (∀ i, PJ (X i) es ts) ∧ ∀ (P : Pn) (av : Av) (H0 : Hp) (ed : Value → Prop), HW W P H0 ed → ∀ (n : Nat) (H : Hp) (σ : Sg) (G : Gm) (acc : Str) (Qd : Str → Prop),
  LocOk P K av H0 (n + c) H σ G → w G ed acc Qd → ∀ Q : Str → Hp → Prop, (∀ s H', Qd s → LocOk P K av H0 n H' σ G → Ext P.is H H' → Q s H') → tJs ts acc σ H Q
def jNil : WJ := fun _ _ acc Q => Q acc
def jCons (w : WE) (r : WJ) : WJ := fun G ed acc Q => w G ed fun d => onS d fun y => (acc ++ y).length ≤ sizeLine ∧ r G ed (acc ++ y) Q
theorem dj_nil : DJ X K W 0 [] jNil := ⟨[], fun _ => .nil, fun P av H0 ed hw n H σ G acc Qd L h Q q => q _ _ h L (.refl _ _)⟩
theorem dj_cons {wr : WJ} (ha : DE X K W c1 e w) (hr : DJ X K W c2 es wr) : DJ X K W (c1 + c2) (e :: es) (jCons w wr) := by
  obtain ⟨te, pe, s1⟩ := ha
  obtain ⟨ts, pr, s2⟩ := hr
  refine ⟨te :: ts, fun i => .cons (pe i) (pr i), fun P av H0 ed hw n H σ G acc Qd L h Q q => s1 P av H0 ed hw (n + c2) H σ G _ (L.le (by omega)) h _ fun x H1 d hd L1 e1 r1 => ?_⟩
  obtain ⟨y, rfl, hz, hr⟩ := onS_of hd
  cases r1
  exact ⟨y, rfl, hz, s2 P av H0 ed hw n H1 σ G _ _ (L1.le (Nat.le_refl _)) hr _ fun s H2 hs L2 e2 => q _ _ hs L2 (e1.trans e2)⟩
def wJs (w : WJ) : WE := fun G ed Q => w G ed Str.empty fun s => Q (.str s)
theorem de_fstr {v1 v2 : Expr} {wr : WJ} (h : DJ X K W c (v1 :: v2 :: es) wr) : DE X K W c (.JoinedStr (v1 :: v2 :: es) pos) (wJs wr) := by
  obtain ⟨ts, pj, s⟩ := h
  exact ⟨_, fun i => pe_joined (pj i), fun P av H0 ed hw n H σ G Qd L h Q q => s P av H0 ed hw n H σ G _ _ L h _ fun s H' hs L' e' => q _ _ _ hs L' e' (.str _)⟩
/-- sep.join(list of texts) -/
def fJoin : D → List D → (D → Prop) → Prop := fun x ds Q => ∃ a, ∃ ys : List Str, x = .str a ∧ (ds = [.lst (ys.map .str)]) ∧ (ys.map (·.length)).sum + ys.length * a.length ≤ 16777216 ∧ Q (.str (Txt.join a ys))
theorem rps_str {K : Fg} {av : Av} {H : Hp} : ∀ {bs : List Str} {xs : List V}, Rps K av H xs (bs.map .str) → xs = bs.map V.str
  | [], _, h => by cases h; rfl
  | b :: bs, _, h => by
    cases h with
    | cons h hs =>
      cases h
      rw [rps_str hs]
      rfl
theorem de_join (hK : ∀ i, (X i).K = K) (ha : DR X K W c1 a wa) (hb : DB X K W c2 [e] wl)
    (hbase : ∀ i, attributeBase a "join" (X i).env (eval a (X i).env) = eval a (X i).env := by intro _; rfl)
    (hfew : ∀ i, ((backTo cpos (starEach [e] (X i).env)).all (fun x => !x.1) && (backToKw cpos (keywordEach [] (X i).env)).all (fun x => x.1.isSome) && decide ([e].length + ([] : List Keyword).length + (if ([] : List Keyword).isEmpty then 0 else 1) < 30)) = true := by intro _; rfl)
    (hline : (apos.endLine == cpos.line) = true := by rfl) (hs : ∀ i, starEach [e] (X i).env = (false, eval e (X i).env) :: starEach [] (X i).env := by intro _; rfl) : DE X K W (c1 + c2) (.Call (.Attribute a "join" apos) [e] [] cpos) (wMe fJoin isStr wa wl) := by
  refine de_me (T := "str") (r := fun _ x xs H Q => ∃ a p, ∃ ys : List Str, x = .str a ∧ xs = [.ref p] ∧ (SqL K H p (ys.map V.str) ∨ SqT K H p (ys.map V.str)) ∧ (ys.map (·.length)).sum + ys.length * a.length ≤ 16777216 ∧ Q (.str (Txt.join a ys)) H) (fun _ _ _ _ _ => str_ty) ?_
    (fun i _ _ pa pl => by rw [← hK i]; exact pe_bmS PySem.F.plainAttrs_str PySem.F.slot_str_join PySem.F.type_str_join (MtR.toS mt_join) pa pl (hbase i) (hfew i) hline (hs i)) ha hb
  intro is av σ H H' x xs dx ds Qd hi ha ex rx rs h Q q
  obtain ⟨a, ys, rfl, rfl, hz, h⟩ := h
  cases rx
  cases rs with
  | cons r rr =>
    cases rr
    obtain ⟨p, zs, rfl, n, r⟩ := r
    rw [rps_str r] at n
    exact ⟨_, p, ys, rfl, rfl, .inl n.sq, hz, q _ H' _ h (fun _ _ z => z) (.str _)⟩
/-! ### a module's constants, built-ins that stay -/
structure GC (mg : Str → Option Value) (x : Str) (d : D) : Prop where
  ex : ∃ (u : Value) (v : V), mg x = some u ∧ RelV v u ∧ Atom v d
theorem de_gc {mg : Str → Option Value} {x : Str} {d : D} (hmg : ∀ i, (X i).mg = mg) (C : GC mg x d) (hg : ∀ i, Gl (X i) x := by intro _; rfl) (hd : (x == ("__debug__" : Str)) = false := by decide) : DE X K W 0 (.Name x pos) (wC d) := by
  obtain ⟨u, v, h1, h2, h3⟩ := C.ex
  exact de_glob (fun i => by rw [hmg i]; exact h1) h2 h3 hg hd
end
structure Bl (mg : Str → Option Value) : Prop where
  isi : mg "isinstance" = none
  len : mg "len" = none
  bool : mg "bool" = none
  int : mg "int" = none
  str : mg "str" = none
  list : mg "list" = none
  tuple : mg "tuple" = none
  dict : mg "dict" = none
  all : mg "all" = none
  any : mg "any" = none
  range : mg "range" = none
  enumerate : mg "enumerate" = none
  zip : mg "zip" = none
  sorted : mg "sorted" = none
  set : mg "set" = none
  repr : mg "repr" = none
  min : mg "min" = none
  max : mg "max" = none
  sum : mg "sum" = none
  reversed : mg "reversed" = none
  type : mg "type" = none
  abs : mg "abs" = none
theorem bt_bool : bootBuiltins "bool" = some (.type "bool") := by decide +kernel
theorem bt_int : bootBuiltins "int" = some (.type "int") := by decide +kernel
theorem bt_str : bootBuiltins "str" = some (.type "str") := by decide +kernel
theorem bt_list : bootBuiltins "list" = some (.type "list") := by decide +kernel
theorem bt_tuple : bootBuiltins "tuple" = some (.type "tuple") := by decide +kernel
theorem bt_dict : bootBuiltins "dict" = some (.type "dict") := by decide +kernel
end DL

namespace DL
open PySem PySem.Spec PyProof.Rows L2
/-! ### isinstance, by forms -/
theorem isi_non_bool : isiD .non "bool" = some false := by decide +kernel
theorem isi_non_int : isiD .non "int" = some false := by decide +kernel
theorem isi_non_str : isiD .non "str" = some false := by decide +kernel
theorem isi_non_tuple : isiD .non "tuple" = some false := by decide +kernel
theorem isi_non_list : isiD .non "list" = some false := by decide +kernel
theorem isi_bl_bool {b : Bool} : isiD (.bl b) "bool" = some true := (by decide +kernel : kitB "bool" "bool" = some true)
theorem isi_bl_int {b : Bool} : isiD (.bl b) "int" = some true := (by decide +kernel : kitB "bool" "int" = some true)
theorem isi_bl_str {b : Bool} : isiD (.bl b) "str" = some false := (by decide +kernel : kitB "bool" "str" = some false)
theorem isi_bl_tuple {b : Bool} : isiD (.bl b) "tuple" = some false := (by decide +kernel : kitB "bool" "tuple" = some false)
theorem isi_bl_list {b : Bool} : isiD (.bl b) "list" = some false := (by decide +kernel : kitB "bool" "list" = some false)
theorem isi_int_bool {b : Int} : isiD (.int b) "bool" = some false := (by decide +kernel : kitB "int" "bool" = some false)
theorem isi_int_int {b : Int} : isiD (.int b) "int" = some true := (by decide +kernel : kitB "int" "int" = some true)
theorem isi_int_str {b : Int} : isiD (.int b) "str" = some false := (by decide +kernel : kitB "int" "str" = some false)
theorem isi_int_tuple {b : Int} : isiD (.int b) "tuple" = some false := (by decide +kernel : kitB "int" "tuple" = some false)
theorem isi_int_list {b : Int} : isiD (.int b) "list" = some false := (by decide +kernel : kitB "int" "list" = some false)
theorem isi_str_bool {b : Str} : isiD (.str b) "bool" = some false := (by decide +kernel : kitB "str" "bool" = some false)
theorem isi_str_int {b : Str} : isiD (.str b) "int" = some false := (by decide +kernel : kitB "str" "int" = some false)
theorem isi_str_str {b : Str} : isiD (.str b) "str" = some true := (by decide +kernel : kitB "str" "str" = some true)
theorem isi_str_tuple {b : Str} : isiD (.str b) "tuple" = some false := (by decide +kernel : kitB "str" "tuple" = some false)
theorem isi_str_list {b : Str} : isiD (.str b) "list" = some false := (by decide +kernel : kitB "str" "list" = some false)
theorem isi_tup_bool {b : List D} : isiD (.tup b) "bool" = some false := (by decide +kernel : kitB "tuple" "bool" = some false)
theorem isi_tup_int {b : List D} : isiD (.tup b) "int" = some false := (by decide +kernel : kitB "tuple" "int" = some false)
theorem isi_tup_str {b : List D} : isiD (.tup b) "str" = some false := (by decide +kernel : kitB "tuple" "str" = some false)
theorem isi_tup_tuple {b : List D} : isiD (.tup b) "tuple" = some true := (by decide +kernel : kitB "tuple" "tuple" = some true)
theorem isi_tup_list {b : List D} : isiD (.tup b) "list" = some false := (by decide +kernel : kitB "tuple" "list" = some false)
theorem isi_lst_bool {b : List D} : isiD (.lst b) "bool" = some false := (by decide +kernel : kitB "list" "bool" = some false)
theorem isi_lst_int {b : List D} : isiD (.lst b) "int" = some false := (by decide +kernel : kitB "list" "int" = some false)
theorem isi_lst_str {b : List D} : isiD (.lst b) "str" = some false := (by decide +kernel : kitB "list" "str" = some false)
theorem isi_lst_tuple {b : List D} : isiD (.lst b) "tuple" = some false := (by decide +kernel : kitB "list" "tuple" = some false)
theorem isi_lst_list {b : List D} : isiD (.lst b) "list" = some true := (by decide +kernel : kitB "list" "list" = some true)
theorem isi_dic_bool {a : List Key} {b : List D} : isiD (.dic a b) "bool" = some false := (by decide +kernel : kitB "dict" "bool" = some false)
theorem isi_dic_int {a : List Key} {b : List D} : isiD (.dic a b) "int" = some false := (by decide +kernel : kitB "dict" "int" = some false)
theorem isi_dic_str {a : List Key} {b : List D} : isiD (.dic a b) "str" = some false := (by decide +kernel : kitB "dict" "str" = some false)
theorem isi_dic_tuple {a : List Key} {b : List D} : isiD (.dic a b) "tuple" = some false := (by decide +kernel : kitB "dict" "tuple" = some false)
theorem isi_dic_list {a : List Key} {b : List D} : isiD (.dic a b) "list" = some false := (by decide +kernel : kitB "dict" "list" = some false)
/-! ### loops, by lists -/
theorem compW_map {wg : WG} {we : WE} {G : Gm} {f : D → D} : ∀ {ds : List D} {acc : List D} {Q : List D → Prop}, (∀ d ∈ ds, ∀ R : D → Prop, R (f d) → wg d G fun G1 => we G1 (fun _ => False) R) → Q (acc ++ ds.map f) → compW wg wTt we G ds acc Q
  | [], acc, Q, _, q => by simpa [compW] using q
  | d :: r, acc, Q, h, q => by
    show wg d G fun G1 => fork true (we G1 (fun _ => False) fun y => compW wg wTt we G r (acc ++ [y]) Q) (compW wg wTt we G r acc Q)
    have e : (fun G1 => fork true (we G1 (fun _ => False) fun y => compW wg wTt we G r (acc ++ [y]) Q) (compW wg wTt we G r acc Q)) = fun G1 => we G1 (fun _ => False) fun y => compW wg wTt we G r (acc ++ [y]) Q := funext fun G1 => fork_tt
    rw [e]
    refine h d List.mem_cons_self _ ?_
    have : acc ++ (d :: r).map f = (acc ++ [f d]) ++ r.map f := by simp
    rw [this] at q
    exact compW_map (fun d hd => h d (List.mem_cons_of_mem _ hd)) q
theorem compW_filter {wg : WG} {wt : WT} {we : WE} {G : Gm} {f : D → D} {t : D → Bool} : ∀ {ds : List D} {acc : List D} {Q : List D → Prop}, (∀ d ∈ ds, ∀ (R : D → Prop) (Z : Prop), (t d = true → R (f d)) → (t d = false → Z) → wg d G fun G1 => wt G1 (fun _ => False) fun b => fork b (we G1 (fun _ => False) R) Z) → Q (acc ++ (ds.filter t).map f) → compW wg wt we G ds acc Q
  | [], acc, Q, _, q => by simpa [compW] using q
  | d :: r, acc, Q, h, q => by
    refine h d List.mem_cons_self _ _ (fun ht => ?_) (fun ht => ?_)
    · rw [List.filter_cons_of_pos ht, List.map_cons] at q
      have : acc ++ f d :: (r.filter t).map f = (acc ++ [f d]) ++ (r.filter t).map f := by simp
      rw [this] at q
      exact compW_filter (fun d hd => h d (List.mem_cons_of_mem _ hd)) q
    · rw [List.filter_cons_of_neg (by rw [ht]; decide)] at q
      exact compW_filter (fun d hd => h d (List.mem_cons_of_mem _ hd)) q
theorem forW_ind {wg : WG} {wb : WS} {De : DEnds} (I : List D → Gm → Prop)
    (step : ∀ d r G, I (d :: r) G → (∀ G', I r G' → forW wg wb r G' De) → wg d G fun G1 => wb G1 { De with nx := fun G2 => forW wg wb r G2 De, ct := fun G2 => forW wg wb r G2 De, bk := De.nx })
    (fin : ∀ G, I [] G → De.nx G) : ∀ r G, I r G → forW wg wb r G De
  | [], G, h => fin G h
  | d :: r, G, h => step d r G h fun G' h' => forW_ind I step fin r G' h'
end DL

namespace DL
open PySem PySem.Spec PyProof.Rows L2
/-! ### the pen: [cells, how many cells are used, what is left]; n: how many draws may follow -/
def penOk (p c : Addr) (n : Nat) (H : Hp) : Prop := p ≠ c ∧ ∃ (cells : List Int) (k z : Int), H c = some (.lst (cells.map V.int)) ∧ cells.length ≤ 12 ∧ H p = some (.lst [.ref c, .int k, .int z]) ∧ 0 ≤ k ∧ k + n ≤ 1000000000
def penP (p c : Addr) : Pn where
  is := fun a => a = p ∨ a = c
  ok := penOk p c
  mono := fun {n m H} h hm => by
    obtain ⟨ne, cells, k, z, h1, h2, h3, h4, h5⟩ := h
    exact ⟨ne, cells, k, z, h1, h2, h3, h4, by omega⟩
  stab := fun {n H H'} h e _ => by
    obtain ⟨ne, cells, k, z, h1, h2, h3, h4, h5⟩ := h
    exact ⟨ne, cells, k, z, by rw [e c (.inr rfl)]; exact h1, h2, by rw [e p (.inl rfl)]; exact h3, h4, h5⟩
  al := fun {n H a} h i => by
    obtain ⟨ne, cells, k, z, h1, h2, h3, h4, h5⟩ := h
    rcases i with rfl | rfl
    · rw [h3]; exact fun z => nomatch z
    · rw [h1]; exact fun z => nomatch z
abbrev pcP (p : Addr) : Pn → Prop := fun P => ∃ c, P = penP p c
/-- what a def with a pen promises; it draws at most cst times -/
def spP (K : Fg) (np cst : Nat) (Wf : WF) : Sp := fun vs H Q E => vs.length = np + 1 ∧ ∃ (p c : Addr) (n : Nat) (av : Av) (rest : List V) (ds : List D) (ed : Value → Prop) (Qd : D → Prop), vs = .ref p :: rest ∧ penOk p c (n + cst) H ∧ av p ∧ av c ∧ (∀ a, av a → H a ≠ none) ∧ Rps K av H rest ds ∧ Wf ds ed Qd ∧
  (∀ cls H', ed cls → Ext (penP p c).is H H' → E cls none H') ∧ ∀ v H' d, Qd d → Ext (penP p c).is H H' → penOk p c n H' → Rp K av H' v d → Q v H'
structure PFn (P : Program) (w : World) (K : Fg) (mg : Str → Option Value) (base : Heap) (x : Str) (k np cst : Nat) (Wf : WF) : Prop where
  len : ∀ ds ed Q, Wf ds ed Q → ds.length = np
  ex : ∃ (f : Addr) (fd : FuncData) (ps : List Str), mg x = some (.ref f) ∧ PySem.W.keepIn K (.ref f) = true ∧ Binds K fd ps [] ∧ FnOk P w K mg base (L2.CX P w) k f fd ps (spP K np cst Wf)
section
variable {ι : Type} {X : ι → Cx} {K : Fg} {W : Ctl} {c : Nat} {e : Expr} {es : List Expr} {wl : WL} {pos p2 : Pos}
/-- the first argument is the pen -/
def penA : List D → (Addr → List D → Prop) → Prop
  | .obj (.ref q) :: r, Q => Q q r
  | _, _ => False
theorem penA_of {ds : List D} {Q : Addr → List D → Prop} (h : penA ds Q) : ∃ q r, ds = .obj (.ref q) :: r ∧ Q q r := by
  unfold penA at h
  split at h
  · exact ⟨_, _, rfl, h⟩
  · exact h.elim
def wCallP (p : Addr) (Wf : WF) (wl : WL) : WE := fun G ed Q => wl G ed fun ds => penA ds fun q r => q = p ∧ Wf r ed Q
theorem de_callP {P : Program} {w : World} {mg : Str → Option Value} {base : Heap} {x : Str} {k kk np cst : Nat} {Wf : WF} {p : Addr} (F : PFn P w K mg base x k np cst Wf) (hF : Fam X P w K mg base) (hp : ∀ Q, W.pc Q → pcP p Q) (tk : ∀ i, Takes (X i) W.w) (hr : ∀ i, Room kk (X i).A) (h : DA X K W c (e :: es) wl) (hk : k ≤ kk := by decide)
    (hg : ∀ i, Gl (X i) x := by intro _; rfl) (hdb : (x == ("__debug__" : Str)) = false := by decide) (he : ∀ i, starEach (e :: es) (X i).env = (false, eval e (X i).env) :: starEach es (X i).env := by intro _; rfl) (hpl : ∀ i, (backTo pos (starEach es (X i).env)).any (·.1) = false := by intro _; rfl) :
    DE X K W (c + cst) (.Call (.Name x p2) (e :: es) [] pos) (wCallP p Wf wl) := by
  obtain ⟨ta, pa, s⟩ := h
  obtain ⟨f, fd, ps, h1, h2, h3, h4⟩ := F.ex
  refine ⟨tCallS (spP K np cst Wf) (L2.WE W.w) ta, fun i => ?_, fun P' av H0 ed hw n H σ G Qd L h Q q => ?_⟩
  · obtain ⟨e1, e2, e3, e4, e5⟩ := hF i
    subst e1; subst e2; subst e3; subst e4; subst e5
    exact pe_callS (h4.mono (Nat.le_refl _)) ((hr i).mono hk) (hg i) h1 h2 h3 (fun σ => passAt (tk i) σ) (pa i) hdb (he i) (hpl i)
  · obtain ⟨cc, rfl⟩ := hp P' hw.1
    refine s (penP p cc) av H0 ed hw (n + cst) H σ G _ (L.le (by omega)) h _ fun vs H1 ds hd L1 e1 r1 => ?_
    obtain ⟨q', r, e0, e2, hd2⟩ := penA_of hd
    subst e0
    subst e2
    cases r1 with
    | cons r0 rr =>
      cases r0
      refine ⟨by rw [List.length_cons, rr.len, F.len r ed Qd hd2], q', cc, n, avo av σ G, _, r, ed, Qd, rfl, L1.ok, L1.isAvo (.inl rfl), L1.isAvo (.inr rfl), fun _ => L1.avoNe, rr, hd2, fun cls H' hc ex => hw.2 cls σ H' hc (L1.ext.trans ex), fun v H' d hd ex hk r => ?_⟩
      exact q v H' d hd (L1.grow ex hk) (e1.trans ex) r
/-- a def of the text that draws -/
theorem pfn_of {P : Program} {w : World} {K : Fg} {mg : Str → Option Value} {base : Heap} {x : Str} {st : Stmt} {f : Addr} {fd : FuncData} {N ps : List Str} {k np cst c' : Nat} {Wf : WF} {wb : Addr → WS} (F : Fun K x x st f fd) (S : FnScope N ps (defScope st)) (g : mg x = some (.ref f)) (b : Binds K fd ps []) (hnp : ps.length = np + 1)
    (hlen : ∀ ds ed Q, Wf ds ed Q → ds.length = np)
    (hbody : ∀ (p : Addr) (cdv : Value) (A : Around) (outer : List Env) (s : Shared) (H : Hp) (E : XK), Room k (A.deeper (envOfC x (defScope st) s.heap.objs.size f cdv)) →
      DSs (fun _ : Unit => cxOf (L2.CX P w) P w K mg base N x (defScope st) f cdv A outer s H E) K ⟨fun cls d _ H => E cls d H, pcP p⟩ c' (defBody st) (wb p))
    (hcst : c' ≤ cst)
    (hw : ∀ p ds ed Q, Wf ds ed Q → wb p (startG N (.obj (.ref p) :: ds)) (dEnds ed Q)) : PFn P w K mg base x (k + 1) np cst Wf := by
  refine ⟨hlen, f, fd, ps, g, F.kp, b, ?_⟩
  refine F.okX S (fun vs H Q E h => by rw [h.1, hnp]) fun cdv A outer s H vs Q E hr h => ?_
  obtain ⟨hl, p, c, n, av, rest, ds, ed, Qd, rfl, hok, hp, hc, ha, r, hwf, hE, hQ⟩ := h
  obtain ⟨ts, pss, sem⟩ := hbody p cdv A outer s H E hr
  refine ⟨ts, pss (), ?_⟩
  have L0 : LocOk noPen K av H 0 H (L2.start N (.ref p :: rest)) (startG N (.obj (.ref p) :: ds)) := loc_start ha (.cons (.obj _) r)
  have L : LocOk (penP p c) K av H (n + cst) H (L2.start N (.ref p :: rest)) (startG N (.obj (.ref p) :: ds)) :=
    ⟨L0.len, L0.sl, L0.inj, .refl _ _, L0.fr, hok, fun a i => i.elim (fun z => z ▸ hp) fun z => z ▸ hc, ha⟩
  refine sem (penP p c) av H (dEnds ed Qd) ⟨⟨c, rfl⟩, fun cls σ H' hc ex => hE cls H' hc ex⟩ n H _ _ (L.le (by omega)) (hw p ds ed Qd hwf) _ ⟨?_, fun _ _ _ z => z.elim, fun _ _ _ z => z.elim, ?_, ?_⟩
  · exact fun σ' H' G' h' L' r' => hQ _ H' _ h' L'.ext L'.ok .non
  · exact fun v H' d h' e' k' r' => hQ v H' d h' e' k' r'
  · exact fun p xs H' ds h' e' k' h0 h1 r' => hQ _ H' _ h' e' k' (rp_fresh ha h0 h1 r')
end
end DL

namespace DL
open PySem PySem.Spec PyProof.Rows L2
/-! ### try with several clauses, each with a name -/
abbrev Hdl := Value × Nat × (Addr → Value → Option Addr → TS)
/-- behind the suite the name is gone -/
def behind (i : Nat) (D : Ends) : Ends := { nx := fun τ J => D.nx (τ.set i none) J, rt := D.rt, bk := fun τ J => D.bk (τ.set i none) J, ct := fun τ J => D.ct (τ.set i none) J }
def wNam (K : Fg) (Wo : WX) (D : Ends) : List Hdl → WX
  | [] => Wo
  | (c, i, ts) :: more => fun cls d τ J => ∃ b, PySem.W.exmOne K cls c = some b ∧ (b = true → ∀ a, J a = none → ts a cls d (behind i D) (τ.set i (some (.ref a))) J) ∧ (b = false → wNam K Wo D more cls d τ J)
inductive HdN (X : Cx) : List ExceptHandler → List Hdl → Prop
  | nil : HdN X [] []
  | cons {x n : Str} {c : Value} {i : Nat} {ts : Addr → Value → Option Addr → TS} {st : Stmt} {sts : List Stmt} {q1 q2 : Pos} {hs : List ExceptHandler} {l : List Hdl} (nm : Names X x c) (pl : X.N[i]? = some n) (lc : X.env.kindOf n = some .local)
      (su : ∀ (a : Addr) (ob : Obj) (cls : Value) (d : Option Addr) (pn : List (Addr × Obj)), Zc cls d ob → (∃ vs, ob.data = .fields vs) → PSs (X.suite a ((a, ob) :: pn)) (st :: sts) (ts a cls d)) (r : HdN X hs l) :
      HdN X (.ExceptHandler (some (.Name x q1)) (some n) (st :: sts) q2 :: hs) ((c, i, ts) :: l)
section
variable {X : Cx} {body : List Stmt} {h₀ : ExceptHandler} {hs : List ExceptHandler} {l : List Hdl} {pos : Pos} {tb : WX → TS} {Wo : WX}
/-- an exception that has come to the handlers: what is known of it there -/
structure Caught (X : Cx) (pins : List (Addr × Obj)) (a : Addr) (B : Heap) (sI s' : Shared) (τ : Sg) (J : Hp) (cls : Value) (d : Option Addr) (h3 : Heap) : Prop where
  inv : Inv X pins τ J sI
  nb : ∀ b o, sI.heap.get? b = some o → b ∉ frs X.stack → B.get? b = some o
  up : sI.heap.UpToSlots h3
  fly : HandSPX.FlyingZ B (X.env :: X.outer) a (Zc cls d) h3
  na : J a = none
  os : s'.os = sI.os
  ag : AllBare s'.gens
theorem Caught.now {pins : List (Addr × Obj)} {a : Addr} {B : Heap} {sI s' : Shared} {τ : Sg} {J : Hp} {cls : Value} {d : Option Addr} {h3 : Heap} (k : Caught X pins a B sI s' τ J cls d h3) : Inv X pins τ J { s' with heap := h3 } := k.inv.landed k.nb k.fly.1 k.up k.os k.ag
theorem Caught.apart {pins : List (Addr × Obj)} {a : Addr} {B : Heap} {sI s' : Shared} {τ : Sg} {J : Hp} {cls : Value} {d : Option Addr} {h3 : Heap} (hf : X.env.frame = some X.env.locals) (k : Caught X pins a B sI s' τ J cls d h3) : a ≠ X.env.locals ∧ a ∉ X.fs := by
  obtain ⟨ob, vs, e1, _, e2⟩ := k.fly.there
  have out : a ∉ frs (X.env :: X.outer) := fun m => by
    obtain ⟨_, o2, g1, g2⟩ := k.fly.2.2.1.mem m
    rw [e1] at g1
    cases g1
    exact g2 _ e2
  constructor
  · intro z
    exact out (List.mem_filterMap.mpr ⟨X.env, List.mem_cons_self, by rw [hf, z]⟩)
  · intro z
    obtain ⟨en, m1, m2⟩ := List.mem_filterMap.mp z
    exact out (List.mem_filterMap.mpr ⟨en, List.mem_cons_of_mem _ m1, m2⟩)
theorem handled {pins : List (Addr × Obj)} {D : Ends} {a : Addr} {B : Heap} {sI s' : Shared} {τ : Sg} {J : Hp} {cls : Value} {d : Option Addr} {h3 : Heap} (ok : X.Ok) (hN : X.N.Nodup) (hst : X.stack = X.env :: X.outer) (hf : X.env.frame = some X.env.locals) (tk : Takes X Wo) (k : Caught X pins a B sI s' τ J cls d h3) :
    ∀ {hs : List ExceptHandler} {l : List Hdl}, HdN X hs l → wNam X.K Wo D l cls d τ J → wpAny (model X.prog X.w) X.A (handleBy (.ref a) X.env hs) (SP X pins D) X.xe { s' with heap := h3 } := by
  intro hs l hh
  induction hh with
  | nil =>
    intro w
    refine wpAny_handleBy_nil ?_
    have fly := k.fly
    obtain ⟨_, _, _, ob, vs, T, oT, us, g1, g2, g3, g4, g5⟩ := id fly
    have last : wpAny (model X.prog X.w) X.A (setFlight (.ref a) X.env.frame) (fun _ s4 => wpAny (model X.prog X.w) X.A (throw (.ref a) : Sem Flow) (SP X pins D) X.xe s4) X.xe { s' with heap := h3 } := by
      rw [hf]
      exact HandSPX.setFlight_upZ fly fun h4 held up4 => wpAny_throw (tk _ _ ⟨a, B, sI, pins, τ, J, cls, d, rfl, k.inv, k.nb, k.up.trans up4, .inr (.inr (by rw [hst]; exact held)), k.na, k.os, k.ag, w⟩)
    unfold PySem.passOn
    refine wpAny_bind (wpAny_field g1 g3 g4 ?_)
    have no : ¬ ((Value.ref T == Value.none) = true) := by simp
    rw [if_neg no]
    first
      | exact wpAny_bind last
      | exact wpAny_bind (wpAny_pure (wpAny_bind last))
  | @cons x n c i ts st sts q1 q2 hs2 l2 nm pl lc su r ih =>
    intro w
    obtain ⟨b, known, yes, no⟩ := w
    obtain ⟨nL, nF⟩ := k.apart hf
    obtain ⟨ob3, vs3, o1, o2, o3⟩ := k.fly.there
    have here := k.now.suite (a := a) o1 o3 k.na nL nF
    refine wpAny_handleBy_cons (codeAny_handlers_test ?_) (by intro z; cases z)
    have ofCls : PySem.W.Looks (model X.prog X.w) h3 (typeOf (.ref a)) cls := fun _ _ _ _ kp z => wpAny_typeOf_ref (kp _ _ o1) (by rw [o2.1]; exact z)
    have tells := PySem.W.exm_one (M := model X.prog X.w) k.now.kIn ofCls known
    have named : ∀ {Q : Value → Shared → Prop} {E : Value → Shared → Prop}, Q c { s' with heap := h3 } → wpAny (model X.prog X.w) (X.A.mark (some (.ref a))) (eval (.Name x q1) X.env) Q E { s' with heap := h3 } := by
      intro Q E z
      obtain ⟨y1, y2, y3⟩ := nm
      rcases y3 with y3 | ⟨y3, y4, y5⟩
      · exact ld_glob (X := X.suite a ((a, ob3) :: (X.pn ++ pins))) here y1 y3 z y2
      · exact ld_blt (X := X.suite a ((a, ob3) :: (X.pn ++ pins))) here y1 y3 y4 z y5 y2
    refine named (tells.here ?_)
    cases b with
    | false => exact ih (no rfl)
    | true =>
      refine codeAny_handlers_suite_as (HandSPX.lands_againZ k.fly fun h4 fly4 up4 => ?_)
      have now4 : Inv X pins τ J { s' with heap := h4 } := k.inv.landed k.nb fly4.1 (k.up.trans up4) k.os k.ag
      obtain ⟨ob4, vs4, p1, p2, p3⟩ := fly4.there
      have inside := now4.suite (a := a) p1 p3 k.na nL nF
      refine store_ok (X := X.suite a ((a, ob4) :: (X.pn ++ pins))) (v := .ref a) inside hN pl (.inl lc) rfl (fun s5 I5 => ?_) (.inr lc)
      refine wpAny_mono ((su a ob4 cls d (X.pn ++ pins) p2 ⟨_, p3⟩).run [] s5 _ J _ I5 (yes rfl a k.na)) (fun fl s6 told => ?_) fun _ _ z => z.elim
      have away : ∀ {τ6 : Sg} {J6 : Hp} {Q : Shared → Prop}, Inv (X.suite a ((a, ob4) :: (X.pn ++ pins))) [] τ6 J6 s6 → (∀ s7, Inv X pins (τ6.set i none) J6 s7 → Q s7) →
          wpAny (model X.prog X.w) X.A (do bindName X.env n .none; unbindBehindTheSuite X.env n q2) (fun _ s7 => Q s7) X.xe s6 := fun {τ6 J6 Q} I6 z => gone_ok (I6.unsuite ok) hN pl lc z
      cases fl <;> simp only [SP, behind] at told
      · obtain ⟨τ6, J6, I6, z⟩ := told
        exact away I6 fun s7 I7 => ⟨_, _, I7, z⟩
      · obtain ⟨τ6, J6, I6, z⟩ := told
        exact away I6 fun s7 I7 => ⟨_, _, I7, z⟩
      · obtain ⟨τ6, J6, I6, z⟩ := told
        exact away I6 fun s7 I7 => ⟨_, _, I7, z⟩
      · obtain ⟨v6, τ6, J6, I6, rv, z⟩ := told
        exact away I6 fun s7 I7 => ⟨_, _, _, I7, rv, z⟩
theorem ps_try_named (hN : X.N.Nodup) (hst : X.stack = X.env :: X.outer) (hf : X.env.frame = some X.env.locals) (tk : Takes X Wo)
    (hb : ∀ (W : WX) (pn : List (Addr × Obj)) (xe : Value → Shared → Prop), Takes (X.tr pn xe) W → PassesOwn (model X.prog X.w) X.A X.env xe → PSs (X.tr pn xe) body (tb W)) (hh : HdN X (h₀ :: hs) l) :
    PS X (.Try body (h₀ :: hs) [] [] pos) (fun D τ J => tb (wNam X.K Wo D l) D τ J) := by
  constructor
  intro pins s τ J D I h
  have ok := I.ok
  have frames : X.A.frames = some (X.env :: X.outer) := ok.frames.trans (congrArg some hst)
  refine wpAny_Try_except (wpAny_mono ((hb (wNam X.K Wo D l) (X.pn ++ pins) (fun e s₁ => wpAny (model X.prog X.w) X.A (noteFrame e X.env) (fun _ s₂ => wpAny (model X.prog X.w) X.A (setFlight e none)
    (fun _ s₃ => wpAny (model X.prog X.w) X.A (handleBy e X.env (h₀ :: hs)) (SP X pins D) X.xe s₃) X.xe s₂) X.xe s₁) ?_ PassesOwn.looking).run [] s τ J D (I.toTry _) h) (fun fl s1 told => ?_) fun _ _ z => z)
  · rintro u s' ⟨a, B, sI, pins', τ', J', cls, d, rfl, I', nb, up, sky, na, os, ag, w⟩
    show wpAny (model X.prog X.w) X.A (noteFrame (.ref a) X.env) _ _ _
    refine Sky.land Zc.steady frames hf (by rw [← hst]; exact sky) fun h3 fly up3 => ?_
    exact handled ok hN hst hf tk ⟨I'.ofTry ok, nb, up.trans up3, fly, na, os, ag⟩ hh w
  · cases fl <;> simp only [SP] at told
    · obtain ⟨τ6, J6, I6, z⟩ := told
      exact wpAny_execs_nil ⟨_, _, I6.ofTry ok, z⟩
    · obtain ⟨τ6, J6, I6, z⟩ := told
      exact ⟨_, _, I6.ofTry ok, z⟩
    · obtain ⟨τ6, J6, I6, z⟩ := told
      exact ⟨_, _, I6.ofTry ok, z⟩
    · obtain ⟨v6, τ6, J6, I6, rv, z⟩ := told
      exact ⟨_, _, _, I6.ofTry ok, rv, z⟩
end
end DL

namespace DL
open PySem PySem.Spec PyProof.Rows L2
/-! ### zip of a text and a tuple -/
def ItzS (K : Fg) (x : Str) (b : Addr) : It where
  go := fun i H => ∃ (ys : List V) (sg : Nat) (y : V), SqT K H b ys ∧ x.cps[i]? = some sg ∧ ys[i]? = some y
  yld := fun i H v H' => ∃ T sg y, v = .ref T ∧ H T = none ∧ H' = upd H T (.tup [.str ⟨#[sg]⟩, y]) ∧ x.cps[i]? = some sg ∧ ∀ ys, SqT K H b ys → ys[i]? = some y
  stop := fun i H => ∃ ys : List V, SqT K H b ys ∧ i ≤ x.cps.size ∧ i ≤ ys.length ∧ (i = x.cps.size ∨ i = ys.length)
theorem sep_of {z TI TO j1 j2 b : Addr} (S : ZipApart z TI TO j1 j2 b b) : ZipSep2 z TI TO j1 j2 [j1] [j2, b] where
  TIz := S.TIz
  TOz := S.TOz
  TITO := S.TITO
  TIi1 := S.TIi1
  mem1 := by simp
  zf1 := fun m => S.i1z (List.mem_singleton.mp m).symm
  Tf1 := fun m => S.TOi1 (List.mem_singleton.mp m)
  TIi2 := S.TIi2
  mem2 := by simp
  zf2 := fun m => (List.mem_cons.mp m).elim (fun q => S.i2z q.symm) fun m => S.l1z (List.mem_singleton.mp m).symm
  Tf2 := fun m => (List.mem_cons.mp m).elim (fun q => S.TOi2 q) fun m => S.l1TO (List.mem_singleton.mp m).symm
  sep1_2 := fun m => (List.mem_cons.mp m).elim (fun q => S.i12 q) fun m => S.l1i1 (List.mem_singleton.mp m).symm
  sep2_1 := fun m => S.i12 (List.mem_singleton.mp m).symm
theorem five {c z TI TO j1 j2 : Addr} (m : c ∈ [z, TI, TO, j1, j2]) : c = z ∨ c = TI ∨ c = TO ∨ c = j1 ∨ c = j2 := by simpa using m
theorem turn_zipS {P : Program} {w : World} {K : Fg} {elts : List Expr} {kk : Nat} {tpos : Pos} {x : Str} {t : Tok} {b z TI TO j1 j2 : Addr} (S : ZipApart z TI TO j1 j2 b b) :
    Turn P w K (.Tuple elts kk tpos) (ItzS K x b) [z, TI, TO, j1, j2] z (fun i h => IsZip h z TI TO .none ∧ IsPair h TI (.ref j1) (.ref j2) ∧ (∃ p q, IsPair h TO p q) ∧ h.IsStrIter j1 (strIterType x) x t i ∧ h.IsTupleIter j2 b i) where
  mem := by simp
  obj := fun i h st c m => by
    obtain ⟨s1, s2, ⟨p, q, s3⟩, ⟨u1, e1, _, d1⟩, u2, e2, _, d2⟩ := st
    rcases five m with rfl | rfl | rfl | rfl | rfl
    · exact ⟨_, s1, fun _ z => nomatch z⟩
    · exact ⟨_, s2, fun _ z => nomatch z⟩
    · exact ⟨_, s3, fun _ z => nomatch z⟩
    · exact ⟨u1, e1, fun _ z => by rw [d1] at z; cases z⟩
    · exact ⟨u2, e2, fun _ z => by rw [d2] at z; cases z⟩
  keep := fun i h h' st k => by
    obtain ⟨s1, s2, ⟨p, q, s3⟩, ⟨u1, e1, r1⟩, s5⟩ := st
    exact ⟨k z (by simp) _ s1, k TI (by simp) _ s2, ⟨p, q, k TO (by simp) _ s3⟩, ⟨u1, k j1 (by simp) _ e1, r1⟩, s5.at fun o q => k j2 (by simp) o q⟩
  item := by
    rintro X rfl rfl rfl hc i pins s σ H E I hf ⟨s1, s2, ⟨p, q, s3⟩, s4, s5⟩ ⟨ys, sg, y, g1, g2, g3⟩
    obtain ⟨its, rv, tb, _⟩ := I.tuple g1
    obtain ⟨u, hu, ru⟩ := rv.get g3
    have zl : z < s.heap.objs.size := Heap.lt_size s1
    have l1 : i < x.cps.size := (Array.getElem?_eq_some_iff.mp g2).1
    have l2 : i < its.toArray.size := by have := (List.getElem?_eq_some_iff.mp hu).1; simpa using this
    have hd : X.A.in1.handled = none := I.ok.hd hc
    have D1 := Draws.text (prog := X.prog) (w := X.w) hd j1 x t
    have D2 := Draws.tuple (prog := X.prog) (w := X.w) hd j2 b S.l1i2 its.toArray
    refine wpAny_pyNext_zipD2_item (sep_of S) D1 D2 s1 s2 s3 s4 ⟨s5, tb⟩ l1 l2 fun a1 a2 h1 tk y1 y2 b1 b2 b3 b4 b5 b6 b7 => ?_
    obtain ⟨c, v, hcx, rfl⟩ := y1
    rw [g2] at hcx
    cases hcx
    have ea : a2 = u := by
      have y2 : its.toArray[i]? = some a2 := y2
      rw [List.getElem?_toArray, hu] at y2
      exact (Option.some.inj y2).symm
    subst ea
    refine ⟨_, rfl, wpAny_letOwnedTupleGo_zip (s := { s with heap := h1, toks := tk }) b1 fun h2 c1 sb => ?_⟩
    have pr : h2.get? s.heap.objs.size = some { cls := .type "tuple", data := .seq #[.str ⟨#[sg]⟩ v, a2] } := (sb.2 _ (Nat.ne_of_gt zl)).trans b5
    have new : ObjOk X.prog X.w (upd H s.heap.objs.size (.tup [.str ⟨#[sg]⟩, y])) h2 s.heap.objs.size (.tup [.str ⟨#[sg]⟩, y]) :=
      ⟨by show 2 ≤ sizeLine; decide, [.str ⟨#[sg]⟩ v, a2], .cons ⟨v, rfl⟩ (.cons ru .nil), _, pr, rfl, _, rfl⟩
    have old : ∀ c o, c ∉ [z, TI, TO, j1, j2] → s.heap.get? c = some o → h2.get? c = some o := fun c o no e =>
      (sb.2 c (fun q => no (by simp [q]))).trans (b7 c o (fun q => no (by simp [q])) (fun q => no (by simp [q])) (fun q => no (by simp [q])) (fun q => no (by simp [q])) e)
    have I1 : Inv X pins σ (upd H s.heap.objs.size (.tup [.str ⟨#[sg]⟩, y])) { s with heap := h2, toks := tk } := I.turnedNew (t' := tk) (ch := [z, TI, TO, j1, j2]) old hf (Nat.le_refl _) new
    refine ⟨.ref s.heap.objs.size, _, I1, rfl, ⟨_, sg, y, rfl, I.hok.fresh (Nat.le_refl _), rfl, g2, fun l hl => by rw [I.tuple_inj hl g1]; exact g3⟩, ⟨c1, ?_, ⟨_, _, (sb.2 _ S.TOz).trans b2⟩, ?_, ?_⟩, fun c m => ?_⟩
    · exact (sb.2 _ S.TIz).trans (b7 _ _ S.TIz S.TITO S.TIi1 S.TIi2 s2)
    · obtain ⟨o4, e4, r4⟩ := b3
      exact ⟨o4, (sb.2 _ S.i1z).trans e4, r4⟩
    · exact b4.1.at fun o q => (sb.2 _ S.i2z).trans q
    · have lt : c < s.heap.objs.size := by
        obtain ⟨u1, e1, _⟩ := s4
        obtain ⟨u2, e2, _⟩ := s5
        rcases five m with rfl | rfl | rfl | rfl | rfl
        · exact zl
        · exact Heap.lt_size s2
        · exact Heap.lt_size s3
        · exact Heap.lt_size e1
        · exact Heap.lt_size e2
      rw [upd_ne (Nat.ne_of_lt lt)]
      exact (hf c m).1
  done := by
    rintro X rfl rfl rfl hc i pins s σ H E I hf ⟨s1, s2, ⟨p, q, s3⟩, s4, s5⟩ ⟨ys, g1, g2, g3, g4⟩
    obtain ⟨its, rv, tb, _⟩ := I.tuple g1
    have el : its.toArray.size = ys.length := by have := rv.length; simp; omega
    have hd : X.A.in1.handled = none := I.ok.hd hc
    have D1 := Draws.text (prog := X.prog) (w := X.w) hd j1 x t
    have D2 := Draws.tuple (prog := X.prog) (w := X.w) hd j2 b S.l1i2 its.toArray
    refine wpAny_pyNext_zipD2_end (sep_of S) D1 D2 s1 s2 s3 s4 ⟨s5, tb⟩ g2 (by rw [el]; exact g3) (by rw [el]; exact g4) fun h1 tk old => ?_
    exact ⟨rfl, I.turnedL (t' := tk) (ch := [z, TI, TO, j1, j2]) (fun c o no e => old c o (fun q => no (by simp [q])) (fun q => no (by simp [q])) (fun q => no (by simp [q])) (fun q => no (by simp [q])) e) hf⟩
  self := fun A i s Q E st h => wpAny_pyIter_zip st.1 h
def iZipS (K : Fg) (ta : TA) : TI := fun σ H R => ta σ H fun vs H1 => ∃ x b ys, vs = [.str x, .ref b] ∧ SqT K H1 b ys ∧ R (ItzS K x b) H1
theorem pi_zipS {X : Cx} {e e2 : Expr} {ta : TA} {p pos tpos : Pos} {elts : List Expr} {kk : Nat} (hg : Gl X "zip") (hm : X.mg "zip" = none) (ha : PA X [e, e2] ta)
    (hs : starEach [e, e2] X.env = (false, eval e X.env) :: starEach [e2] X.env := by rfl) (hpl : (backTo pos (starEach [e2] X.env)).any (·.1) = false := by rfl) : PI X (.Tuple elts kk tpos) (.Call (.Name "zip" p) [e, e2] [] pos) (iZipS X.K ta) := by
  constructor
  intro pins s σ H R I hyp
  refine Call_ (ld_blt I hg hm PyProof.Rows.boot_zip (PyProof.Rows.callWith_type1 (thn (ha.run pos pins s σ H _ I hyp) ?_) hs hpl))
  rintro us s1 ⟨vs, H1, I1, r1, x, b, ys, rfl, sq, q⟩
  cases r1 with
  | cons r rr =>
    cases rr with
    | cons r' rr =>
      cases rr
      obtain ⟨t, rfl⟩ := r
      cases r'
      obtain ⟨its, rv, tb, _⟩ := I1.tuple sq
      obtain ⟨ob, eb, _⟩ := id tb
      have bl := Heap.lt_size eb
      refine zip_begins2 (begins_text x t) (begins_tuple b its.toArray) trivial tb fun h' a1 a2 a3 a4 a5 a6 up => wpAny_pyIter_zip a1 ?_
      refine ⟨s1.heap.objs.size + 4, [s1.heap.objs.size + 4, s1.heap.objs.size + 2, s1.heap.objs.size + 3, s1.heap.objs.size, s1.heap.objs.size + 1], _, _, H1, rfl, I1.kept (t' := s1.toks) up, turn_zipS (PySem.W.ktu_apart s1.heap.objs.size b b bl bl), ⟨a1, a2, ⟨_, _, a3⟩, ⟨_, a4, rfl, rfl⟩, ⟨_, a5, rfl, rfl⟩⟩, fun c m => ?_, q⟩
      have le : s1.heap.objs.size ≤ c := by
        rcases five m with rfl | rfl | rfl | rfl | rfl <;> first | exact Nat.le_refl _ | exact Nat.le_add_right _ _
      exact I1.fpOk le (I1.hok.fresh le)
def zipD (z : Str) (ds : List D) : List D := List.zipWith (fun c d => D.tup [.str ⟨#[c]⟩, d]) z.cps.toList ds
theorem walks_zipS {K : Fg} {av : Av} {H : Hp} {P : Pn} {xs : List V} {ds : List D} {b : Addr} (z : Str) (n : NT K av H b xs) (r : Rps K av H xs ds) : Walks P K av H (ItzS K z b) (zipD z ds) := by
  have el : (zipD z ds).length = min z.cps.size xs.length := by unfold zipD; rw [List.length_zipWith, r.len, Array.length_toList]
  refine ⟨fun H => SqT K H b xs, YPair (fun i => z.cps[i]?.map fun c => V.str ⟨#[c]⟩) (fun i => xs[i]?), ?_, fun H' e => (n.ext e (fun _ z => z) (fun _ _ z => z)).sq, fun i x H1 H2 av2 hi h2 ha e y => ?_⟩
  · rw [el]
    refine ⟨fun i H' hi q => ?_, fun H' q => ⟨xs, q, by omega, by omega, by omega⟩, fun i H1 v H2 hi q y => ?_⟩
    · have h1 : i < z.cps.size := by omega
      have h2 : i < xs.length := by omega
      exact ⟨xs, z.cps[i], xs[i], q, Array.getElem?_eq_getElem h1, List.getElem?_eq_getElem h2⟩
    · obtain ⟨T, sg, y, k1, k2, k3, k4, k5⟩ := y
      exact ⟨T, .str ⟨#[sg]⟩, y, k1, k2, k3, by show Option.map _ z.cps[i]? = _; rw [k4]; rfl, k5 xs q⟩
  · obtain ⟨T, u, v, rfl, nT, rfl, hu, hv⟩ := y
    rw [el, r.len] at hi
    have h1 : i < z.cps.size := by omega
    obtain ⟨d, hd⟩ : ∃ d, ds[i]? = some d := ⟨_, List.getElem?_eq_getElem (by omega)⟩
    obtain ⟨v', e1, e2⟩ := r.get hd
    rw [show xs[i]? = some v from hv] at e1
    cases e1
    have hu : z.cps[i]?.map (fun c => V.str ⟨#[c]⟩) = some u := hu
    rw [Array.getElem?_eq_getElem h1] at hu
    cases hu
    refine ⟨.tup [.str ⟨#[z.cps[i]]⟩, d], ?_, ex_new nT, .tup (.inl ⟨upd_same, fun z => ha T z nT⟩) (.cons (.str _) (.cons ?_ .nil))⟩
    · unfold zipD
      rw [List.getElem?_zipWith, hd, Array.getElem?_toList, Array.getElem?_eq_getElem h1]
    · exact (e2.ext e (fun _ z => z) h2 : Rp K av2 H1 v d).ext (is := fun _ => False) (.new nT) (fun _ z => z.elim) (fun _ _ z => z)
def zipA : List D → (List D → Prop) → Prop
  | [.str z, .tup ds], Q => Q (zipD z ds)
  | _, _ => False
theorem zipA_of {es : List D} {Q : List D → Prop} (h : zipA es Q) : ∃ z ds, es = [.str z, .tup ds] ∧ Q (zipD z ds) := by
  unfold zipA at h
  split at h
  · exact ⟨_, _, rfl, h⟩
  · exact h.elim
def wZip (w : WL) : WL := fun G ed Q => w G ed fun es => zipA es Q
section
variable {ι : Type} {X : ι → Cx} {K : Fg} {W : Ctl} {c : Nat} {e e2 : Expr} {wl : WL} {pos p tpos : Pos} {elts : List Expr} {kk : Nat}
theorem di_zip (hK : ∀ i, (X i).K = K) (hm : ∀ i, (X i).mg "zip" = none) (h : DA X K W c [e, e2] wl) (hg : ∀ i, Gl (X i) "zip" := by intro _; rfl)
    (hs : ∀ i, starEach [e, e2] (X i).env = (false, eval e (X i).env) :: starEach [e2] (X i).env := by intro _; rfl) (hpl : ∀ i, (backTo pos (starEach [e2] (X i).env)).any (·.1) = false := by intro _; rfl) :
    DI X K W c (.Tuple elts kk tpos) (.Call (.Name "zip" p) [e, e2] [] pos) (wZip wl) := by
  obtain ⟨ta, pa, s⟩ := h
  refine ⟨iZipS K ta, fun i => (by rw [← hK i]; exact pi_zipS (hg i) (hm i) (pa i) (hs i) (hpl i)), fun P av H0 ed hw n H σ G Qd L h R q => s P av H0 ed hw n H σ G _ L h _ fun vs H1 es he L1 e1 r1 => ?_⟩
  obtain ⟨z, ds, rfl, hq⟩ := zipA_of he
  cases r1 with
  | cons r rr =>
    cases rr with
    | cons r' rr =>
      cases rr
      cases r
      cases r' with
      | tup nn r => exact ⟨_, _, _, rfl, nn.sq, q _ _ _ hq L1 e1 (walks_zipS z nn r)⟩
end
end DL

namespace DL
open PySem PySem.Spec PyProof.Rows L2
/-! ### data compared at any depth -/
mutual
def pyD : D → Option PyData
  | .non => some .none
  | .bl b => some (.bool b)
  | .int i => some (.int i)
  | .str s => some (.str s)
  | .lst xs => (pyDs xs).map .list
  | .tup xs => (pyDs xs).map .tuple
  | .obj _ => none
  | .dic _ _ => none
  | .err _ _ => none
def pyDs : List D → Option (List PyData)
  | [] => some []
  | d :: r => match pyD d, pyDs r with
    | some p, some ps => some (p :: ps)
    | _, _ => none
end
section
variable {K : Fg} {is av : Av} {H : Hp}
mutual
theorem rp_dp : ∀ {v : V} {d : D} {p : PyData}, Rp K av H v d → pyD d = some p → Dp K H v p
  | _, _, _, .non, e => by cases e; exact .non
  | _, _, _, .bl b, e => by cases e; exact .bl b
  | _, _, _, .int i, e => by cases e; exact .int i
  | _, _, _, .str s, e => by cases e; exact .str s
  | _, _, _, .lst (ds := ds) n hs, e => by
    rw [pyD] at e
    cases q : pyDs ds with
    | none => rw [q] at e; exact nomatch e
    | some ps => rw [q] at e; cases e; exact .lst n.sq (rps_dp hs q)
  | _, _, _, .tup (ds := ds) n hs, e => by
    rw [pyD] at e
    cases q : pyDs ds with
    | none => rw [q] at e; exact nomatch e
    | some ps => rw [q] at e; cases e; exact .tup n.sq (rps_dp hs q)
  | _, _, _, .obj _, e => nomatch e
  | _, _, _, .dic _ _ _, e => nomatch e
  | _, _, _, .err _, e => nomatch e
theorem rps_dp : ∀ {vs : List V} {ds : List D} {ps : List PyData}, Rps K av H vs ds → pyDs ds = some ps → DpAll K H vs ps
  | _, _, _, .nil, e => by cases e; exact .nil
  | _, _, _, .cons (d := d) (ds := ds) h hs, e => by
    rw [pyDs] at e
    cases q1 : pyD d with
    | none => rw [q1] at e; exact nomatch e
    | some p =>
      cases q2 : pyDs ds with
      | none => rw [q1, q2] at e; exact nomatch e
      | some ps => rw [q1, q2] at e; cases e; exact .cons (rp_dp h q1) (rps_dp hs q2)
end
theorem rq_dp {v : V} {d : D} {p : PyData} (h : Rq K is av H v d) (e : pyD d = some p) : Dp K H v p := by
  cases d with
  | lst ds =>
    obtain ⟨a, xs, rfl, n, hs⟩ := h
    rw [pyD] at e
    cases q : pyDs ds with
    | none => rw [q] at e; exact nomatch e
    | some ps => rw [q] at e; cases e; exact .lst (.inl (.inl n.1)) (rps_dp hs q)
  | non => exact rp_dp h e
  | bl b => exact rp_dp h e
  | int i => exact rp_dp h e
  | str s => exact rp_dp h e
  | tup ds => exact rp_dp h e
  | obj v => exact rp_dp h e
  | dic ks ds => exact nomatch e
  | err c m => exact rp_dp h e
end
def fEqD (g : Bool → Bool) : D → D → (D → Prop) → Prop := fun x y Q => onO (pyD x) fun p => onO (pyD y) fun q => SeqAt.shaped p = true ∧ SeqAt.shaped q = true ∧ Q (.bl (g (PyData.eqv p q)))
theorem opEqD {K : Fg} {g : Bool → Bool} {r : R2} (hr : ∀ x y H Q, (∃ d e, Dp K H x d ∧ Dp K H y e ∧ SeqAt.shaped d = true ∧ SeqAt.shaped e = true ∧ Q (.bl (g (PyData.eqv d e))) H) → r x y H Q) : OpS K r (fEqD g) := by
  intro is av H x y dx dy Qd hi ha rx ry h Q q
  obtain ⟨p, e1, h⟩ := onO_of h
  obtain ⟨p2, e2, h1, h2, h3⟩ := onO_of h
  exact hr _ _ _ _ ⟨p, p2, rq_dp rx e1, rq_dp ry e2, h1, h2, q _ H _ h3 (fun _ _ z => z) (.bl _)⟩
section
variable {ι : Type} {X : ι → Cx} {K : Fg} {W : Ctl} {c1 c2 : Nat} {a b : Expr} {wa wb : WE} {pos : Pos}
theorem dx_eqD {k : Nat} (hK : ∀ i, (X i).K = K) (hr : ∀ i, Room k (X i).A) (ha : DR X K W c1 a wa) (hb : DR X K W c2 b wb) : DX X K W (c1 + c2) (.Compare a [.Eq] [b] pos) (w2 (fEqD id) wa wb) :=
  twoX (r := rEqD K) (opEqD fun _ _ _ _ h => h) (fun i _ _ pa pb => by rw [← hK i]; exact ⟨pe_cmpR (op_eqD (hr i).units) pa pb (nomark _), pt_cmpR (op_eqD (hr i).units) pa pb (nomark _)⟩) ha hb
theorem dx_neD {k : Nat} (hK : ∀ i, (X i).K = K) (hr : ∀ i, Room k (X i).A) (ha : DR X K W c1 a wa) (hb : DR X K W c2 b wb) : DX X K W (c1 + c2) (.Compare a [.NotEq] [b] pos) (w2 (fEqD not) wa wb) :=
  twoX (r := rNeD K) (opEqD fun _ _ _ _ h => h) (fun i _ _ pa pb => by rw [← hK i]; exact ⟨pe_cmpR (op_neD (hr i).units) pa pb (nomark _), pt_cmpR (op_neD (hr i).units) pa pb (nomark _)⟩) ha hb
end
/-! data of atoms -/
def pyA : D → PyData
  | .bl b => .bool b
  | .int i => .int i
  | .str s => .str s
  | _ => .none
theorem pyDs_atoms {α : Type} (f : α → D) (g : α → PyData) (h : ∀ x, pyD (f x) = some (g x)) : ∀ xs : List α, pyDs (xs.map f) = some (xs.map g)
  | [] => by rw [List.map_nil, pyDs]; rfl
  | x :: r => by rw [List.map_cons, pyDs, h x, pyDs_atoms f g h r]; rfl
end DL

namespace DL
open PySem PySem.Spec PyProof.Rows L2
/-! ### a def that calls what it got and tells the word of the error -/
abbrev Cw := Value × Str
/-- which word the first clause that catches tells -/
def told (K : Fg) (cls : Value) (Q : Str → Prop) : List Cw → Prop
  | [] => False
  | (c, t) :: r => ∃ b, PySem.W.exmOne K cls c = some b ∧ (b = true → Q t) ∧ (b = false → told K cls Q r)
def TWord (K : Fg) (cs : List Cw) (last : Str) : (XK → Hp → VK → Prop) → Hp → VK → Prop := fun tl H Q => tl (fun cls _ J => told K cls (fun t => Q (.str t) J) cs) H fun _ J => Q (.str last) J
inductive WordH (X : Cx) (n : Str) : List ExceptHandler → List Cw → Prop
  | nil : WordH X n [] []
  | cons {x : Str} {c : Value} {t : Str} {j : Nat} {q1 q2 q3 q4 : Pos} {hs : List ExceptHandler} {l : List Cw} (nm : Names X x c) (r : WordH X n hs l) :
      WordH X n (.ExceptHandler (some (.Name x q1)) (some n) [.Return (some (.Constant (.str t) j q3)) q4] q2 :: hs) ((c, t) :: l)
def hdls (i : Nat) (l : List Cw) : List Hdl := l.map fun p => (p.1, i, fun _ _ _ => tRet (tC (.str p.2)))
theorem WordH.hd {X : Cx} {n : Str} {i : Nat} (pl : X.N[i]? = some n) (lc : X.env.kindOf n = some .local) {hs : List ExceptHandler} {l : List Cw} (h : WordH X n hs l) : HdN X hs (hdls i l) := by
  induction h with
  | nil => exact .nil
  | cons nm r ih => exact .cons nm pl lc (fun a ob cls d pn _ _ => pss_one (ps_ret pe_str)) ih
theorem told_nam {K : Fg} {i : Nat} {Wo : WX} {D : Ends} {cls : Value} {d : Option Addr} {τ : Sg} {J : Hp} : ∀ {l : List Cw}, told K cls (fun t => D.rt (.str t) J) l → wNam K Wo D (hdls i l) cls d τ J
  | [], h => h.elim
  | (c, t) :: r, h => by
    obtain ⟨b, e, h1, h2⟩ := h
    exact ⟨b, e, fun z a _ => h1 z, fun z => told_nam (h2 z)⟩
theorem word_gives {X : Cx} {Ng : List Str} {x a n q last : Str} {sg : Scope} {g : Addr} {cdg : Value} {j i : Nat} {p1 p2 p3 p4 p5 p6 : Pos} {hs : List ExceptHandler} {h₀ : ExceptHandler} {cs : List Cw} (nd : Ng.Nodup) (pl : Ng[i]? = some n)
    (lc : ∀ (s : Shared) (H : Hp), (cxOf C8.CX0 X.prog X.w X.K X.mg X.base Ng x sg g cdg X.A X.stack s H C8.E0).nox.env.kindOf n = some .local) (h0 : ∀ f : Addr, (L2.start Ng [V.ref f])[0]? = some (some (V.ref f)))
    (hh : ∀ (s : Shared) (H : Hp), WordH (cxOf C8.CX0 X.prog X.w X.K X.mg X.base Ng x sg g cdg X.A X.stack s H C8.E0).nox n (h₀ :: hs) cs)
    (hsw : ∀ (s : Shared) (H : Hp), swapsWith (.Call (.Name a p1) [] [] p2) none p3.line (cxOf C8.CX0 X.prog X.w X.K X.mg X.base Ng x sg g cdg X.A X.stack s H C8.E0).env = pure false := by intro _ _; rfl) :
    LamX.GivesTo X Ng x sg g cdg [.Try [.Expr (.Call (.Name a p1) [] [] p2) p3] (h₀ :: hs) [] [] p4, .Return (some (.Constant (.str last) j p5)) p6] a q (TWord X.K cs last) := by
  intro f c' s H Q tl act hc h
  refine ⟨_, pss_cons (ps_try_named (X := (cxOf C8.CX0 X.prog X.w X.K X.mg X.base Ng x sg g cdg X.A X.stack s H C8.E0).nox) (l := hdls i cs) (Wo := fun _ _ _ _ => False)
      (tb := fun W D σ H => ∃ Ech : XK, (∀ cls d σ' H', Ech cls d H' → W cls d σ' H') ∧ σ[0]? = some (some (.ref f)) ∧ H c' = some (LamX.CodeO c' q) ∧ tl Ech H fun _ H' => D.nx σ H')
      nd rfl rfl LamX.takes0 (fun W pn xe tk _ => ?_) ((hh s H).hd pl (lc s H))) (pss_one (ps_ret pe_str)), ?_⟩
  · refine ⟨fun pins s' σ H D I ⟨Ech, hW, k1, k2, k3⟩ => ?_⟩
    exact (pss_one (ps_expr (act W pn xe Ech p1 p2 tk hW) (hsw s H))).run pins s' σ H D I ⟨k1, k2, k3⟩
  · exact ⟨fun cls _ J => told X.K cls (fun t => Q (.str t) J) cs, fun cls d σ' H' z => told_nam z, h0 f, hc, h⟩
end DL

namespace DL
open PySem PySem.Spec PyProof.Rows L2
open LamX (Tabs TabS TabB CodeO codeO_ne inv_table lamEnv lamCx LamS GivesTo)
/-! ### a lambda is made: but for its table all stays -/
def Off (P : Addr) (H J : Hp) : Prop := ∀ a o, a ≠ P → H a = some o → J a = some o
section
variable {X : Cx} {pins : List (Addr × Obj)} {σ : L2.St} {H : Hp} {s : Shared}
abbrev lamN (X : Cx) : Str := X.env.qual ++ "<lambda>"
abbrev lamO (X : Cx) (params : Arguments) (body : Expr) (scope : Scope) (pm : Value) (c : Addr) (ctv : Value) : Obj := PySem.W.kla_obj "<lambda>" (lamN X) params body scope (cloFrom X.env.cells scope.names []) pm c ctv
theorem tabs_off {T : List (Addr × Str)} {P : Addr} {q : Str} {J : Hp} {ps : Array Value} (hT : Tabs T H) (hP : H P = some (.tbl ps)) (off : Off P H J) (hu : ∀ p ∈ T, p.1 = P → p.2 = q) (h : TabS J P q) : Tabs T J := fun p hp => by
  by_cases e : p.1 = P
  · rw [hu p hp e, e]
    exact h
  · obtain ⟨qs, k1, k2, k3⟩ := hT p hp
    refine ⟨qs, off _ _ e k1, k2, fun w v z => ?_⟩
    obtain ⟨d, d1, d2⟩ := k3 w v z
    refine ⟨d, d1, off _ _ (fun y => ?_) d2⟩
    rw [y, hP] at d2
    exact codeO_ne _ (Option.some.inj d2).symm
theorem lam_new {T : List (Addr × Str)} {c P : Addr} {params : Arguments} {body : Expr} {scope : Scope} {pos : Pos} {E Q : Value → Shared → Prop} (I : Inv X pins σ H s) (TB : TabB X.base X.mg c P) (cd : X.env.code = .ref c) (hm : (P, lamN X) ∈ T) (hu : ∀ p ∈ T, p.1 = P → p.2 = lamN X)
    (hT : Tabs T H) (hdef : defaultsOf params X.env = ([], [])) (fr : ∀ y ∈ scope.names, y.2 = .free → ∃ c, X.env.cells.lookup y.1 = some c)
    (h : ∀ (f d : Addr) (pm ctv : Value) (J : Hp) (s' : Shared), Inv X pins σ J s' → Off P H J → Tabs T J → s'.heap.get? f = some (lamO X params body scope pm d ctv) → J f = none → f ∉ frs X.stack → J d = some (CodeO d (lamN X)) → Q (.ref f) s') :
    wpAny (model X.prog X.w) X.A (eval (.Lambda params body scope pos) X.env) Q E s := by
  obtain ⟨ps, tP, tr, am⟩ := hT _ hm
  have oP : s.heap.get? P = some { cls := .none, data := .fields ps } := I.hok P _ tP
  have out : ∀ f, s.heap.objs.size ≤ f → f ∉ frs X.stack := fun f le m => by
    rcases List.mem_cons.mp (I.stkSub _ m) with e | e
    · have := I.lt
      rw [← e] at this
      exact absurd (Nat.lt_of_lt_of_le this le) (Nat.lt_irrefl _)
    · exact I.nofs le e
  refine PySem.W.kla_eval hdef ?_
  cases hc : codeAmong pos ps.toList with
  | some cv =>
    obtain ⟨d, rfl, hd⟩ := am pos cv hc
    refine PySem.W.kla_makeFunctionHit (c := c) (ps := ps) (closure_ok fr) I.ok.glob (I.mod.glob.keeps I.bk) cd (TB.code.keeps I.bk) oP tr hc (TB.bm.keeps I.bk) fun ctv h1 tk up le => ?_
    exact h h1.objs.size d ((X.mg "__name__").getD .none) ctv H ⟨h1.push (lamO X params body scope ((X.mg "__name__").getD .none) d ctv), _, _, tk, _⟩ (I.kept fun b o e => Heap.get?_push_of_some _ (up b o e)) (fun _ _ _ e => e) hT (Heap.get?_push_size _ rfl) (I.hok.fresh le) (out _ le) hd
  | none =>
    refine PySem.W.kla_makeFunction (c := c) (ps := ps) (closure_ok fr) I.ok.glob (I.mod.glob.keeps I.bk) cd (TB.code.keeps I.bk) oP tr hc TB.gP (TB.bm.keeps I.bk) fun d ctv h1 tk up ge lt hr ht => ?_
    obtain ⟨d', oc, vs, t, z, w1, w2, w3⟩ := hr
    cases z
    have le : s.heap.objs.size ≤ h1.objs.size := by omega
    have nd : H d = none := I.hok.fresh ge
    have J := inv_table (t' := tk) (more := #[rawInt pos.line, rawInt pos.col, .ref d]) (h' := h1.push (lamO X params body scope ((X.mg "__name__").getD .none) d ctv)) I tP (fun b o n e => Heap.get?_push_of_some _ (up b o n e)) (Heap.get?_push_of_some _ ht) ge ⟨oc, vs, t, Heap.get?_push_of_some _ w1, w2, w3⟩
    have off : Off P H (upd (upd H P (.tbl (ps ++ #[rawInt pos.line, rawInt pos.col, .ref d]))) d (CodeO d (lamN X))) := fun a o n e => by
      rw [upd_ne (ne_of_none e nd), upd_ne n]
      exact e
    have dP : P ≠ d := ne_of_none tP nd
    have nP : h1.objs.size ≠ P := Nat.ne_of_gt (Nat.lt_of_lt_of_le (Heap.lt_size oP) le)
    have ndf : h1.objs.size ≠ d := by omega
    refine h h1.objs.size d _ ctv _ _ J off (tabs_off hT tP off hu ⟨_, by rw [upd_ne dP, upd_same], ?_, fun w v z => ?_⟩) (Heap.get?_push_size _ rfl) (by rw [upd_ne ndf, upd_ne nP]; exact I.hok.fresh le) (out _ le) upd_same
    · rw [Array.toList_append]
      exact PySem.TriplesOk_snoc _ _ _ _ tr
    · rw [Array.toList_append] at z
      rcases LamX.among_app _ tr z with z | z
      · obtain ⟨e, e1, e2⟩ := am w v z
        refine ⟨e, e1, off _ _ (fun y => ?_) e2⟩
        rw [y, tP] at e2
        exact codeO_ne _ (Option.some.inj e2).symm
      · exact ⟨d, z, upd_same⟩
/-- x(lambda: body), the frame told strictly -/
def tLamS (T : List (Addr × Str)) (P : Addr) (TT : (XK → Hp → VK → Prop) → Hp → VK → Prop) (t : XK → TE) : TE := fun σ H Q => Tabs T H ∧ ∀ J, Off P H J → Tabs T J → TT (fun E J' Q' => t E σ J' Q') J Q
theorem pe_lamS {T : List (Addr × Str)} {TT : (XK → Hp → VK → Prop) → Hp → VK → Prop} {x a : Str} {g c P : Addr} {k : Nat} {pg : Arguments} {bg : List Stmt} {sg : Scope} {dV kV doc pm cdv ct oc : Value} {an od : Option Addr} {osl : Array (Option Value)} {Ng : List Str}
    {params : Arguments} {body : Expr} {scope : Scope} {t : XK → TE} {p lpos pos : Pos} (hg : Gl X x) (hm : X.mg x = some (.ref g)) (hk : PySem.W.keepIn X.K (.ref g) = true)
    (lk : X.K.lookup g = some ⟨oc, od, .func (PySem.W.fnOf x x pg bg sg dV kV doc pm an cdv ct), osl⟩) (hcg : PySem.W.codeIn X.K cdv x = true) (hb : L2.Binds X.K (PySem.W.fnOf x x pg bg sg dV kV doc pm an cdv ct) [a] []) (Sg : FnScope Ng [a] sg) (hNg : Ng[0]? = some a) (hva : Vis sg a)
    (hG : GivesTo X Ng x sg g cdv bg a (lamN X) TT) (TB : TabB X.base X.mg c P) (cd : X.env.code = .ref c) (hT : (P, lamN X) ∈ T) (hu : ∀ p ∈ T, p.1 = P → p.2 = lamN X) (hr : Room (k + 2) X.A) (L : LamS X.env.scope scope) (hdef : defaultsOf params X.env = ([], []))
    (hbind : ∀ (q : Str) (cl : List (Str × Addr)) (pm cv ctv : Value), bindArgs (PySem.W.kla_fn "<lambda>" q params body scope cl pm cv ctv) ⟨[], []⟩ = pure [])
    (hbody : ∀ (A : Around) (outer : List Env) (s : Shared) (H : Hp) (E : XK) (f d : Addr), Room k (A.deeper (lamEnv X scope s.heap.objs.size f d)) → PE (lamCx X A outer s H E scope f d) body (t E))
    (hdb : (x == ("__debug__" : Str)) = false := by decide) (hd : (a == ("__debug__" : Str)) = false := by decide) (hcd : (a == ("__classdict__" : Str)) = false := by decide) :
    PE X (.Call (.Name x p) [.Lambda params body scope lpos] [] pos) (tLamS T P TT t) := by
  constructor
  rintro pins s σ H Q I ⟨tabs, h⟩
  refine PySem.W.callWith_K (h₀ := X.base) I.ok.mod.kin hk ?_ (by rfl) (by rfl) |> fun z => wpAny_Call_Name_kw (ld_glob I hg hm z hdb)
  show wpAny _ _ (spliced ((false, eval (.Lambda params body scope lpos) X.env) :: backTo pos (starEach [] X.env))) _ _ s
  refine Calls.spliced_cons (lam_new I TB cd hT hu tabs hdef (L.has I.ok) fun f d pm' ctv J s' I1 off tb of nf sf od => Calls.spliced_nil ⟨I1.kIn, ?_⟩)
  have run : codeAny (model X.prog X.w) X.A (.call (.ref g) ⟨[.ref f], []⟩) (CR C8.CX0 X.stack X.prog X.w J s' Q C8.E0) s' :=
    LamX.run_ofS (N := Ng) (ps := [a]) (us := [.ref f]) (vs := [.ref f]) lk hcg Sg hr I1.env0 (hb s' [.ref f] I1.kIn rfl) (.cons rfl .nil) rfl fun hr' => by
      obtain ⟨tt, k1, k2⟩ := hG f d s' J Q (fun E J' Q' => t E σ J' Q') (fun W pn xe E p1 p2 tk hW => LamX.pe_act (i := 0) I1 L of nf sf (hbind _ _ _ _ _) tk hW hr' (fun A outer s H hr2 => hbody A outer s H E f d hr2) hNg hva hd hcd) od (h J off tb)
      exact ⟨tt, k1.nox, k2⟩
  refine wpAny_call (codeAny_mono run fun r s2 told => ?_)
  match r, told with
  | .ok (.ret u), told => exact I1.after told
  | .ok .next, told => exact told.elim
  | .ok .brk, told => exact told.elim
  | .ok .cont, told => exact told.elim
  | .error _, told => exact (show False from told).elim
end
end DL

namespace DL
open PySem PySem.Spec PyProof.Rows L2
open LamX (Tabs TabB lamEnv lamCx LamS)
/-! ### x(lambda: body), where x tells the word of the error -/
structure LamI {ι : Type} (X : ι → Cx) (scope : Scope) (k : Nat) where
  i : ι
  A : Around
  outer : List Env
  s : Shared
  H : Hp
  f : Addr
  d : Addr
  room : Room k (A.deeper (lamEnv (X i) scope s.heap.objs.size f d))
def LamF {ι : Type} (X : ι → Cx) (scope : Scope) (k : Nat) (E : XK) : LamI X scope k → Cx := fun l => lamCx (X l.i) l.A l.outer l.s l.H E scope l.f l.d
theorem told_mono {K : Fg} {cls : Value} {F F' : Str → Prop} (h : ∀ t, F t → F' t) : ∀ {cs : List Cw}, told K cls F cs → told K cls F' cs
  | [], z => z.elim
  | (c, t) :: r, z => by
    obtain ⟨b, e, z1, z2⟩ := z
    exact ⟨b, e, fun y => h t (z1 y), fun y => told_mono h (z2 y)⟩
def wLam (K : Fg) (cs : List Cw) (last : Str) (we : WE) : WE := fun G _ Q => we (frzG G) (fun cls => told K cls (fun t => Q (.str t)) cs) fun _ => Q (.str last)
theorem de_lam {ι : Type} {X : ι → Cx} {K : Fg} {W : Ctl} {k : Nat} {T : List (Addr × Str)} {Pt : Addr} {cs : List Cw} {last : Str} {we : WE} {e body : Expr} {scope : Scope}
    (call : ∀ (i : ι) (t : XK → TE), (∀ (A : Around) (outer : List Env) (s : Shared) (H : Hp) (E : XK) (f d : Addr), Room k (A.deeper (lamEnv (X i) scope s.heap.objs.size f d)) → PE (lamCx (X i) A outer s H E scope f d) body (t E)) → PE (X i) e (tLamS T Pt (TWord K cs last) t))
    (pen : ∀ P, W.pc P → P.is Pt ∧ (∀ n H, P.ok n H → Tabs T H) ∧ ∀ n H J, P.ok n H → Off Pt H J → Tabs T J → P.ok n J)
    (hbody : ∀ E : XK, DE (LamF X scope k E) K ⟨fun cls dd _ H => E cls dd H, fun _ => True⟩ 0 body we) : DE X K W 0 e (wLam K cs last we) := by
  refine ⟨_, fun i => call i (fun E => (hbody E).choose) fun A outer s H E f d hr => (hbody E).choose_spec.1 ⟨i, A, outer, s, H, f, d, hr⟩, fun P av H0 ed hw n H σ G Qd L h Q q => ?_⟩
  obtain ⟨p1, p2, p3⟩ := pen P hw.1
  refine ⟨p2 _ _ L.ok, fun J off tb => ?_⟩
  have eJ : Ext P.is H J := fun a o na hh => off a o (fun z => na (z ▸ p1)) hh
  have LJ := L.grow eJ (p3 _ _ _ L.ok off tb)
  obtain ⟨LF, no⟩ := LJ.frzAll
  have L' : LocOk noPen K av J n J σ (frzG G) := ⟨LF.len, LF.sl, LF.inj, .refl _ _, fun a z => absurd z (no a), trivial, fun _ z => z.elim, fun a z => LJ.avNe z⟩
  have fin : ∀ (t : Str) (J2 : Hp), Qd (.str t) → Ex J J2 → Q (.str t) J2 := fun t J2 hd ex => q (.str t) J2 (.str t) hd ((LJ.growEx ex).le (Nat.le_refl _)) (eJ.trans (Ex.ext ex)) (.str t)
  refine (hbody _).choose_spec.2 noPen av J (fun cls => told K cls (fun t => Qd (.str t)) cs) ⟨trivial, fun cls σ' J2 hc ex => ?_⟩ n J σ (frzG G) _ L' h _ fun v J2 d hd L2 e2 r2 => ?_
  · exact told_mono (fun t z => fin t J2 z fun a o hh => ex a o (fun z => z) hh) hc
  · exact fin last J2 hd fun a o hh => e2 a o (fun z => z) hh
end DL

namespace DL
open PySem PySem.Spec PyProof.Rows L2
/-! ### an exception's object, kept as a value -/
section
variable {X : Cx} {pins : List (Addr × Obj)} {σ : L2.St} {H : Hp} {s : Shared}
theorem erO_ok {P : Program} {w : World} {h : Heap} {a : Addr} {cls : Value} {oe : Obj} {vs : Array Value} {t : Option Addr} (e : h.get? a = some oe) (z : Zc cls none oe) (d : oe.data = .fields vs) (ht : ∀ b, t = some b → vs[0]? = some (.ref b)) : ObjOk P w H h a (ErO cls a t) :=
  ⟨⟨oe, vs, e, z, d, ht⟩, ⟨oe, e⟩, fun _ _ ⟨o, v, q, r⟩ k => ⟨o, v, k o q, r⟩⟩
theorem laid2 {h' : Heap} {a b : Addr} {oa ob : HO} {t' : Nat} (I : Inv X pins σ H s) (k : ∀ b u, s.heap.get? b = some u → h'.get? b = some u) (pa : s.heap.get? a = none) (pb : s.heap.get? b = none) (na : H a = none) (nb : H b = none) (ab : a ≠ b)
    (newb : ObjOk X.prog X.w (upd H b ob) h' b ob) (newa : ObjOk X.prog X.w (upd (upd H b ob) a oa) h' a oa) : Inv X pins σ (upd (upd H b ob) a oa) { s with heap := h', toks := t' } := by
  have na' : upd H b ob a = none := by rw [upd_ne ab]; exact na
  exact I.un (Un.trans (Un.laidN (fun _ _ e => e) pb nb) (Un.laidN k pa na')) ((I.hok.laidN k nb newb).laidN (fun _ _ e => e) na' newa)
/-- X(e), an own error made from a text, as a value -/
theorem pe_err1 {C : Addr} {bmB : List Value} {B newId initId : String} {x : Str} {e : Expr} {ta : TE} {p pos : Pos} (F : ExcBaseFacts B newId initId bmB) (q : PySem.W.excIn X.K C bmB newId = true) (gC : X.mg x = some (.ref C)) (kC : PySem.W.keepIn X.K (.ref C) = true) (hg : Gl X x)
    (he : PE X e ta) (hs : starEach [e] X.env = (false, eval e X.env) :: starEach [] X.env := by rfl) (hdb : (x == ("__debug__" : Str)) = false := by decide) :
    PE X (.Call (.Name x p) [e] [] pos) (fun σ H Q => ta σ H fun v H1 => ∃ m : Str, v = .str m ∧ ∀ a t, H1 a = none → H1 t = none → a ≠ t → Q (.ref a) (upd (upd H1 t (.tup [.str m])) a (ErO (.ref C) a (some t)))) := by
  refine ⟨fun pins s σ H Q I h => ?_⟩
  refine wpAny_Call_Name_kw (ld_glob I hg gC ?_ hdb)
  refine PySem.W.callWith_K (h₀ := X.base) I.ok.mod.kin kC ?_ hs (by rfl)
  rw [hs]
  show wpAny _ _ (spliced ((false, eval e X.env) :: backTo pos (starEach [] X.env))) _ _ s
  refine Calls.spliced_cons (thn (he.run pins s σ H _ I h) fun u s1 ⟨v, H1, I1, r1, q1⟩ => ?_)
  refine Calls.spliced_nil ⟨I1.kIn, ?_⟩
  show wpAny _ _ (call (.ref C) [u]) _ _ _
  obtain ⟨m, rfl, q1⟩ := q1
  obtain ⟨bm, N, nm, qn, bs, hdct, sn, sub, ab, col, dd, k0, k1, k2, k3, k5, mN, hC, hN, hni, T⟩ := exc_obj I1.kIn q
  refine wpAny_call_exc_subT F T hC hN hni (fun h' a hm => ?_) (by show 1 ≤ sizeLine; rw [sizeLine_eq]; omega)
  obtain ⟨t, ht, tn, tt⟩ := hm.there
  have at' : a ≠ t := fun z => by
    rw [← z, ht] at tt
    have := congrArg Obj.data (Option.some.inj tt)
    exact nomatch this
  have hn := I1.hok.gone hm.new
  have hn2 := I1.hok.gone tn
  exact ⟨.ref a, upd (upd H1 t (.tup [.str m])) a (ErO (.ref C) a (some t)), laid2 (ob := .tup [.str m]) (oa := ErO (.ref C) a (some t)) I1 hm.keeps hm.new tn hn hn2 at' ⟨by show 1 ≤ sizeLine; rw [sizeLine_eq]; omega, [u], .cons r1 .nil, ⟨_, tt, rfl, _, rfl⟩⟩ (erO_ok ht ⟨rfl, rfl⟩ rfl fun b e => by cases e; rfl), rfl, q1 a t hn hn2 at'⟩
/-- isinstance(e, c) of such -/
def rIsT (K : Fg) : List V → Hp → VK → Prop := fun xs H Q => ∃ (a D : Addr) (t : Option Addr) (c : V) (cv : Value) (b : Bool), xs = [.ref a, c] ∧ H a = some (ErO (.ref D) a t) ∧ ExcC K D ∧ (∀ u, RelV c u → u = cv) ∧ PySem.W.kitOne K (.ref D) cv = some b ∧ Q (.bl b) H
theorem call_isT : CallR X (.builtin "isinstance") (rIsT X.K) := by
  intro pins s σ H xs us Q I r h
  obtain ⟨a, D, t, c, cv, b, rfl, ha, C, hcv, e, q⟩ := h
  cases r with
  | cons rx rr =>
    cases rr with
    | cons rt rr =>
      cases rr
      cases rx
      have ec := hcv _ rt
      subst ec
      obtain ⟨⟨oe, vs, hget, hz, hv, _⟩, _, _⟩ := I.hok a _ ha
      have J : PySem.W.InstAt s.heap a oe D none := by
        obtain ⟨oc, od, oda, osl⟩ := oe
        obtain ⟨h1, h2⟩ := hz
        dsimp only at h1 h2 hv
        subst h1 h2 hv
        exact ⟨hget, rfl, rfl, trivial⟩
      exact PySem.W.kia_one (PySem.W.handS_kitx_exc C.hg C.hk C.hs C.hd C.ha C.hn C.ht C.hm) I.kIn J e (fun z => nomatch z) fun tk => ⟨.bl b, H, I.kept (t' := tk) fun _ _ z => z, rfl, q⟩
/-- str(e) of such, made from one text -/
def rStrT (K : Fg) : List V → Hp → VK → Prop := fun xs H Q => ∃ (a D t : Addr) (m : Str), xs = [.ref a] ∧ H a = some (ErO (.ref D) a (some t)) ∧ H t = some (.tup [.str m]) ∧ PySem.W.findIn K (.ref D) "__str__" = some (some (.builtin "BaseException.__str__")) ∧ PySem.W.subIn K (.ref D) (.type "BaseException") = some true ∧ Q (.str m) H
theorem call_strT {k : Nat} (hr : Room k X.A) : CallR X (.type "str") (rStrT X.K) := by
  intro pins s σ H xs us Q I r h
  obtain ⟨a, D, t, m, rfl, ha, ht, hs, hB, q⟩ := h
  cases r with
  | cons rx rr =>
    cases rr
    cases rx
    obtain ⟨⟨oe, vs, hget, hz, hv, h0⟩, _, _⟩ := I.hok a _ ha
    obtain ⟨_, its, hits, o, ho, hoc, n, hod⟩ := I.hok t _ ht
    cases hits with
    | cons r1 rr =>
      cases rr
      obtain ⟨tk, rfl⟩ := r1
      exact PySem.P.str_of_C_one (by have := hr.units; omega) ⟨I.kIn, oe, vs, hget, hz.1, hv, h0 t rfl⟩ ⟨o, n, ho, hoc, hod⟩ hs hB ⟨.str m, H, I, ⟨tk, rfl⟩, q⟩
/-- a thing that is there, but wasn't at the entry, is tracked from now on -/
theorem Inv.adopt {a : Addr} {o : HO} {ob : Obj} {vs : Array Value} (I : Inv X pins σ H s) (hn : H a = none) (h0 : X.s_0.heap.get? a = none) (hl : a ≠ X.env.locals) (hob : s.heap.get? a = some ob) (hd : ob.data = .fields vs) (hp : ∀ p ∈ X.pn ++ pins, p.1 ≠ a) (new : ObjOk X.prog X.w (upd H a o) s.heap a o) : Inv X pins σ (upd H a o) s := by
  have hc : ∀ x c, X.env.cells.lookup x = some c → c ≠ a := fun x c e z => by
    obtain ⟨v, o2, e2, e3⟩ := I.cell x c e
    rw [z, hob] at e2
    cases e2
    rw [hd] at e3
    exact nomatch e3
  refine ⟨I.ok, I.os, I.bare, ⟨I.base.keep, I.base.slot, fun b u e n hx => ?_, I.base.there, fun b xs e => ?_, fun b u v e => ?_, fun b ps e => ?_⟩, I.loc, I.cell, ?_, fun x c e => ?_, fun p hpp => ?_, I.hok.laidN (fun _ _ e => e) hn new, I.len⟩
  · rw [upd_ne (fun z => by rw [z, h0] at e; exact nomatch e)]
    exact I.base.free b u e n hx
  · have q := I.base.tups b xs e
    rw [upd_ne (ne_of_none q hn)]
    exact q
  · have q := I.base.frzs b u v e
    rw [upd_ne (ne_of_none q hn)]
    exact q
  · obtain ⟨m, q⟩ := I.base.tbls b ps e
    exact ⟨m, by rw [upd_ne (ne_of_none q hn)]; exact q⟩
  · rw [upd_ne (Ne.symm hl)]
    exact I.free
  · rw [upd_ne (hc x c e)]
    exact I.freeC x c e
  · obtain ⟨e, n, ne, nf, d⟩ := I.pin p hpp
    exact ⟨e, by rw [upd_ne (hp p hpp)]; exact n, ne, nf, d⟩
theorem Inv.unsuiteP {a : Addr} {q : Addr × Obj} {pn' : List (Addr × Obj)} (I : Inv (X.suite a (q :: (X.pn ++ pins))) pn' σ H s) (ok : X.Ok) : Inv X (q :: pins) σ H s :=
  ⟨ok, I.os, I.bare, I.base, I.loc, I.cell, I.free, I.freeC, fun p hp => I.pin p (List.mem_append_left _ (by
    rcases List.mem_append.mp hp with h | h
    · exact List.mem_cons_of_mem _ (List.mem_append_left _ h)
    · rcases List.mem_cons.mp h with h | h
      · rw [h]; exact List.mem_cons_self
      · exact List.mem_cons_of_mem _ (List.mem_append_right _ h))), I.hok, I.len⟩
end
end DL

namespace DL
open PySem PySem.Spec PyProof.Rows L2
/-! ### a def that calls what it got and hands on the error that is raised -/
section
variable {X : Cx} {pins : List (Addr × Obj)} {D : Ends} {a : Addr} {B : Heap} {sI s' : Shared} {τ : Sg} {J : Hp} {cls : Value} {d : Option Addr} {h3 : Heap}
def CaughtW (K : Fg) (c : Value) (D : Ends) : WX := fun cls d _ J => d = none ∧ PySem.W.exmOne K cls c = some true ∧ ∀ a, J a = none → D.rt (.ref a) (upd J a (ErO cls a none))
theorem handledR {x n : Str} {c : Value} {i : Nat} {q1 q2 q3 q4 : Pos} (ok : X.Ok) (hN : X.N.Nodup) (hst : X.stack = X.env :: X.outer) (hf : X.env.frame = some X.env.locals) (nm : Names X x c) (pl : X.N[i]? = some n) (lc : X.env.kindOf n = some .local) (vs : Vis X.env.scope n)
    (nd : (n == ("__debug__" : Str)) = false) (nc : (n == ("__classdict__" : Str)) = false) (hx : X.ex = []) (k : Caught X pins a B sI s' τ J cls d h3) (w : CaughtW X.K c D cls d τ J) :
    wpAny (model X.prog X.w) X.A (handleBy (.ref a) X.env [.ExceptHandler (some (.Name x q1)) (some n) [.Return (some (.Name n q3)) q4] q2]) (SP X pins D) X.xe { s' with heap := h3 } := by
  obtain ⟨rfl, known, w⟩ := w
  obtain ⟨nL, nF⟩ := k.apart hf
  obtain ⟨ob3, vs3, o1, o2, o3⟩ := k.fly.there
  have here := k.now.suite (a := a) o1 o3 k.na nL nF
  have away0 : a ∉ frs X.stack := fun m => by
    rcases List.mem_cons.mp (k.inv.stkSub _ m) with e | e
    · exact nL e
    · exact nF e
  have s0 : X.s_0.heap.get? a = none := by
    cases e : X.s_0.heap.get? a with
    | none => rfl
    | some o =>
      obtain ⟨o', e'⟩ := k.inv.base.there a o e (by rw [hx]; exact fun z => nomatch z)
      have := k.nb a o' e' away0
      rw [k.fly.2.1] at this
      exact nomatch this
  have pinsNe : ∀ p ∈ X.pn ++ pins, p.1 ≠ a := fun p hp z => by
    obtain ⟨e, n, ne, nf, _⟩ := k.inv.pin p hp
    have nf' : p.1 ∉ frs X.stack := by rw [z]; exact away0
    have := k.nb _ _ e nf'
    rw [z, k.fly.2.1] at this
    exact nomatch this
  refine wpAny_handleBy_cons (codeAny_handlers_test ?_) (by intro z; cases z)
  have ofCls : PySem.W.Looks (model X.prog X.w) h3 (typeOf (.ref a)) cls := fun _ _ _ _ kp z => wpAny_typeOf_ref (kp _ _ o1) (by rw [o2.1]; exact z)
  have tells := PySem.W.exm_one (M := model X.prog X.w) k.now.kIn ofCls known
  have named : ∀ {Q : Value → Shared → Prop} {E : Value → Shared → Prop}, Q c { s' with heap := h3 } → wpAny (model X.prog X.w) (X.A.mark (some (.ref a))) (eval (.Name x q1) X.env) Q E { s' with heap := h3 } := by
    intro Q E z
    obtain ⟨y1, y2, y3⟩ := nm
    rcases y3 with y3 | ⟨y3, y4, y5⟩
    · exact ld_glob (X := X.suite a ((a, ob3) :: (X.pn ++ pins))) here y1 y3 z y2
    · exact ld_blt (X := X.suite a ((a, ob3) :: (X.pn ++ pins))) here y1 y3 y4 z y5 y2
  refine named (tells.here ?_)
  refine codeAny_handlers_suite_as (HandSPX.lands_againZ k.fly fun h4 fly4 up4 => ?_)
  have now4 : Inv X pins τ J { s' with heap := h4 } := k.inv.landed k.nb fly4.1 (k.up.trans up4) k.os k.ag
  obtain ⟨ob4, vs4, p1, p2, p3⟩ := fly4.there
  have inside := now4.suite (a := a) p1 p3 k.na nL nF
  refine store_ok (X := X.suite a ((a, ob4) :: (X.pn ++ pins))) (v := .ref a) inside hN pl (.inl lc) rfl (fun s5 I5 => ?_) (.inr lc)
  have il : i < τ.length := by
    rw [k.inv.len]
    exact (List.getElem?_eq_some_iff.mp pl).1
  let D' : Ends := { nx := fun _ _ => False, rt := fun v J6 => v = .ref a ∧ J6 = J, bk := fun _ _ => False, ct := fun _ _ => False }
  have rd : PSs (X.suite a ((a, ob4) :: (X.pn ++ pins))) [.Return (some (.Name n q3)) q4] (tRet (tVar i)) := pss_one (ps_ret (pe_var pl vs nd nc))
  refine wpAny_mono (rd.run [] s5 _ J D' I5 ⟨.ref a, by rw [List.getElem?_set_self il], rfl, rfl⟩) (fun fl s6 told => ?_) fun _ _ z => z.elim
  cases fl <;> simp only [SP] at told
  · obtain ⟨_, _, _, z⟩ := told
    exact z.elim
  · obtain ⟨_, _, _, z⟩ := told
    exact z.elim
  · obtain ⟨_, _, _, z⟩ := told
    exact z.elim
  · obtain ⟨v6, τ6, J6, I6, rv, rfl, rfl⟩ := told
    refine gone_ok (Inv.unsuiteP I6 ok) hN pl lc fun s7 I7 => ?_
    obtain ⟨e7, n7, _, _, _⟩ := I7.pin (a, ob4) (List.mem_append_right _ List.mem_cons_self)
    have I8 : Inv X pins (τ6.set i none) J6 s7 := ⟨I7.ok, I7.os, I7.bare, I7.base, I7.loc, I7.cell, I7.free, I7.freeC, fun p hp => I7.pin p (by
      rcases List.mem_append.mp hp with h | h
      · exact List.mem_append_left _ h
      · exact List.mem_append_right _ (List.mem_cons_of_mem _ h)), I7.hok, I7.len⟩
    have I9 := Inv.adopt (o := ErO cls a none) I8 n7 s0 nL e7 p3 pinsNe (erO_ok e7 p2 p3 fun _ z => nomatch z)
    exact ⟨_, _, _, I9, rv, w a n7⟩
theorem ps_try_caught {x n : Str} {c : Value} {i : Nat} {q1 q2 q3 q4 pos : Pos} {body : List Stmt} {tb : WX → TS} (hN : X.N.Nodup) (hst : X.stack = X.env :: X.outer) (hf : X.env.frame = some X.env.locals) (nm : Names X x c) (pl : X.N[i]? = some n) (lc : X.env.kindOf n = some .local) (vs : Vis X.env.scope n)
    (nd : (n == ("__debug__" : Str)) = false) (nc : (n == ("__classdict__" : Str)) = false) (hx : X.ex = [])
    (hb : ∀ (W : WX) (pn : List (Addr × Obj)) (xe : Value → Shared → Prop), Takes (X.tr pn xe) W → PassesOwn (model X.prog X.w) X.A X.env xe → PSs (X.tr pn xe) body (tb W)) :
    PS X (.Try body [.ExceptHandler (some (.Name x q1)) (some n) [.Return (some (.Name n q3)) q4] q2] [] [] pos) (fun D τ J => tb (CaughtW X.K c D) D τ J) := by
  constructor
  intro pins s τ J D I h
  have ok := I.ok
  have frames : X.A.frames = some (X.env :: X.outer) := ok.frames.trans (congrArg some hst)
  refine wpAny_Try_except (wpAny_mono ((hb (CaughtW X.K c D) (X.pn ++ pins) (fun e s₁ => wpAny (model X.prog X.w) X.A (noteFrame e X.env) (fun _ s₂ => wpAny (model X.prog X.w) X.A (setFlight e none)
    (fun _ s₃ => wpAny (model X.prog X.w) X.A (handleBy e X.env _) (SP X pins D) X.xe s₃) X.xe s₂) X.xe s₁) ?_ PassesOwn.looking).run [] s τ J D (I.toTry _) h) (fun fl s1 told => ?_) fun _ _ z => z)
  · rintro u s' ⟨a, B, sI, pins', τ', J', cls, d, rfl, I', nb, up, sky, na, os, ag, w⟩
    show wpAny (model X.prog X.w) X.A (noteFrame (.ref a) X.env) _ _ _
    refine Sky.land Zc.steady frames hf (by rw [← hst]; exact sky) fun h3 fly up3 => ?_
    exact handledR ok hN hst hf nm pl lc vs nd nc hx ⟨I'.ofTry ok, nb, up.trans up3, fly, na, os, ag⟩ w
  · cases fl <;> simp only [SP] at told
    · obtain ⟨τ6, J6, I6, z⟩ := told
      exact wpAny_execs_nil ⟨_, _, I6.ofTry ok, z⟩
    · obtain ⟨τ6, J6, I6, z⟩ := told
      exact ⟨_, _, I6.ofTry ok, z⟩
    · obtain ⟨τ6, J6, I6, z⟩ := told
      exact ⟨_, _, I6.ofTry ok, z⟩
    · obtain ⟨v6, τ6, J6, I6, rv, z⟩ := told
      exact ⟨_, _, _, I6.ofTry ok, rv, z⟩
end
def TErr (K : Fg) (c : Value) : (XK → Hp → VK → Prop) → Hp → VK → Prop := fun tl H Q => tl (fun cls d J => d = none ∧ PySem.W.exmOne K cls c = some true ∧ ∀ a, J a = none → Q (.ref a) (upd J a (ErO cls a none))) H fun _ J => Q .non J
theorem err_gives {X : Cx} {Ng : List Str} {x a n q y : Str} {c : Value} {sg : Scope} {g : Addr} {cdg : Value} {j i : Nat} {p1 p2 p3 p4 p5 p6 q1 q2 q3 q4 : Pos} (nd : Ng.Nodup) (pl : Ng[i]? = some n)
    (lc : ∀ (s : Shared) (H : Hp), (cxOf C8.CX0 X.prog X.w X.K X.mg X.base Ng x sg g cdg X.A X.stack s H C8.E0).nox.env.kindOf n = some .local) (vs : Vis sg n) (h0 : ∀ f : Addr, (L2.start Ng [V.ref f])[0]? = some (some (V.ref f)))
    (nm : ∀ (s : Shared) (H : Hp), Names (cxOf C8.CX0 X.prog X.w X.K X.mg X.base Ng x sg g cdg X.A X.stack s H C8.E0).nox y c)
    (hsw : ∀ (s : Shared) (H : Hp), swapsWith (.Call (.Name a p1) [] [] p2) none p3.line (cxOf C8.CX0 X.prog X.w X.K X.mg X.base Ng x sg g cdg X.A X.stack s H C8.E0).env = pure false := by intro _ _; rfl)
    (nd1 : (n == ("__debug__" : Str)) = false := by decide) (nc1 : (n == ("__classdict__" : Str)) = false := by decide) :
    LamX.GivesTo X Ng x sg g cdg [.Try [.Expr (.Call (.Name a p1) [] [] p2) p3] [.ExceptHandler (some (.Name y q1)) (some n) [.Return (some (.Name n q3)) q4] q2] [] [] p4, .Return (some (.Constant .none j p5)) p6] a q (TErr X.K c) := by
  intro f c' s H Q tl act hc h
  refine ⟨_, pss_cons (ps_try_caught (X := (cxOf C8.CX0 X.prog X.w X.K X.mg X.base Ng x sg g cdg X.A X.stack s H C8.E0).nox)
      (tb := fun W D σ H => ∃ Ech : XK, (∀ cls d σ' H', Ech cls d H' → W cls d σ' H') ∧ σ[0]? = some (some (.ref f)) ∧ H c' = some (LamX.CodeO c' q) ∧ tl Ech H fun _ H' => D.nx σ H')
      nd rfl rfl (nm s H) pl (lc s H) vs nd1 nc1 rfl (fun W pn xe tk _ => ?_)) (pss_one (ps_ret pe_non)), ?_⟩
  · refine ⟨fun pins s' σ H D I ⟨Ech, hW, k1, k2, k3⟩ => ?_⟩
    exact (pss_one (ps_expr (act W pn xe Ech p1 p2 tk hW) (hsw s H))).run pins s' σ H D I ⟨k1, k2, k3⟩
  · exact ⟨fun cls d J => d = none ∧ PySem.W.exmOne X.K cls c = some true ∧ ∀ a, J a = none → Q (.ref a) (upd J a (ErO cls a none)), fun cls d σ' H' z => z, h0 f, hc, h⟩
end DL

namespace DL
open PySem PySem.Spec PyProof.Rows L2
open LamX (Tabs TabS TabB CodeO codeO_ne lamEnv lamCx LamS)
/-! ### what is never reached -/
section
variable {ι : Type} {X : ι → Cx} {K : Fg} {W : Ctl} {c c1 : Nat} {e : Expr} {es : List Expr} {wl : WL} {st : Stmt} {sts : List Stmt} {pos p2 : Pos}
def wDead : WE := fun _ _ _ => False
def wDeadS : WS := fun _ _ => False
theorem de_dead : DE X K W 0 e wDead := ⟨fun _ _ _ => False, fun i => ⟨fun _ _ _ _ _ _ z => z.elim⟩, fun _ _ _ _ _ _ _ _ _ _ _ h _ _ => h.elim⟩
theorem ds_dead : DS X K W 0 st wDeadS := ⟨fun _ _ _ => False, fun i => ⟨fun _ _ _ _ _ _ z => z.elim⟩, fun _ _ _ _ _ _ _ _ _ _ h _ _ => h.elim⟩
/-! ### errors as values -/
def wErr (C : Addr) (w : WE) : WE := fun G ed Q => w G ed fun d => onS d fun m => Q (.err (.ref C) (some m))
theorem de_err1 {mg : Str → Option Value} {x : Str} {C : Addr} {w : WE} (hK : ∀ i, (X i).K = K) (hmg : ∀ i, (X i).mg = mg) (F : XFact K mg x C) (h : DE X K W c e w) (hg : ∀ i, Gl (X i) x := by intro _; rfl) (hs : ∀ i, starEach [e] (X i).env = (false, eval e (X i).env) :: starEach [] (X i).env := by intro _; rfl)
    (hdb : (x == ("__debug__" : Str)) = false := by decide) : DE X K W c (.Call (.Name x p2) [e] [] pos) (wErr C w) := by
  obtain ⟨te, pe, s⟩ := h
  refine ⟨_, fun i => pe_err1 PySem.F.excBase_ValueError (by rw [hK i]; exact F.q) (by rw [hmg i]; exact F.g) (by rw [hK i]; exact F.kp) (hg i) (pe i) (hs i) hdb, fun P av H0 ed hw n H σ G Qd L h Q q => ?_⟩
  refine s P av H0 ed hw n H σ G _ L h _ fun v H1 d hd L1 e1 r1 => ?_
  obtain ⟨m, rfl, hd⟩ := onS_of hd
  cases r1
  refine ⟨m, rfl, fun a t na nt ne => ?_⟩
  have ex1 : Ex H1 (upd H1 t (.tup [.str m])) := ex_new nt
  have na' : upd H1 t (.tup [.str m]) a = none := by rw [upd_ne ne]; exact na
  have ex : Ex H1 (upd (upd H1 t (.tup [.str m])) a (ErO (.ref C) a (some t))) := fun b o hb => ex_new na' b o (ex1 b o hb)
  refine q _ _ _ hd (L1.growEx ex) (e1.trans (Ex.ext ex)) (.err ⟨some t, upd_same, fun z => L1.avoNe z na, fun x hx => ?_⟩)
  cases hx
  exact ⟨t, rfl, by rw [upd_ne (Ne.symm ne)]; exact upd_same, fun z => L1.avoNe z nt⟩
def fIsE (K : Fg) : List D → (D → Prop) → Prop
  | [.err (.ref E) _, .obj (.ref C)], Q => ExcC K E ∧ onO (PySem.W.kitOne K (.ref E) (.ref C)) fun b => Q (.bl b)
  | [.err (.ref E) _, .obj (.ty n)], Q => ExcC K E ∧ onO (PySem.W.kitOne K (.ref E) (.type n)) fun b => Q (.bl b)
  | _, _ => False
theorem caIsE : CaS K (rIsT K) (fIsE K) := by
  intro is av H xs ds Qd hi ha r h Q q
  unfold fIsE at h
  split at h
  · obtain ⟨hx, h⟩ := h
    obtain ⟨b, hb, h⟩ := onO_of h
    cases r with
    | cons r rr =>
      cases rr with
      | cons r2 rr =>
        cases rr
        cases r2
        cases r with
        | err z =>
          obtain ⟨t, h1, _⟩ := z
          exact ⟨_, _, t, _, _, b, rfl, h1, hx, fun u hu => hu, hb, q _ H _ h (fun _ _ z => z) (.bl _)⟩
  · obtain ⟨hx, h⟩ := h
    obtain ⟨b, hb, h⟩ := onO_of h
    cases r with
    | cons r rr =>
      cases rr with
      | cons r2 rr =>
        cases rr
        cases r2
        cases r with
        | err z =>
          obtain ⟨t, h1, _⟩ := z
          exact ⟨_, _, t, _, _, b, rfl, h1, hx, fun u hu => hu, hb, q _ H _ h (fun _ _ z => z) (.bl _)⟩
  · exact h.elim
theorem de_isE {p : Pos} {e2 : Expr} (hK : ∀ i, (X i).K = K) (hm : ∀ i, (X i).mg "isinstance" = none) (h : DB X K W c [e, e2] wl) (hg : ∀ i, Gl (X i) "isinstance" := by intro _; rfl) (he : ∀ i, starEach [e, e2] (X i).env = (false, eval e (X i).env) :: starEach [e2] (X i).env := by intro _; rfl) (hpl : ∀ i, (backTo pos (starEach [e2] (X i).env)).any (·.1) = false := by intro _; rfl) :
    DE X K W c (.Call (.Name "isinstance" p) [e, e2] [] pos) (wCb (fIsE K) wl) :=
  de_cb caIsE (fun i _ pa => by rw [← hK i]; exact pe_callB call_isT (hg i) (hm i) (by decide +kernel) pa (by decide) (by decide) (he i) (hpl i)) h
def fStrE (K : Fg) : List D → (D → Prop) → Prop
  | [.err (.ref E) (some m)], Q => PySem.W.findIn K (.ref E) "__str__" = some (some (.builtin "BaseException.__str__")) ∧ PySem.W.subIn K (.ref E) (.type "BaseException") = some true ∧ Q (.str m)
  | _, _ => False
theorem caStrE : CaS K (rStrT K) (fStrE K) := by
  intro is av H xs ds Qd hi ha r h Q q
  unfold fStrE at h
  split at h
  · obtain ⟨h1, h2, h⟩ := h
    cases r with
    | cons r rr =>
      cases rr
      cases r with
      | err z =>
        obtain ⟨t, e1, _, e2⟩ := z
        obtain ⟨b, rfl, e3, _⟩ := e2 _ rfl
        exact ⟨_, _, b, _, rfl, e1, e3, h1, h2, q _ H _ h (fun _ _ z => z) (.str _)⟩
  · exact h.elim
theorem de_strE {k : Nat} {p : Pos} (hK : ∀ i, (X i).K = K) (hr : ∀ i, Room k (X i).A) (hm : ∀ i, (X i).mg "str" = none) (h : DB X K W c [e] wl) (hg : ∀ i, Gl (X i) "str" := by intro _; rfl) (he : ∀ i, starEach [e] (X i).env = (false, eval e (X i).env) :: starEach [] (X i).env := by intro _; rfl) (hpl : ∀ i, (backTo pos (starEach [] (X i).env)).any (·.1) = false := by intro _; rfl) :
    DE X K W c (.Call (.Name "str" p) [e] [] pos) (wCb (fStrE K) wl) :=
  de_cb caStrE (fun i _ pa => by rw [← hK i]; exact pe_callTy (call_strT (hr i)) (hg i) (hm i) bt_str pa (by decide) (by decide) (he i) (hpl i)) h
/-- a class of the text, as a value -/
theorem de_cls {mg : Str → Option Value} {x : Str} {C : Addr} (hmg : ∀ i, (X i).mg = mg) (g : mg x = some (.ref C)) (hg : ∀ i, Gl (X i) x := by intro _; rfl) (hdb : (x == ("__debug__" : Str)) = false := by decide) : DE X K W 0 (.Name x pos) (wC (.obj (.ref C))) :=
  de_glob (v := .ref C) (u := .ref C) (fun i => by rw [hmg i]; exact g) rfl (.obj _) hg hdb
end
/-! ### pens with tables -/
structure HasPen (p : Addr) (Q : Pn) (c : Addr) : Prop where
  isp : Q.is p
  isc : Q.is c
  get : ∀ n H, Q.ok n H → penOk p c n H
  back : ∀ n m H H', Q.ok n H → Ext (penP p c).is H H' → penOk p c m H' → Q.ok m H'
theorem hasPen0 {p c : Addr} : HasPen p (penP p c) c := ⟨.inl rfl, .inr rfl, fun _ _ h => h, fun _ _ _ _ _ _ h => h⟩
def penT (p c : Addr) (T : List (Addr × Str)) : Pn where
  is := fun a => a = p ∨ a = c ∨ ∃ t ∈ T, a = t.1
  ok := fun n H => penOk p c n H ∧ Tabs T H
  mono := fun h hm => ⟨(penP p c).mono h.1 hm, h.2⟩
  stab := fun {n H H'} h e k => ⟨(penP p c).stab h.1 (fun a z => e a (z.elim .inl fun z => .inr (.inl z))) k, fun t ht => by
    obtain ⟨ps, h1, h2, h3⟩ := h.2 t ht
    refine ⟨ps, by rw [e t.1 (.inr (.inr ⟨t, ht, rfl⟩))]; exact h1, h2, fun pos cv hc => ?_⟩
    obtain ⟨d, e1, e2⟩ := h3 pos cv hc
    refine ⟨d, e1, k d _ e2 (fun xs z => ?_) (fun ks z => ?_) codeO_ne⟩
    · unfold CodeO at z
      exact nomatch z
    · unfold CodeO at z
      exact nomatch z⟩
  al := fun {n H a} h i => by
    rcases i with i | i | ⟨t, ht, rfl⟩
    · exact (penP p c).al h.1 (.inl i)
    · exact (penP p c).al h.1 (.inr i)
    · obtain ⟨ps, h1, _⟩ := h.2 t ht
      rw [h1]
      exact fun z => nomatch z
theorem pen_not_tab {p c : Addr} {n : Nat} {H : Hp} {a : Addr} {ps : Array Value} (h : penOk p c n H) (i : a = p ∨ a = c) (t : H a = some (.tbl ps)) : False := by
  obtain ⟨ne, cells, k, z, h1, h2, h3, h4, h5⟩ := h
  rcases i with rfl | rfl
  · rw [h3] at t; exact nomatch t
  · rw [h1] at t; exact nomatch t
theorem hasPenT {p c : Addr} {T : List (Addr × Str)} : HasPen p (penT p c T) c := ⟨.inl rfl, .inr (.inl rfl), fun _ _ h => h.1, fun n m H H' h e k => ⟨k, fun t ht => by
  obtain ⟨ps, h1, h2, h3⟩ := h.2 t ht
  refine ⟨ps, e _ _ (fun z => pen_not_tab h.1 z h1) h1, h2, fun pos cv hc => ?_⟩
  obtain ⟨d, e1, e2⟩ := h3 pos cv hc
  refine ⟨d, e1, e _ _ (fun z => ?_) e2⟩
  obtain ⟨ne, cells, k', z', g1, g2, g3, g4, g5⟩ := h.1
  rcases z with rfl | rfl
  · rw [g3] at e2; unfold CodeO at e2; exact nomatch e2
  · rw [g1] at e2; unfold CodeO at e2; exact nomatch e2⟩⟩
/-- what a lambda's rule wants of the pen -/
theorem penT_lam {p c Pt : Addr} {T : List (Addr × Str)} (hm : ∃ t ∈ T, t.1 = Pt) : (penT p c T).is Pt ∧ (∀ n H, (penT p c T).ok n H → Tabs T H) ∧ ∀ n H J, (penT p c T).ok n H → Off Pt H J → Tabs T J → (penT p c T).ok n J := by
  obtain ⟨t, ht, rfl⟩ := hm
  refine ⟨.inr (.inr ⟨t, ht, rfl⟩), fun _ _ h => h.2, fun n H J h o tb => ⟨?_, tb⟩⟩
  obtain ⟨ps, k1, _, _⟩ := h.2 t ht
  have np : p ≠ t.1 := fun z => pen_not_tab h.1 (.inl z.symm) k1
  have nc : c ≠ t.1 := fun z => pen_not_tab h.1 (.inr z.symm) k1
  obtain ⟨ne, cells, k', z', g1, g2, g3, g4, g5⟩ := h.1
  exact ⟨ne, cells, k', z', o _ _ nc g1, g2, o _ _ np g3, g4, g5⟩
section
variable {ι : Type} {X : ι → Cx} {K : Fg} {W : Ctl} {c : Nat} {e : Expr} {es : List Expr} {wl : WL} {pos p2 : Pos}
theorem de_callPT {P : Program} {w : World} {mg : Str → Option Value} {base : Heap} {x : Str} {k kk np cst : Nat} {Wf : WF} {p : Addr} (F : PFn P w K mg base x k np cst Wf) (hF : Fam X P w K mg base) (hp : ∀ Q, W.pc Q → ∃ c, HasPen p Q c) (tk : ∀ i, Takes (X i) W.w) (hr : ∀ i, Room kk (X i).A) (h : DA X K W c (e :: es) wl) (hk : k ≤ kk := by decide)
    (hg : ∀ i, Gl (X i) x := by intro _; rfl) (hdb : (x == ("__debug__" : Str)) = false := by decide) (he : ∀ i, starEach (e :: es) (X i).env = (false, eval e (X i).env) :: starEach es (X i).env := by intro _; rfl) (hpl : ∀ i, (backTo pos (starEach es (X i).env)).any (·.1) = false := by intro _; rfl) :
    DE X K W (c + cst) (.Call (.Name x p2) (e :: es) [] pos) (wCallP p Wf wl) := by
  obtain ⟨ta, pa, s⟩ := h
  obtain ⟨f, fd, ps, h1, h2, h3, h4⟩ := F.ex
  refine ⟨tCallS (spP K np cst Wf) (L2.WE W.w) ta, fun i => ?_, fun P' av H0 ed hw n H σ G Qd L h Q q => ?_⟩
  · obtain ⟨e1, e2, e3, e4, e5⟩ := hF i
    subst e1; subst e2; subst e3; subst e4; subst e5
    exact pe_callS (h4.mono (Nat.le_refl _)) ((hr i).mono hk) (hg i) h1 h2 h3 (fun σ => passAt (tk i) σ) (pa i) hdb (he i) (hpl i)
  · obtain ⟨cc, hpn⟩ := hp P' hw.1
    have sub : ∀ a, (penP p cc).is a → P'.is a := fun a z => z.elim (fun z => z ▸ hpn.isp) fun z => z ▸ hpn.isc
    have extS : ∀ {A B : Hp}, Ext (penP p cc).is A B → Ext P'.is A B := fun ex a o hn hh => ex a o (fun z => hn (sub a z)) hh
    refine s P' av H0 ed hw (n + cst) H σ G _ (L.le (by omega)) h _ fun vs H1 ds hd L1 e1 r1 => ?_
    obtain ⟨q', r, e0, e2, hd2⟩ := penA_of hd
    subst e0
    subst e2
    cases r1 with
    | cons r0 rr =>
      cases r0
      refine ⟨by rw [List.length_cons, rr.len, F.len r ed Qd hd2], q', cc, n, avo av σ G, _, r, ed, Qd, rfl, hpn.get _ _ L1.ok, L1.isAvo hpn.isp, L1.isAvo hpn.isc, fun _ => L1.avoNe, rr, hd2, fun cls H' hc ex => hw.2 cls σ H' hc (L1.ext.trans (extS ex)), fun v H' d hd ex hk r => ?_⟩
      exact q v H' d hd (L1.grow (extS ex) (hpn.back _ _ _ _ L1.ok ex hk)) (e1.trans (extS ex)) r
/-! ### x(lambda: body), where x hands on the error -/
def wLamE (K : Fg) (c : Value) (we : WE) : WE := fun G _ Q => we (frzG G) (fun cls => PySem.W.exmOne K cls c = some true ∧ Q (.err cls none)) fun _ => Q .non
theorem de_lamE {k : Nat} {T : List (Addr × Str)} {Pt : Addr} {c : Value} {we : WE} {body : Expr} {scope : Scope}
    (call : ∀ (i : ι) (t : XK → TE), (∀ (A : Around) (outer : List Env) (s : Shared) (H : Hp) (E : XK) (f d : Addr), Room k (A.deeper (lamEnv (X i) scope s.heap.objs.size f d)) → PE (lamCx (X i) A outer s H E scope f d) body (t E)) → PE (X i) e (tLamS T Pt (TErr K c) t))
    (pen : ∀ P, W.pc P → P.is Pt ∧ (∀ n H, P.ok n H → Tabs T H) ∧ ∀ n H J, P.ok n H → Off Pt H J → Tabs T J → P.ok n J)
    (hbody : ∀ E : XK, DE (LamF X scope k E) K ⟨fun cls dd _ H => E cls dd H, fun _ => True⟩ 0 body we) : DE X K W 0 e (wLamE K c we) := by
  refine ⟨_, fun i => call i (fun E => (hbody E).choose) fun A outer s H E f d hr => (hbody E).choose_spec.1 ⟨i, A, outer, s, H, f, d, hr⟩, fun P av H0 ed hw n H σ G Qd L h Q q => ?_⟩
  obtain ⟨p1, p2, p3⟩ := pen P hw.1
  refine ⟨p2 _ _ L.ok, fun J off tb => ?_⟩
  have eJ : Ext P.is H J := fun a o na hh => off a o (fun z => na (z ▸ p1)) hh
  have LJ := L.grow eJ (p3 _ _ _ L.ok off tb)
  obtain ⟨LF, no⟩ := LJ.frzAll
  have L' : LocOk noPen K av J n J σ (frzG G) := ⟨LF.len, LF.sl, LF.inj, .refl _ _, fun a z => absurd z (no a), trivial, fun _ z => z.elim, fun a z => LJ.avNe z⟩
  refine (hbody _).choose_spec.2 noPen av J (fun cls => PySem.W.exmOne K cls c = some true ∧ Qd (.err cls none)) ⟨trivial, fun cls σ' J2 hc ex => ?_⟩ n J σ (frzG G) _ L' h _ fun v J2 d hd L2 e2 r2 => ?_
  · refine ⟨rfl, hc.1, fun a na => ?_⟩
    have ex1 : Ex J J2 := fun a o hh => ex a o (fun z => z) hh
    have ex2 : Ex J (upd J2 a (ErO cls a none)) := fun b o hh => ex_new na b o (ex1 b o hh)
    have naJ : J a = none := by
      cases e : J a with
      | none => rfl
      | some o => rw [ex1 a o e] at na; exact nomatch na
    exact q _ _ _ hc.2 ((LJ.growEx ex2).le (Nat.le_refl _)) (eJ.trans (Ex.ext ex2)) (.err ⟨none, upd_same, fun z => LJ.avoNe z naJ, fun _ z => nomatch z⟩)
  · have ex : Ex J J2 := fun a o hh => e2 a o (fun z => z) hh
    exact q _ J2 .non hd ((LJ.growEx ex).le (Nat.le_refl _)) (eJ.trans (Ex.ext ex)) .non
end
end DL

namespace DL
open PySem PySem.Spec PyProof.Rows L2
/-! ### a dict of the module, texts to ints, read -/
def kvOf (e : DictEntry) : Option (Str × Int) := match e.key, e.val with
  | .str x _, .int i _ => some (x, i)
  | _, _ => none
def lookS (kvs : List (Str × Int)) (z : Str) : Option Int := (kvs.find? fun p => p.1 == z).map (·.2)
structure DicF (K : Fg) (w : World) (mg : Str → Option Value) (x : Str) (d : Addr) (kvs : List (Str × Int)) : Prop where
  g : mg x = some (.ref d)
  ex : ∃ es n, KDict K w d es n ∧ es.toList.map kvOf = kvs.map some
theorem kvOf_some {e : DictEntry} {x : Str} {i : Int} (h : kvOf e = some (x, i)) : ∃ t u, e.key = .str x t ∧ e.val = .int i u := by
  unfold kvOf at h
  split at h
  · rename_i x' t i' u h1 h2
    cases h
    exact ⟨t, u, h1, h2⟩
  · exact nomatch h
theorem find_kv (z : Str) : ∀ {es : List DictEntry} {kvs : List (Str × Int)}, es.map kvOf = kvs.map some →
    es.any (·.refKey) = false ∧ match lookS kvs z with
      | some i => ∃ e u, es.find? (·.key.isStr z) = some e ∧ e.val = .int i u
      | none => es.find? (·.key.isStr z) = none
  | [], [], _ => ⟨rfl, rfl⟩
  | [], _ :: _, h => nomatch h
  | _ :: _, [], h => nomatch h
  | e :: es, (x, i) :: kvs, h => by
    rw [List.map_cons, List.map_cons, List.cons.injEq] at h
    obtain ⟨t, u, h1, h2⟩ := kvOf_some h.1
    obtain ⟨r1, r2⟩ := find_kv z h.2
    have rk : e.refKey = false := by unfold DictEntry.refKey; rw [h1]
    refine ⟨by rw [List.any_cons, rk, r1]; rfl, ?_⟩
    have hk : e.key.isStr z = (x == z) := by rw [h1]; rfl
    unfold lookS at r2 ⊢
    rw [List.find?_cons, List.find?_cons, hk]
    cases hx : (x == z) with
    | true => exact ⟨e, u, rfl, h2⟩
    | false => exact r2
theorem DicF.ns {K : Fg} {w : World} {mg : Str → Option Value} {x : Str} {d : Addr} {kvs : List (Str × Int)} (F : DicF K w mg x d kvs) (z : Str) : ∃ r, PySem.W.nsIn K d z = some r ∧ r.isSome = (lookS kvs z).isSome ∧ ∀ i, lookS kvs z = some i → ∃ u, r = some u ∧ RelV (.int i) u := by
  obtain ⟨es, n, D, hk⟩ := F.ex
  obtain ⟨h1, h2⟩ := find_kv z hk
  unfold PySem.W.nsIn
  rw [D.at_]
  dsimp only
  cases q : lookS kvs z with
  | none =>
    rw [q] at h2
    dsimp only at h2
    rw [h2]
    dsimp only
    rw [h1]
    exact ⟨none, rfl, rfl, fun _ z => nomatch z⟩
  | some i =>
    rw [q] at h2
    obtain ⟨e, u, h3, h4⟩ := h2
    rw [h3]
    exact ⟨some e.val, rfl, rfl, fun j hj => by cases hj; exact ⟨e.val, rfl, u, h4⟩⟩
section
variable {ι : Type} {X : ι → Cx} {K : Fg} {W : Ctl} {c : Nat} {a : Expr} {wa : WE} {pos p2 : Pos} {w : World} {mg : Str → Option Value} {x : Str} {d : Addr} {kvs : List (Str × Int)}
def fKdIn (d : Addr) (kvs : List (Str × Int)) (g : Bool → Bool) : D → D → (D → Prop) → Prop
  | .str z, .obj (.ref d'), Q => d' = d ∧ Q (.bl (g (lookS kvs z).isSome))
  | _, _, _ => False
theorem opKdIn {r : R2} {g : Bool → Bool} (F : DicF K w mg x d kvs) (hr : ∀ z H Q r0, PySem.W.nsIn K d z = some r0 → Q (.bl (g r0.isSome)) H → r (.str z) (.ref d) H Q) : OpS K r (fKdIn d kvs g) := by
  intro is av H x y dx dy Qd hi ha rx ry h Q q
  unfold fKdIn at h
  split at h
  · obtain ⟨rfl, h⟩ := h
    cases rx
    cases ry
    obtain ⟨r0, h1, h2, _⟩ := F.ns ‹Str›
    exact hr _ _ _ r0 h1 (q _ H _ (by rw [h2]; exact h) (fun _ _ z => z) (.bl _))
  · exact h.elim
theorem dx_kdIn (hK : ∀ i, (X i).K = K) (hW : ∀ i, (X i).w = w) (hmg : ∀ i, (X i).mg = mg) (F : DicF K w mg x d kvs) (ha : DR X K W c a wa) (hg : ∀ i, Gl (X i) x := by intro _; rfl) (hdb : (x == ("__debug__" : Str)) = false := by decide) : DX X K W (c + 0) (.Compare a [.In] [.Name x p2] pos) (w2 (fKdIn d kvs id) wa (wC (.obj (.ref d)))) := by
  obtain ⟨es, n, D, _⟩ := F.ex
  exact twoX (r := fun x y H Q => ∃ (z : Str) (r : Option Value), x = .str z ∧ y = .ref d ∧ PySem.W.nsIn K d z = some r ∧ Q (.bl r.isSome) H) (opKdIn (g := id) F fun z H Q r0 h q => ⟨z, r0, rfl, rfl, h, q⟩) (fun i _ _ pa pb => by
    have D' : KDict (X i).K (X i).w d es n := by rw [hK i, hW i]; exact D
    have e1 := op_in_kd D'
    rw [hK i] at e1
    exact ⟨pe_cmpR e1 pa pb rfl, pt_cmpR e1 pa pb rfl⟩) ha (de_cls hmg F.g hg hdb).r
theorem dx_kdNotIn (hK : ∀ i, (X i).K = K) (hW : ∀ i, (X i).w = w) (hmg : ∀ i, (X i).mg = mg) (F : DicF K w mg x d kvs) (ha : DR X K W c a wa) (hg : ∀ i, Gl (X i) x := by intro _; rfl) (hdb : (x == ("__debug__" : Str)) = false := by decide) : DX X K W (c + 0) (.Compare a [.NotIn] [.Name x p2] pos) (w2 (fKdIn d kvs not) wa (wC (.obj (.ref d)))) := by
  obtain ⟨es, n, D, _⟩ := F.ex
  exact twoX (r := fun x y H Q => ∃ (z : Str) (r : Option Value), x = .str z ∧ y = .ref d ∧ PySem.W.nsIn K d z = some r ∧ Q (.bl (!r.isSome)) H) (opKdIn (g := not) F fun z H Q r0 h q => ⟨z, r0, rfl, rfl, h, q⟩) (fun i _ _ pa pb => by
    have D' : KDict (X i).K (X i).w d es n := by rw [hK i, hW i]; exact D
    have e1 := op_notIn_kd D'
    rw [hK i] at e1
    exact ⟨pe_cmpR e1 pa pb rfl, pt_cmpR e1 pa pb rfl⟩) ha (de_cls hmg F.g hg hdb).r
def fKdIx (d : Addr) (kvs : List (Str × Int)) : D → D → (D → Prop) → Prop
  | .obj (.ref d'), .str z, Q => d' = d ∧ onO (lookS kvs z) fun i => Q (.int i)
  | _, _, _ => False
theorem opKdIx (F : DicF K w mg x d kvs) : OpS K (rIxD K w) (fKdIx d kvs) := by
  intro is av H x y dx dy Qd hi ha rx ry h Q q
  unfold fKdIx at h
  split at h
  · obtain ⟨rfl, h⟩ := h
    obtain ⟨i, e, h⟩ := onO_of h
    cases rx
    cases ry
    obtain ⟨r0, h1, _, h3⟩ := F.ns ‹Str›
    obtain ⟨u, rfl, ru⟩ := h3 i e
    obtain ⟨es, n, D, _⟩ := F.ex
    exact ⟨_, _, .int i, rfl, rfl, ⟨es, n, u, D.at_, D.lit, h1, ru⟩, q _ H _ h (fun _ _ z => z) (.int _)⟩
  · exact h.elim
theorem de_kdIx (hK : ∀ i, (X i).K = K) (hW : ∀ i, (X i).w = w) (hmg : ∀ i, (X i).mg = mg) (F : DicF K w mg x d kvs) (hb : DR X K W c a wa) (hg : ∀ i, Gl (X i) x := by intro _; rfl) (hdb : (x == ("__debug__" : Str)) = false := by decide) (hs : PlainIx a := by exact fun _ _ => rfl) : DE X K W (0 + c) (.Subscript (.Name x p2) a pos) (w2 (fKdIx d kvs) (wC (.obj (.ref d))) wa) :=
  two (opKdIx F) (fun i _ _ pa pb => by
    have e1 := ix_kdict (X := X i)
    rw [hK i, hW i] at e1
    exact pe_ix e1 pa pb hs) (de_cls hmg F.g hg hdb).r hb
end
end DL

namespace DL
open PySem PySem.Spec PyProof.Rows L2
/-! ### more methods of texts -/
section
variable {ι : Type} {X : ι → Cx} {K : Fg} {W : Ctl} {c c1 c2 : Nat} {a e e2 : Expr} {wa : WE} {wl : WL} {pos apos cpos : Pos}
def fStr1 (g : Str → Str → D) : D → List D → (D → Prop) → Prop
  | .str a, [.str b], Q => Q (g a b)
  | _, _, _ => False
theorem meStr1 {g : Str → Str → D} {gv : Str → Str → V} (hg : ∀ a b, Atom (gv a b) (g a b)) : MeS K W (fun _ x xs H Q => ∃ a b, x = .str a ∧ xs = [.str b] ∧ Q (gv a b) H) "str" (fStr1 g) := by
  intro is av σ H H' x xs dx ds Qd hi ha ex rx rs h Q q
  unfold fStr1 at h
  split at h
  · cases rx
    cases rs with
    | cons r rr =>
      cases rr
      cases r
      exact ⟨_, _, rfl, rfl, q _ H' _ h (fun _ _ z => z) (hg _ _).rp⟩
  · exact h.elim
theorem de_count (hK : ∀ i, (X i).K = K) (ha : DR X K W c1 a wa) (hb : DB X K W c2 [e] wl)
    (hbase : ∀ i, attributeBase a "count" (X i).env (eval a (X i).env) = eval a (X i).env := by intro _; rfl)
    (hfew : ∀ i, ((backTo cpos (starEach [e] (X i).env)).all (fun x => !x.1) && (backToKw cpos (keywordEach [] (X i).env)).all (fun x => x.1.isSome) && decide ([e].length + ([] : List Keyword).length + (if ([] : List Keyword).isEmpty then 0 else 1) < 30)) = true := by intro _; rfl)
    (hline : (apos.endLine == cpos.line) = true := by rfl) (hs : ∀ i, starEach [e] (X i).env = (false, eval e (X i).env) :: starEach [] (X i).env := by intro _; rfl) : DE X K W (c1 + c2) (.Call (.Attribute a "count" apos) [e] [] cpos) (wMe (fStr1 fun a b => .int (Txt.count a b)) isStr wa wl) :=
  de_me (T := "str") (fun _ _ _ _ _ => str_ty) (meStr1 (gv := fun a b => .int (Txt.count a b)) fun _ _ => .int _) (fun i _ _ pa pl => by rw [← hK i]; exact pe_bmS PySem.F.plainAttrs_str PySem.F.slot_str_count PySem.F.type_str_count (MtR.toS mt_count) pa pl (hbase i) (hfew i) hline (hs i)) ha hb
def fUpper : D → List D → (D → Prop) → Prop
  | .str a, [], Q => a.length ≤ 5592405 ∧ Q (.str (Txt.upper a))
  | _, _, _ => False
theorem de_upper (hK : ∀ i, (X i).K = K) (ha : DR X K W c a wa)
    (hbase : ∀ i, attributeBase a "upper" (X i).env (eval a (X i).env) = eval a (X i).env := by intro _; rfl) (hline : (apos.endLine == cpos.line) = true := by rfl) : DE X K W c (.Call (.Attribute a "upper" apos) [] [] cpos) (fun G ed Q => wa G ed fun x => fUpper x [] Q) := by
  obtain ⟨ta, pa, sa⟩ := ha
  refine ⟨tBM0 K "str" (fun x xs H Q => ∃ a, x = .str a ∧ xs = [] ∧ a.length ≤ 5592405 ∧ Q (.str (Txt.upper a)) H) ta, fun i => by rw [← hK i]; exact pe_bm0 PySem.F.plainAttrs_str PySem.F.slot_str_upper PySem.F.type_str_upper mt_upper (pa i) (hbase i) hline, fun P av H0 ed hw n H σ G Qd L h Q q => ?_⟩
  refine sa P av H0 ed hw n H σ G _ L h _ fun x H1 dx hx L1 e1 r1 => ?_
  unfold fUpper at hx
  split at hx
  · cases r1
    exact ⟨rfl, _, rfl, rfl, hx.1, q _ _ _ hx.2 L1 e1 (.str _)⟩
  · exact hx.elim
end
end DL

namespace DL
open PySem PySem.Spec PyProof.Rows L2
/-! ### x, y = a, b with plain local names -/
section
variable {ι : Type} {X : ι → Cx} {K : Fg} {W : Ctl} {c1 c2 : Nat} {a b : Expr} {wa wb : WE} {wl : WL} {pos px py pt pt2 : Pos} {x y : Str} {i j : Nat} {kt k2 : Nat}
def wPar (i j : Nat) (wa wb : WE) : WS := fun G De => wa G De.ex fun d => wb G De.ex fun d2 => De.nx ((G.set j (.dat d2)).set i (.dat d))
def wParO (i j : Nat) (wa : WE) (wl : WL) : WS := fun G De => wa G De.ex fun d => wl G De.ex fun ds => De.nx ((G.set j (.own (.lst ds))).set i (.dat d))
theorem ds_parO (ha : DE X K W c1 a wa) (hb : DF X K W c2 b wl) (hN : ∀ q, (X q).N.Nodup) (hij : i ≠ j := by decide) (hc : ∀ q, (X q).calm = true := by intro _; rfl) (hi : ∀ q, (X q).N[i]? = some x := by intro _; rfl) (hj : ∀ q, (X q).N[j]? = some y := by intro _; rfl)
    (hx : ∀ q, (X q).env.scope.names.lookup x = some .local := by intro _; rfl) (hy : ∀ q, (X q).env.scope.names.lookup y = some .local := by intro _; rfl)
    (hw : ∀ q, swappedStores [.Tuple [.Name x px, .Name y py] kt pt] (.Tuple [a, b] k2 pt2) (X q).env = pure (some [x, y]) := by intro _; rfl)
    (hs : ∀ q, swapsWithSole [.Tuple [.Name x px, .Name y py] kt pt] (.Tuple [a, b] k2 pt2) pos.line (X q).env = pure false := by intro _; rfl)
    (h1 : ∀ q, starEach [a, b] (X q).env = (false, eval a (X q).env) :: starEach [b] (X q).env := by intro _; rfl) (h2 : ∀ q, starEach [b] (X q).env = (false, eval b (X q).env) :: starEach [] (X q).env := by intro _; rfl) :
    DS X K W (c1 + c2) (.Assign [.Tuple [.Name x px, .Name y py] kt pt] (.Tuple [a, b] k2 pt2) pos) (wParO i j wa wl) := by
  obtain ⟨ta, pa, sa⟩ := ha
  obtain ⟨tb, pb, sb⟩ := hb
  refine ⟨_, fun q => ps_par (hc q) (hN q) (hi q) (hj q) hij (hx q) (hy q) (pa_cons (pa q) (pa_cons (pb q) pa_nil (h2 q)) (h1 q)) (hw q) (hs q), fun P av H0 De hw n H σ G L h D dd => ?_⟩
  refine sa P av H0 _ hw (n + c2) H σ G _ (L.le (by omega)) h _ fun v H1 d hd L1 e1 r1 => ?_
  refine sb P av H0 _ hw n H1 σ G _ (L1.le (Nat.le_refl _)) hd _ fun p xs H2 ds hds L2 e2 hn hp r => ?_
  refine ⟨v, .ref p, rfl, ?_⟩
  obtain ⟨L3, o⟩ := L1.putOwn (i := j) L2 e2 hn hp .lst r
  have r1' : Rp K (avo av (σ.set j (some (.ref p))) (G.set j (.own (.lst ds)))) H2 v d := r1.ext e2 (fun _ => L1.isAvo) fun z hz k => by
    rcases k with k | k
    · exact .inl k
    · rcases o z k with k | rfl
      · exact .inr k
      · exact absurd hn hz
  obtain ⟨L4, o4⟩ := L3.put (i := i) (v := some v) (s := .dat d) ⟨v, rfl, r1'⟩ fun _ => fun z => nomatch z
  have np : ¬ P.is p := fun z => L1.avNe (L1.pav _ z) hn
  rw [List.set_comm _ _ (Ne.symm hij)] at L4 o4
  have hnH : H p = none := e1.none np hn
  refine dd.nx _ _ _ hds L4 ⟨fun a u k hh => e2 a u (fun z => k (.inl z)) (e1 a u (fun z => k (.inl z)) hh), fun a z => ?_⟩
  rcases o a (o4 a z) with z | z
  · exact .inl z
  · exact .inr ⟨z ▸ hnH, z ▸ np⟩
theorem ds_par (ha : DE X K W c1 a wa) (hb : DE X K W c2 b wb) (hN : ∀ q, (X q).N.Nodup) (hij : i ≠ j := by decide) (hc : ∀ q, (X q).calm = true := by intro _; rfl) (hi : ∀ q, (X q).N[i]? = some x := by intro _; rfl) (hj : ∀ q, (X q).N[j]? = some y := by intro _; rfl)
    (hx : ∀ q, (X q).env.scope.names.lookup x = some .local := by intro _; rfl) (hy : ∀ q, (X q).env.scope.names.lookup y = some .local := by intro _; rfl)
    (hw : ∀ q, swappedStores [.Tuple [.Name x px, .Name y py] kt pt] (.Tuple [a, b] k2 pt2) (X q).env = pure (some [x, y]) := by intro _; rfl)
    (hs : ∀ q, swapsWithSole [.Tuple [.Name x px, .Name y py] kt pt] (.Tuple [a, b] k2 pt2) pos.line (X q).env = pure false := by intro _; rfl)
    (h1 : ∀ q, starEach [a, b] (X q).env = (false, eval a (X q).env) :: starEach [b] (X q).env := by intro _; rfl) (h2 : ∀ q, starEach [b] (X q).env = (false, eval b (X q).env) :: starEach [] (X q).env := by intro _; rfl) :
    DS X K W (c1 + c2) (.Assign [.Tuple [.Name x px, .Name y py] kt pt] (.Tuple [a, b] k2 pt2) pos) (wPar i j wa wb) := by
  obtain ⟨ta, pa, sa⟩ := ha
  obtain ⟨tb, pb, sb⟩ := hb
  refine ⟨_, fun q => ps_par (hc q) (hN q) (hi q) (hj q) hij (hx q) (hy q) (pa_cons (pa q) (pa_cons (pb q) pa_nil (h2 q)) (h1 q)) (hw q) (hs q), fun P av H0 De hw n H σ G L h D dd => ?_⟩
  refine sa P av H0 _ hw (n + c2) H σ G _ (L.le (by omega)) h _ fun v H1 d hd L1 e1 r1 => ?_
  refine sb P av H0 _ hw n H1 σ G _ (L1.le (Nat.le_refl _)) hd _ fun v2 H2 d2 hd2 L2 e2 r2 => ?_
  refine ⟨v, v2, rfl, ?_⟩
  obtain ⟨L3, o⟩ := L2.put (i := j) (v := some v2) (s := .dat d2) ⟨v2, rfl, r2⟩ fun _ => fun z => nomatch z
  have r1' : Rp K (avo av (σ.set j (some v2)) (G.set j (.dat d2))) H2 v d := r1.ext e2 (fun _ => L1.isAvo) fun z hz k => by
    rcases k with k | k
    · exact .inl k
    · exact .inr (o z k)
  obtain ⟨L4, o4⟩ := L3.put (i := i) (v := some v) (s := .dat d) ⟨v, rfl, r1'⟩ fun _ => fun z => nomatch z
  rw [List.set_comm _ _ (Ne.symm hij)] at L4 o4
  exact dd.nx _ _ _ hd2 L4 (.of (e1.trans e2) fun a z => o a (o4 a z))
end
end DL

namespace DL
open PySem PySem.Spec PyProof.Rows L2
open LamX (Tabs TabS)
/-! ### the law's own def, once it has its pen -/
abbrev G0 (N : List Str) (p : Addr) : Gm := (List.replicate N.length Slot.un).set 1 (.dat (.obj (.ref p)))
theorem loc_pen {P : Pn} {K : Fg} {av : Av} {H : Hp} {n : Nat} {N : List Str} {a p : Addr} (hl : 2 ≤ N.length) (ok : P.ok n H) (pav : ∀ a, P.is a → av a) (al : ∀ a, av a → H a ≠ none) : LocOk P K av H n H ((L2.start N [.ref a]).set 1 (some (.ref p))) (G0 N p) := by
  have ln : (L2.start N [V.ref a]).length = N.length := by
    unfold L2.start
    simp
    omega
  have no : ∀ (i : Nat) (ds : D), (G0 N p)[i]? ≠ some (.own ds) := fun i ds h => by
    rw [List.getElem?_set] at h
    split at h
    · split at h <;> exact nomatch h
    · rw [List.getElem?_replicate] at h
      split at h <;> exact nomatch h
  refine ⟨by rw [List.length_set, List.length_set, List.length_replicate, ln], fun i s hs => ?_, fun i j d1 _ _ h1 _ _ _ => absurd h1 (no i d1), .refl _ _, fun x ⟨i, ds, h1, _⟩ => absurd h1 (no i ds), ok, pav, al⟩
  rw [List.getElem?_set] at hs
  by_cases e : 1 = i
  · rw [if_pos e, List.length_replicate, if_pos (by omega)] at hs
    cases hs
    subst e
    exact ⟨some (.ref p), by rw [List.getElem?_set_self (by rw [ln]; omega)], .ref p, rfl, .obj _⟩
  · rw [if_neg e, List.getElem?_replicate] at hs
    split at hs
    · rename_i hi
      cases hs
      refine ⟨(L2.start N [V.ref a])[i]'(by rw [ln]; exact hi), ?_, trivial⟩
      rw [List.getElem?_set_ne e]
      exact List.getElem?_eq_getElem _
    · exact nomatch hs
/-- the rest of the law's def is read with the pen -/
theorem rest_pen {X : Cx} {K : Fg} {E : XK} {cst : Nat} {sts : List Stmt} {wb : WS} {N : List Str} {a p c Pt : Addr} {q : Str} {H' : Hp} {Q : VK} (der : DSs (fun _ : Unit => X) K ⟨fun cls d _ H => E cls d H, fun Q => ∃ c, Q = penT p c [(Pt, q)]⟩ cst sts wb) (hl : 2 ≤ N.length) (hc : cst ≤ 1000000000)
    (hp : penOk p c 1000000000 H') (hT : H' Pt = some (.tbl #[])) (h : wb (G0 N p) (dEnds (fun _ => False) fun d => d = .bl true)) (hQ : ∀ H2, Q (.bl true) H2) :
    der.choose { nx := fun _ H' => Q .non H', rt := Q } ((L2.start N [.ref a]).set 1 (some (.ref p))) H' := by
  have tb : Tabs [(Pt, q)] H' := fun t ht => by
    rw [List.mem_singleton.mp ht]
    exact ⟨#[], hT, trivial, fun pos cv hcv => nomatch hcv⟩
  have ok : (penT p c [(Pt, q)]).ok 1000000000 H' := ⟨hp, tb⟩
  have L : LocOk (penT p c [(Pt, q)]) K (penT p c [(Pt, q)]).is H' 1000000000 H' ((L2.start N [.ref a]).set 1 (some (.ref p))) (G0 N p) := loc_pen hl ok (fun _ z => z) fun x z => (penT p c [(Pt, q)]).al ok z
  refine der.choose_spec.2 (penT p c [(Pt, q)]) _ H' (dEnds (fun _ => False) fun d => d = .bl true) ⟨⟨c, rfl⟩, fun _ _ _ z => z.elim⟩ 0 H' _ _ (L.le (by omega)) h _ ⟨(fun _ _ _ z => nomatch (show D.non = .bl true from z)), fun _ _ _ z => z.elim, fun _ _ _ z => z.elim, fun v H2 d hd _ _ r => ?_, fun _ _ _ _ z => nomatch (show D.lst _ = .bl true from z)⟩
  have hd : d = .bl true := hd
  subst hd
  cases r
  exact hQ H2
end DL

namespace DL
open PySem PySem.Spec PyProof.Rows L2
open LamX (Tabs TabS TabB)
/-! ### repr, at the outermost call alone -/
section
variable {X : Cx}
def rRepr (K : Fg) : List V → Hp → VK → Prop := fun xs H Q => ∃ (x : V) (d : PyData), xs = [x] ∧ Dp K H x d ∧ d.showable = true ∧ d.hasDict = false ∧ d.depth ≤ 60 ∧ d.shown.length ≤ sizeLine ∧ Q (.str d.shown) H
theorem call_reprD {k : Nat} (hr : Room k X.A) (hg : X.A.guards = some []) : CallR X (.builtin "repr") (rRepr X.K) := by
  intro pins s σ H xs us Q I r h
  obtain ⟨x, d, rfl, hd, h1, h2, h3, h4, q⟩ := h
  cases r with
  | cons rx rr =>
    cases rr
    rename_i u
    cases d with
    | none =>
      cases hd
      cases rx
      exact PySem.P.repr_of_none ⟨.str _, H, I.tok _, ⟨_, rfl⟩, q⟩
    | bool b =>
      cases hd
      cases rx
      exact PySem.P.repr_of_bool ⟨.str _, H, I.tok _, ⟨_, rfl⟩, q⟩
    | int i =>
      cases hd
      obtain ⟨t, rfl⟩ := rx
      exact PySem.P.repr_of_int (of_decide_eq_true h1) ⟨.str _, H, I.tok _, ⟨_, rfl⟩, q⟩
    | str z =>
      cases hd
      obtain ⟨t, rfl⟩ := rx
      exact PySem.P.repr_of_str ⟨.str _, H, I.tok _, ⟨_, rfl⟩, q⟩ h4
    | list ds =>
      obtain ⟨as, rd⟩ := Dp.reads I _ _ _ hd rx
      cases hd
      cases rx
      exact repr_of_reads' rd h1 (fun z => by rw [h2] at z; exact nomatch z) hg (by have := hr.units; omega) (fun _ _ e => e) (fun h' u tk hk => ⟨.str _, H, I.kept hk, ⟨_, rfl⟩, q⟩) h4
    | tuple ds =>
      obtain ⟨as, rd⟩ := Dp.reads I _ _ _ hd rx
      cases hd
      cases rx
      exact repr_of_reads' rd h1 (fun z => by rw [h2] at z; exact nomatch z) hg (by have := hr.units; omega) (fun _ _ e => e) (fun h' u tk hk => ⟨.str _, H, I.kept hk, ⟨_, rfl⟩, q⟩) h4
    | _ => exact nomatch hd
end
section
variable {ι : Type} {X : ι → Cx} {K : Fg} {W : Ctl} {c : Nat} {e : Expr} {wl : WL} {pos p : Pos}
def fRepr : List D → (D → Prop) → Prop
  | [d], Q => onO (pyD d) fun p => p.showable = true ∧ p.hasDict = false ∧ p.depth ≤ 60 ∧ p.shown.length ≤ sizeLine ∧ Q (.str p.shown)
  | _, _ => False
theorem caRepr : CaS K (rRepr K) fRepr := by
  intro is av H xs ds Qd hi ha r h Q q
  unfold fRepr at h
  split at h
  · obtain ⟨p, hp, h1, h2, h3, h4, h⟩ := onO_of h
    cases r with
    | cons r rr =>
      cases rr
      exact ⟨_, p, rfl, rq_dp r hp, h1, h2, h3, h4, q _ H _ h (fun _ _ z => z) (.str _)⟩
  · exact h.elim
theorem de_repr {k : Nat} (hK : ∀ i, (X i).K = K) (hr : ∀ i, Room k (X i).A) (hgd : ∀ i, (X i).A.guards = some []) (hm : ∀ i, (X i).mg "repr" = none) (h : DB X K W c [e] wl) (hg : ∀ i, Gl (X i) "repr" := by intro _; rfl) (he : ∀ i, starEach [e] (X i).env = (false, eval e (X i).env) :: starEach [] (X i).env := by intro _; rfl) (hpl : ∀ i, (backTo pos (starEach [] (X i).env)).any (·.1) = false := by intro _; rfl) :
    DE X K W c (.Call (.Name "repr" p) [e] [] pos) (wCb fRepr wl) :=
  de_cb caRepr (fun i _ pa => by rw [← hK i]; exact pe_callB (call_reprD (hr i) (hgd i)) (hg i) (hm i) (by decide +kernel) pa (by decide) (by decide) (he i) (hpl i)) h
end
end DL

namespace DL
open PySem PySem.Spec PyProof.Rows L2
open LamX (Tabs TabS TabB)
/-! ### the law's call, at the outermost caller -/
/-- what is tracked at the law's entry: the script and the tables -/
def H1 (K : Fg) (a : Addr) (o : Obj) (xs : List V) (Ts : List Addr) : Hp := fun b =>
  if b = a then (if (K.lookup a).isNone = true then some (.frz o (.lst xs)) else none) else if b ∈ Ts then some (.tbl #[]) else none
section
variable {P : Program} {w : World} {K : Fg} {mg mb : Str → Option Value} {a : Addr} {cs : List (Addr × Addr)} {s : Shared} {vs : List Value} {ns : List Int}
abbrev sObj (vs : List Value) : Obj := { cls := .type "list", data := .seq vs.toArray }
abbrev tObj : Obj := { cls := .none, data := .fields #[] }
theorem h1_cases {b : Addr} {u : HO} {o : Obj} {xs : List V} {Ts : List Addr} (h : H1 K a o xs Ts b = some u) : (b = a ∧ K.lookup a = none ∧ u = .frz o (.lst xs)) ∨ (b ∈ Ts ∧ u = .tbl #[]) := by
  unfold H1 at h
  by_cases e : b = a
  · rw [if_pos e] at h
    by_cases k : (K.lookup a).isNone = true
    · rw [if_pos k] at h
      exact .inl ⟨e, Option.isNone_iff_eq_none.mp k, (Option.some.inj h).symm⟩
    · rw [if_neg k] at h
      exact nomatch h
  · rw [if_neg e] at h
    by_cases m : b ∈ Ts
    · rw [if_pos m] at h
      exact .inr ⟨m, (Option.some.inj h).symm⟩
    · rw [if_neg m] at h
      exact nomatch h
theorem law_env (KX : K.In s.heap) (hns : s.heap.Ns mainGlobals mg) (hb : s.heap.Ns builtinsNs mb) (hbb : ∀ x : Str, x ≠ "__name__" → mb x = bootBuiltins x) (hlim : s.heap.NoLimit) (hg : s.gens = #[])
    (hT : ∀ t ∈ cs, s.heap.get? t.2 = some tObj) (nT : ∀ t ∈ cs, K.lookup t.2 = none) (hC : ∀ t ∈ cs, PySem.W.CodeHd s.heap t.1 t.2)
    (hbm : ∃ (m : Addr) (om : Obj), mg "__builtins__" = some (.ref m) ∧ m ≠ builtinsNs ∧ s.heap.get? m = some om ∧ om.cls = .type "module" ∧ om.dict = some builtinsNs ∧ om.data = .plain)
    (ha : s.heap.get? a = some (sObj vs)) (hi : IntsAre vs ns) (hl : ns.length ≤ sizeLine) :
    ∃ (base : Heap) (H : Hp), K.In base ∧ base.Ns mainGlobals mg ∧ (∀ t ∈ cs, TabB base mg t.1 t.2) ∧ Env0 P w K mg base callerA [] s H ∧ (∀ t ∈ cs, H t.2 = some (.tbl #[])) ∧ SqL K H a (ns.map V.int) ∧
      ∀ (r : Result) (s' : Shared), CR (L2.CX P w) [] P w H s (fun v _ => v = .bl true) (fun _ _ _ => False) r s' → r = .ok (.ret (.bool true)) ∧ OldK s.heap s'.heap ∧ s'.os = s.os ∧ AllBare s'.gens := by
  have ri := vals_ints hi
  have li := hi.length
  obtain ⟨Ts, eT⟩ : ∃ Ts, Ts = cs.map (·.2) := ⟨_, rfl⟩
  have mT : ∀ t ∈ cs, t.2 ∈ Ts := fun t h => by rw [eT]; exact List.mem_map.mpr ⟨t, h, rfl⟩
  have oT : ∀ b ∈ Ts, s.heap.get? b = some tObj := fun b h => by
    rw [eT] at h
    obtain ⟨t, h1, h2⟩ := List.mem_map.mp h
    exact h2 ▸ hT t h1
  have aT : a ∉ Ts := fun z => by
    have q := (oT a z).symm.trans ha
    have := congrArg Obj.data (Option.some.inj q)
    exact nomatch this
  obtain ⟨H, eH⟩ : ∃ H, H = H1 K a (sObj vs) (ns.map V.int) Ts := ⟨_, rfl⟩
  have what : ∀ {b u}, H b = some u → (b = a ∧ K.lookup a = none ∧ u = .frz (sObj vs) (.lst (ns.map V.int))) ∨ (b ∈ Ts ∧ u = .tbl #[]) := fun {b u} h => h1_cases (eH ▸ h)
  have tabH : ∀ b ∈ Ts, H b = some (.tbl #[]) := fun b m => by
    have n : ¬ b = a := fun z => aT (z ▸ m)
    rw [eH]
    unfold H1
    rw [if_neg n, if_pos m]
  have hok : HOk P w H s.heap := fun b u h => by
    rcases what h with ⟨rfl, _, rfl⟩ | ⟨m, rfl⟩
    · exact ⟨ha, by rw [List.length_map]; exact hl, vs, _, ri, ha⟩
    · exact oT b m
  have off : ∀ {b : Addr} {o : Obj}, s.heap.get? b = some o → (∀ z n, o.data ≠ .seq z n) → o.data ≠ .fields #[] → H b = none := fun {b o} g n1 n2 => by
    cases q : H b with
    | none => rfl
    | some u =>
      rcases what q with ⟨rfl, _, _⟩ | ⟨m, _⟩
      · rw [ha] at g
        cases g
        exact absurd rfl (n1 _ _)
      · rw [oT b m] at g
        cases g
        exact absurd rfl n2
  have offD : ∀ {b : Addr} {o : Obj} {es : Array DictEntry} {n : Nat}, s.heap.get? b = some o → o.data = .dict es n → H b = none := fun {b o es n} g d =>
    off g (fun z k y => by rw [d] at y; exact nomatch y) fun y => by rw [d] at y; exact nomatch y
  have keepNs : ∀ {b : Addr} {m : Str → Option Value}, s.heap.Ns b m → (hidT s.heap H).Ns b m := fun {b m} x => by
    obtain ⟨o, es, n, g, d, r⟩ := x
    exact ⟨o, es, n, hidT_get g (offD g d), d, r⟩
  have inK : K.In (hidT s.heap H) := fun b o e => by
    refine hidT_get (KX b o e) ?_
    cases q : H b with
    | none => rfl
    | some u =>
      rcases what q with ⟨rfl, k, _⟩ | ⟨m, _⟩
      · rw [k] at e; exact nomatch e
      · rw [eT] at m
        obtain ⟨t, h1, h2⟩ := List.mem_map.mp m
        rw [← h2, nT t h1] at e
        exact nomatch e
  have noT : ∀ {b : Addr} {o : Obj} {t : Addr × Addr}, t ∈ cs → s.heap.get? b = some o → o ≠ tObj → b ≠ t.2 := fun ht g n z => by
    rw [z, hT _ ht] at g
    exact n (Option.some.inj g).symm
  have tb : ∀ t ∈ cs, TabB (hidT s.heap H) mg t.1 t.2 := fun t ht => by
    obtain ⟨o, us, f1, t1, f2, t2, b1, t3, t4, g, k1, k2, k3, k4⟩ := hC t ht
    obtain ⟨m, om, m1, m2, m3, m4, m5, m6⟩ := hbm
    refine ⟨⟨o, us, f1, t1, f2, t2, b1, t3, t4, hidT_get g (off g (fun z k y => ?_) fun y => ?_), k1, k2, k3, k4⟩, ⟨m, om, m1, m2, fun z => ?_, noT ht m3 (fun z => ?_), hidT_get m3 (off m3 (fun z k y => ?_) fun y => ?_), m4, m5, m6⟩, fun z => ?_⟩
    · rw [k2] at y; exact nomatch y
    · rw [k2] at y
      have y := Data.fields.inj y
      rw [y] at k3
      exact nomatch k3
    · obtain ⟨o', es, n, g', d', _⟩ := hns
      rw [z, g'] at m3
      cases m3
      rw [d'] at m6
      exact nomatch m6
    · rw [z] at m4; exact nomatch m4
    · rw [m6] at y; exact nomatch y
    · rw [m6] at y; exact nomatch y
    · obtain ⟨o', es, n, g', d', _⟩ := hns
      rw [z, hT t ht] at g'
      cases g'
      exact nomatch d'
  have em : ∀ {α : Type} {x : α}, x ∉ ([] : List α) := fun z => nomatch z
  have e0 : Env0 P w K mg (hidT s.heap H) callerA [] s H := by
    obtain ⟨mc, l1, l2⟩ := hlim
    exact { frames := rfl, mod := ⟨inK, keepNs hns, ⟨mb, keepNs hb, hbb⟩, ⟨mc, keepNs l1, l2⟩⟩, bs := fun b o => of_hidT, bsz := Nat.le_of_eq (hidT_size _ _), funs := trivial, frf := fun b z => absurd z em, hok := hok, bare := .of_eq hg }
  have sq : SqL K H a (ns.map V.int) := by
    cases k : K.lookup a with
    | none =>
      have hH : H a = some (.frz (sObj vs) (.lst (ns.map V.int))) := by
        rw [eH]
        unfold H1
        rw [if_pos rfl, k]
        rfl
      exact .inl (.inr ⟨_, hH⟩)
    | some o =>
      have g := KX a o k
      rw [ha] at g
      cases g
      exact .inr ⟨_, vs.toArray, _, k, rfl, rfl, rfl, by rw [List.size_toArray, li]; exact hl, by simpa using ri⟩
  refine ⟨hidT s.heap H, H, inK, keepNs hns, tb, e0, fun t ht => tabH _ (mT t ht), sq, fun r s' h => ?_⟩
  cases r with
  | error e =>
    obtain ⟨_, _, _, _, _, _, _, _, _, _, _, _, z⟩ := (show L2.CX P w [] H s (fun _ _ _ => False) e s' from h)
    exact z.elim
  | ok fl =>
    cases fl with
    | next => exact (show False from h).elim
    | brk => exact (show False from h).elim
    | cont => exact (show False from h).elim
    | ret u =>
      obtain ⟨v, H', os, bare, un, hok', rv, q⟩ := (show CE [] P w H s (fun v _ => v = .bl true) u s' from h)
      subst q
      obtain rfl : u = .bool true := rv
      have stay : ∀ b o, b ∉ Ts → s.heap.get? b = some o → s'.heap.get? b = some o := fun b o nb g => by
        cases q : H b with
        | none => exact un.keep b o g q em em
        | some v =>
          rcases what q with ⟨rfl, _, rfl⟩ | ⟨m, _⟩
          · have g2 := (hok' _ _ (un.frzs _ _ _ q)).1
            rw [ha] at g
            cases g
            exact g2
          · exact absurd m nb
      have more : ∀ b ∈ Ts, ∃ z : Array Value, s'.heap.get? b = some { cls := .none, data := .fields z } := fun b m => by
        obtain ⟨z, e⟩ := un.tbls b #[] (tabH b m)
        exact ⟨_, hok' b _ e⟩
      refine ⟨rfl, ⟨fun b o g => ?_, fun b o g => ?_⟩, os, bare⟩
      · by_cases m : b ∈ Ts
        · obtain ⟨z, e⟩ := more b m
          have g2 := g.symm.trans (oT b m)
          cases g2
          rw [eT] at m
          obtain ⟨t, h1, h2⟩ := List.mem_map.mp m
          subst h2
          exact .inr (.inl ⟨((hC t h1).tab (hT t h1)).isCodeTable, rfl, #[], z, rfl, by rw [Array.empty_append]; exact e⟩)
        · exact .inl (stay b o m g)
      · by_cases m : b ∈ Ts
        · obtain ⟨z, e⟩ := more b m
          exact ⟨_, e⟩
        · exact ⟨o, stay b o m g⟩
end
end DL

namespace DL
open PySem PySem.Spec PyProof.Rows L2
open LamX (Tabs TabS TabB)
/-- what is to be shown of the law's def at the head's heap h -/
def LawC (l : PySem.W.OpenLaw) (w : World) (K : Fg) (n : Nat) (mg : Str → Option Value) (fa : Addr) (h : Heap) : Prop :=
  ∃ cs : List (Addr × Addr), (∀ t ∈ cs, h.get? t.2 = some tObj) ∧ (∀ t ∈ cs, K.lookup t.2 = none) ∧ (∀ t ∈ cs, PySem.W.CodeHd h t.1 t.2) ∧
    ∀ (base : Heap) (s : Shared) (H : Hp) (a : Addr) (ns : List Int), K.In base → base.Ns mainGlobals mg → (∀ t ∈ cs, TabB base mg t.1 t.2) → Env0 l.prog w K mg base callerA [] s H → (∀ t ∈ cs, H t.2 = some (.tbl #[])) → SqL K H a (ns.map V.int) → ns.length ≤ n →
      codeAny (model l.prog w) callerA (.call (.ref fa) ⟨[.ref a], []⟩) (CR (L2.CX l.prog w) [] l.prog w H s (fun v _ => v = .bl true) fun _ _ _ => False) s
theorem walk_at {l : PySem.W.OpenLaw} {n : Nat} {q : Program} {loose : List Str} {XP : (Str → Option Value) → Heap → Prop} {YP : World → Heap → Prop} {d : DefRec} {K : Params → Fg} (hn : l.most = some n) (hn2 : n ≤ sizeLine) (hdf : d.params.defaults = []) (hY : ∀ (w : World) (h : Heap), YP w h → (K w.params).In h)
    (F : ∀ (w : World) (mg : Str → Option Value) (fa : Addr) (h : Heap), YP w h → (K w.params).In h → h.Ns mainGlobals mg → mg d.name = some (.ref fa) → LawC l w (K w.params) n mg fa h) : PySem.W.WalkO q loose XP YP l.row.toRowW d [] (fun f vs => PySem.call f vs) := by
  refine Att.attach_callB hn hdf fun w _ s mg mb fa _ _ _ _ a vs ns G Y _ _ _ hmg ho hi hlen _ hg => ?_
  obtain ⟨cs, h1, h2, h3, h4⟩ := F w mg fa _ Y (hY w _ Y) G.T.g hmg
  obtain ⟨base, H, i1, i2, i3, e0, i4, sq, fin⟩ := law_env (P := l.prog) (w := w) (hY w _ Y) G.T.g G.T.b G.T.builtins G.T.nolimit hg h1 h2 h3 G.T.bmain ho hi (Nat.le_trans hlen hn2)
  exact codeAny_mono (h4 base s H a ns i1 i2 i3 e0 i4 sq hlen) fin
/-- the law's body at the outermost caller -/
theorem law_body {P : Program} {w : World} {K : Fg} {mg : Str → Option Value} {base : Heap} {k : Nat} {f a : Addr} {name qual : Str} {params : Arguments} {body : List Stmt} {scope : Scope} {dV kV doc pm cdv ct oc : Value} {an od : Option Addr} {osl : Array (Option Value)} {N : List Str} {x : Str} {s : Shared} {H : Hp} {Q : VK} {E : XK}
    (lk : K.lookup f = some ⟨oc, od, .func (PySem.W.fnOf name qual params body scope dV kV doc pm an cdv ct), osl⟩) (hcd : PySem.W.codeIn K cdv qual = true) (S : FnScope N [x] scope) (hr : Room (k + 1) callerA) (e0 : Env0 P w K mg base callerA [] s H)
    (hb : ∀ (s : Shared) (u : Value), BindsTo s (PySem.W.fnOf name qual params body scope dV kV doc pm an cdv ct) ⟨[u], []⟩ [(x, u)])
    (h : Room k (callerA.deeper (envOfC qual scope s.heap.objs.size f cdv)) → ∃ t, PSs (cxOf (L2.CX P w) P w K mg base N qual scope f cdv callerA [] s H E) body t ∧ t { nx := fun _ H' => Q .non H', rt := Q } (L2.start N [.ref a]) H) :
    codeAny (model P w) callerA (.call (.ref f) ⟨[.ref a], []⟩) (CR (L2.CX P w) [] P w H s Q E) s :=
  LamX.run_ofS (ps := [x]) (us := [.ref a]) (vs := [.ref a]) lk hcd S hr e0 (hb s (.ref a)) (.cons rfl .nil) rfl h
theorem caller_guards (qual : Str) (scope : Scope) (L f : Addr) (cdv : Value) : (callerA.deeper (envOfC qual scope L f cdv)).guards = some [] := rfl
end DL

namespace DL
open PySem PySem.Spec PyProof.Rows L2
/-! ### lists of lists, made and stored into -/
/-- at each place a list of its own -/
inductive Inn (K : Fg) (av : Av) (H : Hp) : List Addr → List (List D) → Prop
  | nil : Inn K av H [] []
  | cons {q : Addr} {qs : List Addr} {xs : List V} {ds : List D} {rows : List (List D)} : H q = some (.lst xs) → Rps K av H xs ds → Inn K av H qs rows → Inn K av H (q :: qs) (ds :: rows)
theorem Inn.len {K : Fg} {av : Av} {H : Hp} : ∀ {qs : List Addr} {rows : List (List D)}, Inn K av H qs rows → qs.length = rows.length
  | _, _, .nil => rfl
  | _, _, .cons _ _ h => congrArg (· + 1) h.len
theorem Inn.ext {K : Fg} {is av av' : Av} {H H' : Hp} (e : Ext is H H') (hi : ∀ a, is a → av a) (ha : ∀ a, H a ≠ none → av' a → av a) : ∀ {qs : List Addr} {rows : List (List D)}, Inn K av H qs rows → (∀ q ∈ qs, ¬ is q) → Inn K av' H' qs rows
  | _, _, .nil, _ => .nil
  | _, _, .cons h r hs, n => .cons (e _ _ (n _ List.mem_cons_self) h) (r.ext e hi ha) (hs.ext e hi ha fun q m => n q (List.mem_cons_of_mem _ m))
theorem Inn.snoc {K : Fg} {av : Av} {H : Hp} {q : Addr} {xs : List V} {ds : List D} (h : H q = some (.lst xs)) (r : Rps K av H xs ds) : ∀ {qs : List Addr} {rows : List (List D)}, Inn K av H qs rows → Inn K av H (qs ++ [q]) (rows ++ [ds])
  | _, _, .nil => .cons h r .nil
  | _, _, .cons h1 r1 hs => .cons h1 r1 (hs.snoc h r)
theorem Inn.some {K : Fg} {av : Av} {H : Hp} : ∀ {qs : List Addr} {rows : List (List D)}, Inn K av H qs rows → ∀ q ∈ qs, ∃ xs ds, H q = some (.lst xs) ∧ ds ∈ rows ∧ Rps K av H xs ds
  | _, _, .cons h1 r1 hs, q, m => by
    rcases List.mem_cons.mp m with rfl | m
    · exact ⟨_, _, h1, List.mem_cons_self, r1⟩
    · obtain ⟨xs, ds, e1, e2, e3⟩ := hs.some q m
      exact ⟨xs, ds, e1, List.mem_cons_of_mem _ e2, e3⟩
abbrev W2 := Gm → (Value → Prop) → (List (List D) → Prop) → Prop
def SF2 (K : Fg) (W : Ctl) (c : Nat) (te : TE) (w : W2) : Prop := ∀ (P : Pn) (av : Av) (H0 : Hp) (ed : Value → Prop), HW W P H0 ed → ∀ (n : Nat) (H : Hp) (σ : Sg) (G : Gm) (Qd : List (List D) → Prop), LocOk P K av H0 (n + c) H σ G → w G ed Qd → ∀ Q : VK,
  (∀ p qs H' rows, Qd rows → LocOk P K av H0 n H' σ G → Ext P.is H H' → H p = none → H' p = some (.lst (qs.map V.ref)) → (∀ q ∈ qs, H q = none ∧ q ≠ p) → qs.Nodup → Inn K (avp (avo av σ G) p) H' qs rows → Q (.ref p) H') → te σ H Q
def compW2 (wg : WG) (we : WL) (G : Gm) : List D → List (List D) → (List (List D) → Prop) → Prop
  | [], acc, Q => Q acc
  | d :: r, acc, Q => wg d G fun G1 => we G1 (fun _ => False) fun y => compW2 wg we G r (acc ++ [y]) Q
def wLc2 (cb : Nat) (vs : List Nat) (wi : WL) (wg : WG) (we : WL) : W2 := fun G ed Q => wi G ed fun ds => ds.length < sizeLine ∧ (cb = 0 ∨ ds.length ≤ 256) ∧ compW2 wg we (inG G vs) ds [] Q
section
variable {ι : Type} {X : ι → Cx} {K : Fg} {W : Ctl} {c c1 c2 c3 ci ct ce : Nat} {e a b t tg it elt : Expr} {wl wi we : WL} {wg : WG} {pos p : Pos}
theorem sf_lc2 {is vs : List Nat} {wi' : TI} {g : TG} {te : TE}
    (si : ∀ (P : Pn) (av : Av) (H0 : Hp) (ed : Value → Prop), HW W P H0 ed → ∀ (n : Nat) (H : Hp) (σ : Sg) (G : Gm) (Qd : List D → Prop), LocOk P K av H0 (n + ci) H σ G → wi G ed Qd → ∀ R : It → Hp → Prop, (∀ J H' ds, Qd ds → LocOk P K av H0 n H' σ G → Ext P.is H H' → Walks P K (avo av σ G) H' J ds → R J H') → wi' σ H R)
    (sg : ∀ (P : Pn) (av : Av) (H0 : Hp) (n : Nat) (H : Hp) (σ : Sg) (G : Gm) (v : V) (d : D) (Qd : Gm → Prop), LocOk P K av H0 n H σ G → Rp K (avo av σ G) H v d → wg d G Qd → ∀ Q : L2.St → Hp → Prop, (∀ σ' G', Qd G' → LocOk P K av H0 n H σ' G' → (∀ a, Own σ' G' a → Own σ G a) → (∀ vs, (∀ i ∈ is, i ∈ vs) → wipe σ' vs = wipe σ vs) → Q σ' H) → g v σ H Q)
    (se : SF K W.no ce te we) (hv : ∀ i ∈ is, i ∈ vs) : SF2 K W (ci + 256 * ce) (tLc wi' g tYes te vs) (wLc2 ce vs wi wg we) := by
  intro P av H0 ed hw n H σ G Qd L h Q q
  refine si P av H0 ed hw (n + 256 * ce) H σ G _ (L.le (by omega)) h _ fun J H1 ds hd L1 e1 Wk => ?_
  obtain ⟨hz, hc, hd⟩ := hd
  intro D hD
  obtain ⟨GG, Y, wk, hG, hy⟩ := Wk.ex
  have avD : ¬ avo av σ G D := fun z => L1.avoNe z hD
  have isD : ¬ P.is D := fun z => avD (L1.isAvo z)
  have small : ∀ i, i ≤ ds.length → (ds.length - i) * ce ≤ 256 * ce := fun i _ => by
    rcases hc with hc | hc
    · rw [hc]; simp
    · exact Nat.mul_le_mul_right _ (by omega)
  have isN : ∀ a, H1 a = none → ¬ P.is a := fun a hn z => L1.avoNe (L1.isAvo z) hn
  refine lc_it wk (fun i H' => ∃ qs rows, i ≤ ds.length ∧ Ext P.is H1 H' ∧ Ext (avo av σ G) H1 H' ∧ P.ok (n + (ds.length - i) * ce) H' ∧ H' D = some (.lst (qs.map V.ref)) ∧ rows.length ≤ i ∧ (∀ q ∈ qs, H1 q = none ∧ q ≠ D) ∧ qs.Nodup ∧ Inn K (avp (avo av σ G) D) H' qs rows ∧ compW2 wg we (inG G vs) (ds.drop i) rows Qd)
    ⟨[], [], Nat.zero_le _, .new hD, .new hD, P.mono (L1.new hD).ok (by have := small 0 (Nat.zero_le _); omega), upd_same, Nat.le_refl _, (fun _ z => nomatch z), .nil, .nil, hd⟩ (fun i H' _ ⟨_, _, _, _, ea, _⟩ => hG H' ea) ?_ ?_
  · rintro i x H' H2 hi ⟨qs, rows, hle, e', ea, k', hx, hl, hq, hnd, hr, hcw⟩ y
    have Li := L1.inner vs e' k' hD (by rw [hx]; exact fun z => nomatch z)
    have no : ∀ a, ¬ Own (wipe σ vs) (inG G vs) a := fun a ⟨j, ds, h1, _⟩ => inG_no h1
    obtain ⟨d, hd, ex, rx⟩ := hy i x H' H2 (avo (avp (avo av σ G) D) (wipe σ vs) (inG G vs)) hi (fun a ka z => by
      rcases z with (z | z) | z
      · exact z
      · exact absurd (z ▸ hD) ka
      · exact absurd z (no a)) (fun a z => Li.avoNe z) ea y
    have hdrop : ds.drop i = d :: ds.drop (i + 1) := by
      rw [List.drop_eq_getElem_cons hi]
      rw [List.getElem?_eq_getElem hi] at hd
      rw [Option.some.inj hd]
    rw [hdrop] at hcw
    have L2 := Li.growEx ex
    have e2 : Ext P.is H1 H2 := e'.trans (Ex.ext ex)
    have ea2 : Ext (avo av σ G) H1 H2 := ea.trans (Ex.ext ex)
    have hx2 : H2 D = some (.lst (qs.map V.ref)) := ex D _ hx
    have cnt : n + (ds.length - i) * ce = n + (ds.length - (i + 1)) * ce + ce := by
      have : ds.length - i = ds.length - (i + 1) + 1 := by omega
      rw [this, Nat.add_mul]
      omega
    refine sg P _ _ _ H2 _ _ x d _ L2 rx hcw _ fun σ' G' hG' L' o' k' => ⟨(k' vs hv).trans (wipe_wipe vs vs σ fun _ z => z), ?_⟩
    refine se P _ _ _ hw.no (n + (ds.length - (i + 1)) * ce) H2 σ' G' _ (L'.le (by omega)) hG' _ fun p xs H4 row hrow L4 e4 hp hp4 r4 => ?_
    have hx4 : H4 D = some (.lst (qs.map V.ref)) := e4 D _ isD hx2
    have hp1 : H1 p = none := by
      cases z : H1 p with
      | none => rfl
      | some o =>
        have := e2 p o (fun y => L'.avNe (L'.pav _ y) hp) z
        rw [hp] at this
        exact nomatch this
    have pD : p ≠ D := fun z => by rw [z, hx2] at hp; exact nomatch hp
    refine ⟨qs.map V.ref, hx4, by rw [List.length_map, hr.len]; omega, qs ++ [p], rows ++ [row], by omega, ?_, ?_, ?_, by rw [upd_same, List.map_append]; rfl, by rw [List.length_append]; simp; omega, ?_, ?_, ?_, hrow⟩
    · intro a o na hh
      rw [upd_ne (ne_of_none hh hD)]
      exact e4 a o na (e2 a o na hh)
    · intro a o na hh
      rw [upd_ne (ne_of_none hh hD)]
      exact e4 a o (fun z => na (L1.isAvo z)) (ea2 a o na hh)
    · exact P.stab L4.ok (fun a ia => upd_ne (fun z : a = D => isD (by rw [← z]; exact ia))) (.lst hx4)
    · intro q m
      rcases List.mem_append.mp m with m | m
      · exact hq q m
      · rw [List.mem_singleton.mp m]
        exact ⟨hp1, pD⟩
    · refine List.nodup_append.mpr ⟨hnd, by simp, fun a ma b mb z => ?_⟩
      subst z
      rw [List.mem_singleton.mp mb] at ma
      obtain ⟨xs', _, h', _⟩ := hr.some p ma
      rw [ex p _ h'] at hp
      exact nomatch hp
    · have stay : Ext (fun a => a = D) H4 (upd H4 D (.lst (qs.map V.ref ++ [V.ref p]))) := fun a o na hh => by rw [upd_ne na]; exact hh
      have s1 := (hr.ext (is := P.is) (Ex.ext ex) (fun _ z => .inl (L1.isAvo z)) (fun _ _ z => z) fun q m => isN q (hq q m).1).ext e4 (fun _ z => .inl (L1.isAvo z)) (fun _ _ z => z) fun q m => isN q (hq q m).1
      have s2 := s1.ext stay (av' := avp (avo av σ G) D) (fun _ z => .inr z) (fun _ _ z => z) fun q m => (hq q m).2
      refine s2.snoc (by rw [upd_ne pD]; exact hp4) ?_
      exact (r4.ext (is := fun _ => False) (.refl _ _) (fun _ z => z.elim) fun _ _ z => .inl (.inl z) : Rps K (avp (avo av σ G) D) H4 xs row).ext stay (fun _ z => .inr z) fun _ _ z => z
  · rintro H' ⟨qs, rows, hle, e', ea, k', hx, hl, hq, hnd, hr, hcw⟩
    rw [List.drop_length] at hcw
    have L' : LocOk P K av H0 n H' σ G := L1.grow e' (P.mono k' (by omega))
    exact q D qs H' rows hcw L' (e1.trans e') (e1.none isD hD) hx (fun q m => ⟨e1.none (isN q (hq q m).1) (hq q m).1, (hq q m).2⟩) hnd hr
theorem setLc2_core {scope : Scope} {is : List Nat} {own : List (Str × Nat)} {i : Nat} {y : Str} {py spos : Pos} (hc : ∀ i, (X i).calm = true) (hN : ∀ i, (X i).N.Nodup) (hi : DI X K W ci tg it wi) (hg : DG (blkF X scope) K is tg wg) (he : DF (blkF X scope) K W.no ce elt we) (ok : ∀ i, BlkOk (X i).N (X i).env.scope scope own)
    (hv : ∀ i ∈ is, i ∈ own.map (·.2) := by decide) (hy : ∀ j, (X j).N[i]? = some y := by intro _; rfl) (hyl : ∀ j, (X j).env.scope.names.lookup y = some .local := by intro _; rfl) (hsw : ∀ j, swapsWith (.ListComp elt [⟨tg, it, [], 0⟩] scope pos) (some (.Name y py)) spos.line (X j).env = pure true := by intro _; exact sw_true rfl rfl rfl (by decide +kernel)) (hs : ∀ i x, foldedSetIterable it (X i).env x = pure x := by intro _ _; rfl) :
    ∃ te, (∀ j, PS (X j) (.Assign [.Name y py] (.ListComp elt [⟨tg, it, [], 0⟩] scope pos) spos) (tAsg te (gName i))) ∧ SF2 K W (ci + 256 * ce) te (wLc2 ce (own.map (·.2)) wi wg we) := by
  obtain ⟨wi', pi, si⟩ := hi
  obtain ⟨g, pg, sg⟩ := hg
  obtain ⟨te, pe, se⟩ := he
  refine ⟨_, fun j => ps_setLc (tt := tYes) (hc j) (hN j) (hy j) (hyl j) (hsw j) (pi j) (ok j) (fun s H C cl fp => pg (j, s, H, C, cl, fp)) (fun _ _ _ _ _ => pts_nil) (fun s H C cl fp => pe (j, s, H, C, cl, fp)) (hs j), ?_⟩
  exact sf_lc2 si sg se hv
end
end DL

namespace DL
open PySem PySem.Spec PyProof.Rows L2
/-! ### a pen with lists of lists, into which the def stores: entries None or below n -/
def RG (n : Nat) (d : D) : Prop := d = .non ∨ ∃ k : Nat, k < n ∧ d = .int (k : Nat)
def RV (n : Nat) (v : V) : Prop := v = .non ∨ ∃ k : Nat, k < n ∧ v = .int (k : Nat)
theorem rg_rv {K : Fg} {av : Av} {H : Hp} {n : Nat} {v : V} {d : D} (h : RG n d) (r : Rp K av H v d) : RV n v := by
  rcases h with rfl | ⟨k, hk, rfl⟩
  · cases r; exact .inl rfl
  · cases r; exact .inr ⟨k, hk, rfl⟩
theorem rv_rg {n : Nat} {v : V} (h : RV n v) : ∃ d, RG n d ∧ ∀ (K : Fg) (av : Av) (H : Hp), Rp K av H v d := by
  rcases h with rfl | ⟨k, hk, rfl⟩
  · exact ⟨.non, .inl rfl, fun _ _ _ => .non⟩
  · exact ⟨.int (k : Nat), .inr ⟨k, hk, rfl⟩, fun _ _ _ => .int _⟩
def ShpN (N wd : Nat) (H : Hp) (o : Addr) (qs : List Addr) : Prop := H o = some (.lst (qs.map V.ref)) ∧ ∀ q ∈ qs, ∃ ys, H q = some (.lst ys) ∧ ys.length = wd ∧ ∀ y ∈ ys, RV N y
structure Apart (P0 : Pn) (o : Addr) (qs : List Addr) : Prop where
  no : o ∉ qs
  nd : qs.Nodup
  is : ∀ a, P0.is a → a ≠ o ∧ a ∉ qs
def penN (P0 : Pn) (N wd : Nat) (o : Addr) (qs : List Addr) : Pn where
  is := fun a => P0.is a ∨ a = o ∨ a ∈ qs
  ok := fun n H => P0.ok n H ∧ ShpN N wd H o qs ∧ Apart P0 o qs
  mono := fun h m => ⟨P0.mono h.1 m, h.2⟩
  stab := fun {n H H'} h e k => ⟨P0.stab h.1 (fun a i => e a (.inl i)) k, ⟨by rw [e o (.inr (.inl rfl))]; exact h.2.1.1, fun q m => by
    obtain ⟨ys, h1, h2⟩ := h.2.1.2 q m
    exact ⟨ys, by rw [e q (.inr (.inr m))]; exact h1, h2⟩⟩, h.2.2⟩
  al := fun {n H a} h i => by
    rcases i with i | rfl | i
    · exact P0.al h.1 i
    · rw [h.2.1.1]; exact fun z => nomatch z
    · obtain ⟨ys, h1, _⟩ := h.2.1.2 a i
      rw [h1]; exact fun z => nomatch z
theorem hasPenN {p c : Addr} {P0 : Pn} {N wd : Nat} {o : Addr} {qs : List Addr} (h : HasPen p P0 c) : HasPen p (penN P0 N wd o qs) c where
  isp := .inl h.isp
  isc := .inl h.isc
  get := fun n H k => h.get n H k.1
  back := fun n m H H' k e pk => by
    have far : ∀ a, ¬ P0.is a → ¬ (a = p ∨ a = c) := fun a na z => na (z.elim (fun z => z ▸ h.isp) fun z => z ▸ h.isc)
    refine ⟨h.back n m H H' k.1 e pk, ⟨e _ _ (far o fun z => (k.2.2.is o z).1 rfl) k.2.1.1, fun q mq => ?_⟩, k.2.2⟩
    obtain ⟨ys, h1, h2⟩ := k.2.1.2 q mq
    exact ⟨ys, e _ _ (far q fun z => (k.2.2.is q z).2 mq) h1, h2⟩
section
variable {ι : Type} {X : ι → Cx} {K : Fg} {W : Ctl} {c cv c1 c2 c3 : Nat} {e ev e1 e2 : Expr} {wv w1 w2 : WE} {pos p0 p1 p2 : Pos} {x : Str} {st1 st2 : Stmt} {sts : List Stmt}
/-- x[e1][e2] = ev, the store into such lists -/
def wNset (i : Nat) (o : Addr) (nq N wd : Nat) (wv w1 w2 : WE) : WS := fun G De => G[i]? = some (.dat (.obj (.ref o))) ∧ wv G De.ex fun d => RG N d ∧ w1 G De.ex fun d1 => onI d1 fun k => 0 ≤ k ∧ k < nq ∧ w2 G De.ex fun d2 => onI d2 fun j => 0 ≤ j ∧ j < wd ∧ De.nx G
theorem ds_nset {i nq N wd : Nat} {o : Addr} (hK : ∀ j, (X j).K = K) (hp : ∀ Q, W.pc Q → ∃ P0 qs, Q = penN P0 N wd o qs ∧ qs.length = nq) (hx : ∀ j, PE (X j) (.Name x p0) (tVar i)) (hv : DE X K W cv ev wv) (h1 : DE X K W c1 e1 w1) (h2 : DE X K W c2 e2 w2)
    (hs : ∀ j, swapsWithSole [.Subscript (.Subscript (.Name x p0) e1 p1) e2 p2] ev pos.line (X j).env = pure false := by intro _; rfl) (hw : ∀ j, swappedStores [.Subscript (.Subscript (.Name x p0) e1 p1) e2 p2] ev (X j).env = pure none := by intro _; rfl) (ha : ∀ j, (assignEach [.Subscript (.Subscript (.Name x p0) e1 p1) e2 p2] (X j).env).map (·.2) = [assign (.Subscript (.Subscript (.Name x p0) e1 p1) e2 p2) (X j).env] := by intro _; rfl)
    (hi : PlainIx e1 := by exact fun _ _ => rfl)
    (hb : ∀ j v, assign (.Subscript (.Subscript (.Name x p0) e1 p1) e2 p2) (X j).env v = (do
      let a ← holding [v] (eval (.Subscript (.Name x p0) e1 p1) (X j).env)
      let b ← holding [v, a] (eval e2 (X j).env)
      standAt p2
      holding [v, a, b] (setItem a b v)
      release [v, a, b] []) := by intro _ _; rfl) : DS X K W (cv + (c1 + c2)) (.Assign [.Subscript (.Subscript (.Name x p0) e1 p1) e2 p2] ev pos) (wNset i o nq N wd wv w1 w2) := by
  obtain ⟨tv, pv', sv⟩ := hv
  obtain ⟨t1, q1, s1⟩ := h1
  obtain ⟨t2, q2, s2⟩ := h2
  refine ⟨_, fun j => ps_asg (pv' j) (pg_sub (by have z := pe_ix (pos := p1) ix_list (hx j) (q1 j) hi; rw [hK j] at z; exact z) (q2 j) set_list (hb j)) (hs j) (hw j) (ha j), fun P av H0 De hw n H σ G L h D dd => ?_⟩
  obtain ⟨P0, qs, rfl, hq⟩ := hp P hw.1
  obtain ⟨hG, h⟩ := h
  refine sv _ av H0 _ hw (n + (c1 + c2)) H σ G _ (L.le (by omega)) h _ fun v Ha d hd La ea ra => ?_
  obtain ⟨hR, hd⟩ := hd
  obtain ⟨so, e1', v', e2', r'⟩ := L.sl i _ hG
  subst e2'
  cases r'
  refine ⟨.ref o, e1', ?_⟩
  refine s1 _ av H0 _ hw (n + c2) Ha σ G _ (La.le (by omega)) hd _ fun v1 Hb d1 hd1 Lb eb rb => ?_
  obtain ⟨k, rfl, k0, k1, hd1'⟩ := onI_of hd1
  cases rb
  obtain ⟨m, rfl⟩ := Int.eq_ofNat_of_zero_le k0
  have hm : m < qs.length := by omega
  refine ⟨o, qs.map V.ref, _, .ref qs[m], rfl, rfl, (.inl (.inl Lb.ok.2.1.1)), atI_nat (by rw [List.getElem?_map, List.getElem?_eq_getElem hm]; rfl), ?_⟩
  refine s2 _ av H0 _ hw n Hb σ G _ (Lb.le (Nat.le_refl _)) hd1' _ fun v2 Hc d2 hd2 Lc ec rc => ?_
  obtain ⟨j, rfl, j0, j1, hd2'⟩ := onI_of hd2
  cases rc
  obtain ⟨b, rfl⟩ := Int.eq_ofNat_of_zero_le j0
  have mq : qs[m] ∈ qs := List.getElem_mem hm
  obtain ⟨ys, y1, y2, y3⟩ := Lc.ok.2.1.2 _ mq
  have ap := Lc.ok.2.2
  refine ⟨qs[m], ys, _, b, rfl, rfl, y1, ?_, ?_⟩
  · unfold ixN
    rw [y2, if_pos (by omega), if_pos (by omega)]
    rfl
  have ne : ∀ a, P0.is a → a ≠ qs[m] := fun a z y => (ap.is a z).2 (y ▸ mq)
  have on : o ≠ qs[m] := fun z => ap.no (z ▸ mq)
  refine dd.nx σ _ G hd2' (Lc.grow (fun a u na hh => by rw [upd_ne (fun z : a = qs[m] => na (.inr (.inr (z ▸ mq))))]; exact hh) ⟨P0.stab Lc.ok.1 (fun a ia => upd_ne (ne a ia)) (.lst y1), ⟨by rw [upd_ne on]; exact Lc.ok.2.1.1, fun q hq' => ?_⟩, ap⟩) ?_
  · by_cases z : q = qs[m]
    · rw [z]
      refine ⟨_, upd_same, by rw [List.length_set]; exact y2, fun y hy => ?_⟩
      rcases List.mem_or_eq_of_mem_set hy with hy | rfl
      · exact y3 y hy
      · exact rg_rv hR ra
    · obtain ⟨zs, z1, z2⟩ := Lc.ok.2.1.2 q hq'
      exact ⟨zs, by rw [upd_ne z]; exact z1, z2⟩
  · refine .of ?_ fun _ z => z
    intro a u na hh
    rw [upd_ne (fun z : a = qs[m] => na (.inr (.inr (z ▸ mq))))]
    exact ec a u na (eb a u na (ea a u na hh))
end
end DL

namespace DL
open PySem PySem.Spec PyProof.Rows L2
theorem pss_exD {α : Type} {X : Cx} {sts : List Stmt} {ts : α → TS} (h : ∀ a, PSs X sts (ts a)) : PSs X sts (fun D σ H => ∃ a, ts a D σ H) := ⟨fun pins s σ H D I ⟨a, z⟩ => (h a).run pins s σ H D I z⟩
def noOwn (G : Gm) : Bool := G.all fun s => match s with | .own _ => false | _ => true
theorem noOwn_of {G : Gm} (h : noOwn G = true) {i : Nat} {ds : D} : G[i]? ≠ some (.own ds) := fun z => by
  have := List.all_eq_true.mp h _ (List.mem_of_getElem? z)
  exact nomatch this
def Good (N wd : Nat) (rows : List (List D)) : Prop := ∀ row ∈ rows, row.length = wd ∧ ∀ d ∈ row, RG N d
theorem rps_rg {K : Fg} {av : Av} {H : Hp} {N : Nat} : ∀ {vs : List V} {ds : List D}, Rps K av H vs ds → (∀ d ∈ ds, RG N d) → ∀ v ∈ vs, RV N v
  | _, _, .nil, _, _, m => nomatch m
  | _, _, .cons r rs, h, v, m => by
    rcases List.mem_cons.mp m with rfl | m
    · exact rg_rv (h _ List.mem_cons_self) r
    · exact rps_rg rs (fun d hd => h d (List.mem_cons_of_mem _ hd)) v m
theorem rvs_rps {N : Nat} : ∀ {vs : List V}, (∀ v ∈ vs, RV N v) → ∃ ds : List D, ds.length = vs.length ∧ (∀ d ∈ ds, RG N d) ∧ ∀ (K : Fg) (av : Av) (H : Hp), Rps K av H vs ds
  | [], _ => ⟨[], rfl, (fun _ z => nomatch z), fun _ _ _ => .nil⟩
  | v :: vs, h => by
    obtain ⟨d, h1, h2⟩ := rv_rg (h v List.mem_cons_self)
    obtain ⟨ds, k1, k2, k3⟩ := rvs_rps (vs := vs) fun v m => h v (List.mem_cons_of_mem _ m)
    refine ⟨d :: ds, congrArg (· + 1) k1, fun d' m => ?_, fun K av H => .cons (h2 K av H) (k3 K av H)⟩
    rcases List.mem_cons.mp m with rfl | m
    · exact h1
    · exact k2 d' m
theorem shp_of {K : Fg} {av : Av} {H : Hp} {N wd : Nat} {o : Addr} {qs : List Addr} {rows : List (List D)} (ho : H o = some (.lst (qs.map V.ref))) (inn : Inn K av H qs rows) (g : Good N wd rows) : ShpN N wd H o qs := ⟨ho, fun q m => by
  obtain ⟨xs, ds, h1, h2, h3⟩ := inn.some q m
  obtain ⟨g1, g2⟩ := g ds h2
  exact ⟨xs, h1, by rw [h3.len]; exact g1, rps_rg h3 g2⟩⟩
/-- the lists read again as data -/
theorem shp_rows {H : Hp} {N wd : Nat} : ∀ {qs : List Addr}, (∀ q ∈ qs, ∃ ys, H q = some (.lst ys) ∧ ys.length = wd ∧ ∀ y ∈ ys, RV N y) → ∃ rows : List (List D), rows.length = qs.length ∧ Good N wd rows ∧ ∀ (K : Fg) (av : Av), (∀ q ∈ qs, ¬ av q) → Rps K av H (qs.map V.ref) (rows.map D.lst)
  | [], _ => ⟨[], rfl, (fun _ z => nomatch z), fun _ _ _ => .nil⟩
  | q :: qs, h => by
    obtain ⟨ys, y1, y2, y3⟩ := h q List.mem_cons_self
    obtain ⟨ds, k1, k2, k3⟩ := rvs_rps y3
    obtain ⟨rows, r1, r2, r3⟩ := shp_rows (qs := qs) fun q m => h q (List.mem_cons_of_mem _ m)
    refine ⟨ds :: rows, congrArg (· + 1) r1, fun row m => ?_, fun K av n => .cons (.lst ⟨y1, n q List.mem_cons_self⟩ (k3 K av H)) (r3 K av fun q m => n q (List.mem_cons_of_mem _ m))⟩
    rcases List.mem_cons.mp m with rfl | m
    · exact ⟨k1.trans y2, k2⟩
    · exact r2 row m
section
variable {ι : Type} {X : ι → Cx} {K : Fg} {W : Ctl} {c c1 c2 c3 : Nat} {st1 st2 : Stmt} {sts : List Stmt} {w1 : W2} {w3 : WS}
def nestEnds (i : Nat) (o : Addr) (N wd nq : Nat) (w3 : WS) (De : DEnds) : DEnds := { nx := fun G2 => G2[i]? = some (.dat (.obj (.ref o))) ∧ ∀ rows' : List (List D), rows'.length = nq → Good N wd rows' → w3 (G2.set i (.dat (.lst (rows'.map D.lst)))) De, rt := fun _ => False, bk := fun _ => False, ct := fun _ => False, ex := De.ex, rf := fun _ => False }
def wNest (i : Nat) (w1 : W2) (w2 : Addr × Nat × Nat × Nat → WS) (w3 : WS) : WS := fun G De => noOwn G = true ∧ i < G.length ∧ w1 G De.ex fun rows => ∃ N wd, Good N wd rows ∧
  ∀ o, w2 (o, rows.length, N, wd) (G.set i (.dat (.obj (.ref o)))) (nestEnds i o N wd rows.length w3 De)
abbrev pcN (W : Ctl) (z : Addr × Nat × Nat × Nat) : Ctl := ⟨W.w, fun Q => ∃ P0 qs, W.pc P0 ∧ Q = penN P0 z.2.2.1 z.2.2.2 z.1 qs ∧ qs.length = z.2.1⟩
theorem dss_nest {i : Nat} {w2 : Addr × Nat × Nat × Nat → WS} (core : ∃ te, (∀ j, PS (X j) st1 (tAsg te (gName i))) ∧ SF2 K W c1 te w1) (loop : ∀ z : Addr × Nat × Nat × Nat, DS X K (pcN W z) c2 st2 (w2 z)) (rest : DSs X K W c3 sts w3) : DSs X K W (c1 + (c2 + c3)) (st1 :: st2 :: sts) (wNest i w1 w2 w3) := by
  obtain ⟨te, hps, s1⟩ := core
  obtain ⟨tr, pr, sr⟩ := rest
  refine ⟨_, fun j => pss_cons (hps j) (pss_exD fun z => pss_cons ((loop z).choose_spec.1 j) (pr j)), fun P av H0 De hw n H σ G L h Dn dd => ?_⟩
  obtain ⟨hno, hi, h⟩ := h
  have no : ∀ a, ¬ Own σ G a := fun a ⟨j, ds, k, _⟩ => noOwn_of hno k
  refine s1 P av H0 De.ex hw (n + (c2 + c3)) H σ G _ (L.le (by omega)) h _ fun p qs H1 rows hrows L1 e1 hp hp1 hq hnd inn => ?_
  obtain ⟨N, wd, good, hrows⟩ := hrows
  have isH : ∀ a, H a = none → ¬ P.is a := fun a hn z => L.avNe (L.pav a z) hn
  have newH : ∀ a, a = p ∨ a ∈ qs → H a = none := fun a z => z.elim (fun z => z ▸ hp) fun z => (hq a z).1
  have back : ∀ {H2 : Hp}, Ext (penN P N wd p qs).is H1 H2 → Ext P.is H H2 := fun e2 a u na hh => e2 a u (fun z => by
    rcases z with z | z
    · exact na z
    · rw [newH a z] at hh; exact nomatch hh) (e1 a u na hh)
  have ok1 : (penN P N wd p qs).ok (n + (c2 + c3)) H1 := ⟨L1.ok, shp_of hp1 inn good, ⟨fun m => (hq p m).2 rfl, hnd, fun a ia => ⟨fun z => isH p hp (z ▸ ia), fun m => isH a (hq a m).1 ia⟩⟩⟩
  have hG : ∀ {j : Nat} {s : Slot}, (G.set i (.dat (.obj (.ref p))))[j]? = some s → (j = i ∧ s = .dat (.obj (.ref p))) ∨ G[j]? = some s ∧ j ≠ i := fun {j s} z => by
    by_cases y : i = j
    · subst y
      exact .inl ⟨rfl, getElem?_set_self' z⟩
    · rw [List.getElem?_set_ne y] at z
      exact .inr ⟨z, Ne.symm y⟩
  have no1 : ∀ a, ¬ Own (σ.set i (some (.ref p))) (G.set i (.dat (.obj (.ref p)))) a := fun a ⟨j, ds, k, _⟩ => by
    rcases hG k with ⟨_, z⟩ | ⟨z, _⟩
    · exact nomatch z
    · exact noOwn_of hno z
  have L1' : LocOk (penN P N wd p qs) K (fun a => av a ∨ a = p ∨ a ∈ qs) H1 (n + (c2 + c3)) H1 (σ.set i (some (.ref p))) (G.set i (.dat (.obj (.ref p)))) := by
    refine ⟨by rw [List.length_set, List.length_set]; exact L.len, fun j s hs => ?_, fun j k d1 d2 a z _ y _ => absurd ⟨j, d1, z, y⟩ (no1 a), .refl _ _, fun a z => absurd z (no1 a), ok1, fun a z => z.elim (fun z => .inl (L.pav a z)) .inr, fun a z => ?_⟩
    · rcases hG hs with ⟨rfl, rfl⟩ | ⟨z, ne⟩
      · exact ⟨some (.ref p), by rw [List.getElem?_set_self (by rw [← L.len]; exact hi)], .ref p, rfl, .obj _⟩
      · obtain ⟨ov, o1, o2⟩ := L.sl j s z
        refine ⟨ov, by rw [List.getElem?_set_ne (Ne.symm ne)]; exact o1, ?_⟩
        cases s with
        | un => trivial
        | own ds => exact absurd z (noOwn_of hno)
        | dat d =>
          obtain ⟨v, v1, v2⟩ := o2
          refine ⟨v, v1, v2.ext e1 (fun _ => L.isAvo) fun a ha y => ?_⟩
          rcases y with (y | y) | y
          · exact .inl y
          · exact absurd (newH a y) ha
          · exact absurd y (no1 a)
    · rcases z with z | rfl | z
      · exact L1.avNe z
      · rw [hp1]; exact fun z => nomatch z
      · obtain ⟨ys, y1, _⟩ := ok1.2.1.2 a z
        rw [y1]; exact fun z => nomatch z
  refine ⟨(p, rows.length, N, wd), ?_⟩
  refine (loop (p, rows.length, N, wd)).choose_spec.2 (penN P N wd p qs) _ H1 (nestEnds i p N wd rows.length w3 De) ⟨⟨P, qs, hw.1, rfl, inn.len⟩, fun cls σ' H' hc ex => hw.2 cls σ' H' hc (L.ext.trans (back ex))⟩ (n + c3) H1 _ _ (L1'.le (by omega)) (hrows p) _ ⟨fun σ2 H2 G2 hG2 L2 r2 => ?_, fun _ _ _ z => z.elim, fun _ _ _ z => z.elim, fun _ _ _ z => z.elim, fun _ _ _ _ z => z.elim⟩
  obtain ⟨g2, hr⟩ := hG2
  obtain ⟨rows', l1, l2, l3⟩ := shp_rows L2.ok.2.1.2
  have e2 : Ext (penN P N wd p qs).is H1 H2 := fun a u na hh => r2.ext a u (fun z => z.elim na fun z => no1 a z) hh
  have eH : Ext P.is H H2 := back e2
  have ownNew : ∀ a, Own σ2 G2 a → H1 a = none ∧ ¬ (penN P N wd p qs).is a := fun a z => by
    rcases r2.own a z with y | y
    · exact absurd y (no1 a)
    · exact y
  have own3 : ∀ a, Own σ2 (G2.set i (.dat (.lst (rows'.map DL.D.lst)))) a → Own σ2 G2 a := fun a ⟨j, ds, z1, z2⟩ => by
    by_cases y : i = j
    · subst y
      exact absurd (getElem?_set_self' z1) (fun z => nomatch z)
    · rw [List.getElem?_set_ne y] at z1
      exact ⟨j, ds, z1, z2⟩
  have notAv : ∀ a, (a = p ∨ a ∈ qs) → ¬ avo av σ2 (G2.set i (.dat (.lst (rows'.map DL.D.lst)))) a := fun a z y => by
    rcases y with y | y
    · exact L.avNe y (newH a z)
    · exact (ownNew a (own3 a y)).2 (.inr z)
  have L3 : LocOk P K av H0 (n + c3) H2 σ2 (G2.set i (.dat (.lst (rows'.map DL.D.lst)))) := by
    refine ⟨by rw [List.length_set]; exact L2.len, fun j s hs => ?_, fun j k d1 d2 a z1 z2 z3 z4 => ?_, L.ext.trans eH, fun a z => ?_, L2.ok.1, L.pav, L.al⟩
    · by_cases y : i = j
      · subst y
        obtain rfl := getElem?_set_self' hs
        obtain ⟨ov, o1, v, rfl, o2⟩ := L2.sl i _ g2
        cases o2
        exact ⟨_, o1, .ref p, rfl, .lst ⟨L2.ok.2.1.1, notAv p (.inl rfl)⟩ (l3 K _ fun q m => notAv q (.inr m))⟩
      · rw [List.getElem?_set_ne y] at hs
        obtain ⟨ov, o1, o2⟩ := L2.sl j s hs
        refine ⟨ov, o1, o2.shrink fun a _ z => ?_⟩
        rcases z with z | z
        · exact .inl (.inl z)
        · exact .inr (own3 a z)
    · by_cases y : i = j
      · subst y
        exact absurd (getElem?_set_self' z1) (fun z => nomatch z)
      · by_cases y2 : i = k
        · subst y2
          exact absurd (getElem?_set_self' z2) (fun z => nomatch z)
        · rw [List.getElem?_set_ne y] at z1
          rw [List.getElem?_set_ne y2] at z2
          exact L2.inj j k d1 d2 a z1 z2 z3 z4
    · have z := own3 a z
      obtain ⟨n1, n2⟩ := ownNew a z
      have n3 : ¬ P.is a := fun y => n2 (.inl y)
      exact L.ext.none n3 (e1.none n3 n1)
  have rl : Rl P H σ G H2 σ2 (G2.set i (.dat (.lst (rows'.map DL.D.lst)))) := ⟨fun a u na hh => eH a u (fun z => na (.inl z)) hh, fun a z => by
    obtain ⟨n1, n2⟩ := ownNew a (own3 a z)
    have n3 : ¬ P.is a := fun y => n2 (.inl y)
    exact .inr ⟨e1.none n3 n1, n3⟩⟩
  exact sr P av H0 De hw n H2 σ2 _ (L3.le (Nat.le_refl _)) (hr rows' (l1.trans inn.len) l2) Dn ⟨fun σ' H' G' h' L' q => dd.nx σ' H' G' h' L' (rl.trans q), fun σ' H' G' h' L' q => dd.bk σ' H' G' h' L' (rl.trans q), fun σ' H' G' h' L' q => dd.ct σ' H' G' h' L' (rl.trans q), dd.rt, dd.rf⟩
end
theorem nest_pen {W : Ctl} {z : Addr × Nat × Nat × Nat} {Q : Pn} (h : (pcN W z).pc Q) : ∃ P0 qs, Q = penN P0 z.2.2.1 z.2.2.2 z.1 qs ∧ qs.length = z.2.1 := by
  obtain ⟨P0, qs, _, h1, h2⟩ := h
  exact ⟨P0, qs, h1, h2⟩
theorem nest_has {W : Ctl} {z : Addr × Nat × Nat × Nat} {p : Addr} (hpn : ∀ Q, W.pc Q → ∃ c, HasPen p Q c) {Q : Pn} (h : (pcN W z).pc Q) : ∃ c, HasPen p Q c := by
  obtain ⟨P0, qs, h0, rfl, _⟩ := h
  obtain ⟨c, hc⟩ := hpn P0 h0
  exact ⟨c, hasPenN hc⟩
theorem pen_has {p : Addr} {Q : Pn} (h : pcP p Q) : ∃ c, HasPen p Q c := by
  obtain ⟨c, rfl⟩ := h
  exact ⟨c, hasPen0⟩
end DL

namespace DL
open PySem PySem.Spec PyProof.Rows L2
/-! ### list(range(n)) -/
section
variable {ι : Type} {X : ι → Cx} {K : Fg} {W : Ctl} {c : Nat} {e : Expr} {w : WE} {pos p q1 q2 : Pos}
def wListRg (w : WE) : WL := fun G ed Q => w G ed fun d => onI d fun n => RgOk 0 n ∧ Q (rngD 0 n.toNat)
theorem rps_rng {K : Fg} {av : Av} {H : Hp} (a : Int) : ∀ (l : List Nat), Rps K av H (l.map fun i => V.int (a + (i : Nat))) (l.map fun i => D.int (a + (i : Nat)))
  | [] => .nil
  | i :: r => .cons (.int _) (rps_rng a r)
theorem df_listRg (hm : ∀ i, (X i).mg "list" = none) (hm2 : ∀ i, (X i).mg "range" = none) (h : DE X K W c e w) (hc : ∀ i, (X i).calm = true := by intro _; rfl) (hg : ∀ i, Gl (X i) "list" := by intro _; rfl) (hg2 : ∀ i, Gl (X i) "range" := by intro _; rfl)
    (n1 : ∀ i, starEach [.Call (.Name "range" q1) [e] [] q2] (X i).env = (false, eval (.Call (.Name "range" q1) [e] [] q2) (X i).env) :: starEach [] (X i).env := by intro _; rfl) (n2 : ∀ i, starEach [e] (X i).env = (false, eval e (X i).env) :: starEach [] (X i).env := by intro _; rfl) :
    DF X K W c (.Call (.Name "list" p) [.Call (.Name "range" q1) [e] [] q2] [] pos) (wListRg w) := by
  obtain ⟨te, pe, s⟩ := h
  refine ⟨_, fun i => pe_listRg (hc i) (hg i) (hm i) (prg_1 (hg2 i) (hm2 i) (pe i) (n2 i)) (n1 i), fun P av H0 ed hw n H σ G Qd L h Q q => ?_⟩
  refine s P av H0 ed hw n H σ G _ L h _ fun v H1 d hd L1 e1 r1 => ?_
  obtain ⟨k, rfl, hk, hd'⟩ := onI_of hd
  cases r1
  refine ⟨k, rfl, hk, fun z hz => ?_⟩
  have nz : ¬ P.is z := fun y => L1.avNe (L1.pav _ y) hz
  refine q z _ _ _ hd' (L1.new hz) (e1.trans (.new hz)) (e1.none nz hz) upd_same ?_
  have e : rgV 0 k = (List.range k.toNat).map fun i => V.int (0 + (i : Nat)) := by
    unfold rgV
    simp
  rw [e]
  exact rps_rng 0 _
end
end DL

namespace DL
open PySem PySem.Spec PyProof.Rows L2
/-! ### comprehensions of which a property alone is known -/
theorem compW_any {Pr : D → Prop} {wg : WG} {we : WE} {G : Gm} : ∀ {ds : List D} {acc : List D} {Q : List D → Prop}, (∀ d ∈ ds, ∀ R : D → Prop, (∀ y, Pr y → R y) → wg d G fun G1 => we G1 (fun _ => False) R) → (∀ y ∈ acc, Pr y) → (∀ out : List D, out.length = acc.length + ds.length → (∀ y ∈ out, Pr y) → Q out) → compW wg wTt we G ds acc Q
  | [], acc, Q, _, ha, q => q acc rfl ha
  | d :: r, acc, Q, h, ha, q => by
    show wg d G fun G1 => fork true (we G1 (fun _ => False) fun y => compW wg wTt we G r (acc ++ [y]) Q) (compW wg wTt we G r acc Q)
    have e : (fun G1 => fork true (we G1 (fun _ => False) fun y => compW wg wTt we G r (acc ++ [y]) Q) (compW wg wTt we G r acc Q)) = fun G1 => we G1 (fun _ => False) fun y => compW wg wTt we G r (acc ++ [y]) Q := funext fun G1 => fork_tt
    rw [e]
    refine h d List.mem_cons_self _ fun y hy => ?_
    refine compW_any (fun d hd => h d (List.mem_cons_of_mem _ hd)) (fun z hz => ?_) fun out ho => q out (by rw [ho, List.length_append, List.length_cons]; simp; omega)
    rcases List.mem_append.mp hz with hz | hz
    · exact ha z hz
    · rw [List.mem_singleton.mp hz]; exact hy
theorem compW_sub {wg : WG} {wt : WT} {we : WE} {G : Gm} : ∀ {ds : List D} {acc : List D} {Q : List D → Prop}, (∀ d ∈ ds, ∀ (R : D → Prop) (Z : Prop), R d → Z → wg d G fun G1 => wt G1 (fun _ => False) fun b => fork b (we G1 (fun _ => False) R) Z) → (∀ out : List D, out.Sublist ds → Q (acc ++ out)) → compW wg wt we G ds acc Q
  | [], acc, Q, _, q => by
    have := q [] (.refl _)
    rw [List.append_nil] at this
    exact this
  | d :: r, acc, Q, h, q => by
    refine h d List.mem_cons_self _ _ (compW_sub (fun d hd => h d (List.mem_cons_of_mem _ hd)) fun out ho => ?_) (compW_sub (fun d hd => h d (List.mem_cons_of_mem _ hd)) fun out ho => q out (ho.cons d))
    rw [List.append_assoc]
    exact q (d :: out) (ho.cons₂ d)
theorem compW2_any {Pr : List D → Prop} {wg : WG} {we : WL} {G : Gm} : ∀ {ds : List D} {acc : List (List D)} {Q : List (List D) → Prop}, (∀ d ∈ ds, ∀ R : List D → Prop, (∀ y, Pr y → R y) → wg d G fun G1 => we G1 (fun _ => False) R) → (∀ y ∈ acc, Pr y) → (∀ out : List (List D), out.length = acc.length + ds.length → (∀ y ∈ out, Pr y) → Q out) → compW2 wg we G ds acc Q
  | [], acc, Q, _, ha, q => q acc rfl ha
  | d :: r, acc, Q, h, ha, q => by
    refine h d List.mem_cons_self _ fun y hy => ?_
    refine compW2_any (fun d hd => h d (List.mem_cons_of_mem _ hd)) (fun z hz => ?_) fun out ho => q out (by rw [ho, List.length_append, List.length_cons]; simp; omega)
    rcases List.mem_append.mp hz with hz | hz
    · exact ha z hz
    · rw [List.mem_singleton.mp hz]; exact hy
end DL

namespace DL
open PySem PySem.Spec PyProof.Rows L2
/-! ### dicts whose values are all True -/
def keyD : Key → D
  | .inl i => .int i
  | .inr s => .str s
def keyOf : D → Option Key
  | .int i => some (.inl i)
  | .str s => some (.inr s)
  | _ => none
theorem keyOf_of {d : D} {k : Key} (h : keyOf d = some k) : d = keyD k := by
  cases d <;> first | (cases h; rfl) | exact nomatch h
theorem keyD_rp {K : Fg} {av : Av} {H : Hp} {v : V} {k : Key} (r : Rp K av H v (keyD k)) : v = kV k := by
  cases k <;> (cases r; rfl)
instance memK (k : Key) (ks : List Key) : Decidable (k ∈ ks) := decidable_of_iff ((ks.any fun j => decide (j = k)) = true) (by simp [List.any_eq_true])
def addK (ks : List Key) (k : Key) : List Key := if k ∈ ks then ks else ks ++ [k]
abbrev tT (ks : List Key) : List D := ks.map fun _ => .bl true
abbrev tD (ks : List Key) : D := .dic ks (tT ks)
abbrev tV (ks : List Key) : List (Key × V) := ks.map fun k => (k, V.bl true)
theorem rps_true {K : Fg} {av : Av} {H : Hp} : ∀ {xs : List V} {ks : List Key}, Rps K av H xs (tT ks) → xs = ks.map fun _ => V.bl true
  | _, [], .nil => rfl
  | _, k :: ks, .cons r rs => by
    cases r
    rw [rps_true rs]
    rfl
theorem true_rps {K : Fg} {av : Av} {H : Hp} : ∀ (ks : List Key), Rps K av H (ks.map fun _ => V.bl true) (tT ks)
  | [] => .nil
  | _ :: ks => .cons (.bl true) (true_rps ks)
theorem zip_true : ∀ (ks : List Key), ks.zip (ks.map fun _ => V.bl true) = tV ks
  | [] => rfl
  | k :: ks => congrArg ((k, V.bl true) :: ·) (zip_true ks)
theorem any_key (k : Key) : ∀ ks : List Key, ((tV ks).any fun kv => decide (kv.1 = k)) = decide (k ∈ ks)
  | [] => rfl
  | j :: ks => by
    show (decide (j = k) || (tV ks).any fun kv => decide (kv.1 = k)) = _
    rw [any_key k ks]
    by_cases h : j = k
    · subst h; simp
    · by_cases h2 : k ∈ ks
      · simp [h, h2]
      · have h3 : ¬ k = j := fun z => h z.symm
        simp [h, h2, h3]
theorem put_true (ks : List Key) (k : Key) : putK (tV ks) k (.bl true) = tV (addK ks k) := by
  unfold putK addK
  rw [any_key]
  by_cases h : k ∈ ks
  · rw [if_pos (decide_eq_true h), if_pos h, List.map_map]
    refine List.map_congr_left fun j _ => ?_
    show (if j = k then (j, V.bl true) else (j, V.bl true)) = _
    split <;> rfl
  · rw [if_neg (by rw [decide_eq_false h]; decide), if_neg h]
    show tV ks ++ [(k, V.bl true)] = (ks ++ [k]).map fun k => (k, V.bl true)
    rw [List.map_append]
    rfl
theorem merge_true : ∀ (es ks : List Key), mergeK (tV ks) (tV es) = tV (es.foldl addK ks)
  | [], _ => rfl
  | e :: es, ks => by
    show mergeK (putK (tV ks) e (.bl true)) (tV es) = _
    rw [put_true, merge_true es]
    rfl
theorem val_zip {k : Key} : ∀ {ks : List Key} {xs : List V}, ks.length = xs.length → (valV (ks.zip xs) k).isSome = decide (k ∈ ks)
  | [], [], _ => rfl
  | j :: ks, x :: xs, h => by
    have ih := val_zip (k := k) (ks := ks) (xs := xs) (by simpa using h)
    by_cases e : j = k
    · subst e
      rw [List.zip_cons_cons, valV_pos rfl]
      simp
    · rw [List.zip_cons_cons, valV_neg e, ih]
      have e3 : ¬ k = j := fun z => e z.symm
      by_cases h2 : k ∈ ks <;> simp [h2, e3]
section
variable {ι : Type} {X : ι → Cx} {K : Fg} {W : Ctl} {c c1 c2 : Nat} {e a b : Expr} {w wa wb : WE} {wl : WL} {pos p p0 p1 : Pos} {x : Str}
def fInT (g : Bool → Bool) : D → D → (D → Prop) → Prop
  | .non, .dic ks vs, Q => Q (.bl (g false))
  | .int i, .dic ks vs, Q => Q (.bl (g (decide (Sum.inl i ∈ ks))))
  | .str s, .dic ks vs, Q => Q (.bl (g (decide (Sum.inr s ∈ ks))))
  | _, _, _ => False
def rInN : R2 := fun y x H Q => (∃ a o, x = .ref a ∧ DGet H a y o ∧ Q (.bl o.isSome) H) ∨ ∃ a kvs, x = .ref a ∧ y = .non ∧ Rd H a (.dK kvs) ∧ Q (.bl false) H
theorem opInT : OpS K rInN (fInT id) := by
  intro is av H x y dx dy Qd hi ha rx ry h Q q
  cases dy <;> try (cases dx <;> exact h.elim)
  rename_i ks vs
  obtain ⟨p, xs, rfl, n, hl, r⟩ := ry
  cases dx <;> try exact h.elim
  · cases rx
    exact .inr ⟨p, _, rfl, rfl, .inl n.1, q _ H _ h (fun _ _ z => z) (.bl _)⟩
  · rename_i i
    cases rx
    refine .inl ⟨p, _, rfl, DGet.k (k := .inl i) n.1, ?_⟩
    rw [val_zip hl]
    exact q _ H _ h (fun _ _ z => z) (.bl _)
  · rename_i z
    cases rx
    refine .inl ⟨p, _, rfl, DGet.k (k := .inr z) n.1, ?_⟩
    rw [val_zip hl]
    exact q _ H _ h (fun _ _ z => z) (.bl _)
theorem dx_inT {k : Nat} (hr : ∀ i, Room k (X i).A) (ha : DR X K W c1 a wa) (hb : DR X K W c2 b wb) (hm : behindInMarks .In b = false := by rfl) : DX X K W (c1 + c2) (.Compare a [.In] [b] pos) (w2 (fInT id) wa wb) :=
  twoX opInT (fun i _ _ pa pb => by
    have z := pc_dinN (hu_of (hr i)) pa pb
    exact ⟨pe_cmp z hm, pt_cmp z hm⟩) ha hb
def owT : Option Slot → (List Key → Prop) → Prop
  | some (.own (.dic ks vs)), Q => vs = tT ks ∧ Q ks
  | _, _ => False
theorem owT_of {o : Option Slot} {Q : List Key → Prop} (h : owT o Q) : ∃ ks, o = some (.own (tD ks)) ∧ Q ks := by
  unfold owT at h
  split at h
  · obtain ⟨rfl, h⟩ := h
    exact ⟨_, rfl, h⟩
  · exact h.elim
/-- x[e] = True -/
def wPutT (i : Nat) (w : WE) : WS := fun G De => owT G[i]? fun ks => ks.length < sizeLine ∧ w G De.ex fun d => onO (keyOf d) fun k => De.nx (G.set i (.own (tD (addK ks k))))
theorem ds_putT {i k : Nat} {j : Nat} (hr : ∀ q, Room k (X q).A) (hx : ∀ q, PE (X q) (.Name x p0) (tVar i)) (h : DE X K W c e w)
    (hs : ∀ q, swapsWithSole [.Subscript (.Name x p0) e p1] (.Constant (.bool true) j p) pos.line (X q).env = pure false := by intro _; rfl) (hw : ∀ q, swappedStores [.Subscript (.Name x p0) e p1] (.Constant (.bool true) j p) (X q).env = pure none := by intro _; rfl)
    (h1 : ∀ q, (assignEach [.Subscript (.Name x p0) e p1] (X q).env).map (·.2) = [assign (.Subscript (.Name x p0) e p1) (X q).env] := by intro _; rfl)
    (hb : ∀ q v, assign (.Subscript (.Name x p0) e p1) (X q).env v = (do
      let a ← holding [v] (eval (.Name x p0) (X q).env)
      let b ← holding [v, a] (eval e (X q).env)
      standAt p1
      holding [v, a, b] (setItem a b v)
      release [v, a, b] []) := by intro _ _; rfl) : DS X K W c (.Assign [.Subscript (.Name x p0) e p1] (.Constant (.bool true) j p) pos) (wPutT i w) := by
  obtain ⟨te, pe, s⟩ := h
  refine ⟨_, fun q => ps_asg pe_bl (pg_sub (hx q) (pe q) (set_dict (hu_of (hr q))) (hb q)) (hs q) (hw q) (h1 q), fun P av H0 De hw n H σ G L h D dd => ?_⟩
  obtain ⟨ks, hG, hz, h⟩ := owT_of h
  obtain ⟨o, e1, l, u, xs, es, e2, e3, sh, r⟩ := L.sl i _ hG
  subst e2
  refine ⟨.ref l, e1, ?_⟩
  refine s P av H0 _ hw n H σ G _ L h _ fun v H' d hd L2 e' rv => ?_
  obtain ⟨k, hk, hd'⟩ := onO_of hd
  have ed := keyOf_of hk
  subst ed
  have ev := keyD_rp rv
  subst ev
  obtain ⟨o', f1, l', u', xs', es', f2, f3, sh', r'⟩ := L2.sl i _ hG
  rw [e1] at f1
  cases f1
  cases f2
  cases sh'
  have ex := rps_true r'
  subst ex
  rw [zip_true] at f3
  refine ⟨l, _, rfl, DPut.k f3 (by rw [List.length_map]; exact hz), ?_⟩
  rw [put_true]
  obtain ⟨L3, rl⟩ := L2.mut (ee := tD (addK ks k)) hG e1 (.dic (by rw [List.length_map])) (true_rps (addK ks k))
  rw [zip_true] at L3 rl
  exact dd.nx _ _ _ hd' L3 ((Rl.of e' fun _ z => z).trans rl)
/-- x = dict(e), e a list of pairs (key, True) -/
def wSetT (i : Nat) (w : WE) : WS := fun G De => w G De.ex fun d => ∃ es : List Key, d = .lst (es.map fun k => .tup [keyD k, .bl true]) ∧ De.nx (G.set i (.own (tD (es.foldl addK []))))
theorem pairs_of {K : Fg} {av : Av} {H : Hp} : ∀ {vs : List V} {es : List Key}, Rps K av H vs (es.map fun k => .tup [keyD k, .bl true]) → ∃ ps : List Addr, vs = ps.map V.ref ∧ Paired (fun p kv => SqT K H p [kV kv.1, kv.2]) ps (tV es)
  | _, [], .nil => ⟨[], rfl, .nil⟩
  | _, e :: es, .cons r rs => by
    obtain ⟨ps, rfl, hp⟩ := pairs_of rs
    cases r with
    | tup n r =>
      cases r with
      | cons r1 r =>
        cases r with
        | cons r2 r =>
          cases r
          cases r2
          have := keyD_rp r1
          subst this
          exact ⟨_ :: ps, rfl, .cons n.sq hp⟩
theorem ds_setT {i : Nat} {py q1 : Pos} {y : Str} (hK : ∀ q, (X q).K = K) (hc : ∀ q, (X q).calm = true) (hm : ∀ q, (X q).mg "dict" = none) (h : DR X K W c e w) (hN : ∀ q, (X q).N.Nodup) (hg : ∀ q, Gl (X q) "dict" := by intro _; rfl) (hi : ∀ j, (X j).N[i]? = some y := by intro _; rfl) (hx : ∀ j, Loc (X j).env.scope y := by intro _; first | exact .inl rfl | exact .inr rfl)
    (hs : ∀ j, swapsWith (.Call (.Name "dict" q1) [e] [] p) (some (.Name y py)) pos.line (X j).env = pure false := by intro _; rfl) (hf : ∀ j, (X j).fn y = true ∨ (X j).env.scope.names.lookup y = some .local := by intro _; first | exact .inl rfl | exact .inr rfl)
    (he : ∀ q, starEach [e] (X q).env = (false, eval e (X q).env) :: starEach [] (X q).env := by intro _; rfl) (hpl : ∀ q, (backTo p (starEach [] (X q).env)).any (·.1) = false := by intro _; rfl) : DS X K W c (.Assign [.Name y py] (.Call (.Name "dict" q1) [e] [] p) pos) (wSetT i w) := by
  obtain ⟨te, pe, s⟩ := h
  refine ⟨_, fun q => ps_set (hN q) (hi q) (hx q) (by
    have z := call_dictP (X := X q) (hc q)
    rw [hK q] at z
    exact pe_callTy z (hg q) (hm q) bt_dict (pa_cons (pe q) pa_nil (he q)) (by decide) (by decide) (he q) (hpl q)) (hs q) (hf q), fun P av H0 De hw n H σ G L h D dd => ?_⟩
  refine s P av H0 _ hw n H σ G _ L h _ fun v H' d hd L2 e' rv => ?_
  obtain ⟨es, rfl, hd⟩ := hd
  obtain ⟨a, xs, rfl, nl, r⟩ := rv
  obtain ⟨ps, rfl, hp⟩ := pairs_of r
  refine ⟨a, ps, tV es, rfl, .inl (.inl nl.1), hp, fun z hz => ?_⟩
  have em : mergeK [] (tV es) = tV (es.foldl addK []) := merge_true es []
  rw [em]
  have nz : ¬ P.is z := fun y => L2.avNe (L2.pav _ y) hz
  have L3 : LocOk P K av H0 n (upd H' z (.dK (tV (es.foldl addK [])))) σ G := L2.new hz
  obtain ⟨L4, o⟩ := L2.putOwn (i := i) (dd := tD (es.foldl addK [])) (u := .dK (tV (es.foldl addK []))) L3 (.new hz) hz upd_same (by
    have y := Shp.dic (ks := es.foldl addK []) (xs := (es.foldl addK []).map fun _ => V.bl true) (ds := tT (es.foldl addK [])) (by rw [List.length_map])
    rw [zip_true] at y
    exact y) (true_rps _)
  refine dd.nx _ _ _ hd L4 ⟨fun b u k hh => ?_, fun b y => ?_⟩
  · rw [upd_ne (ne_of_none (e' b u (fun y => k (.inl y)) hh) hz)]
    exact e' b u (fun y => k (.inl y)) hh
  · rcases o b y with y | rfl
    · exact .inl y
    · exact .inr ⟨e'.none nz hz, nz⟩
end
end DL

namespace DL
open PySem PySem.Spec PyProof.Rows L2
section
variable {ι : Type} {X : ι → Cx} {K : Fg} {W : Ctl} {c : Nat} {a e : Expr} {wt : WT} {wl : WL} {ws : WS} {sts : List Stmt} {pos apos cpos : Pos}
/-- what a def owns, seen as data -/
def seen (i : Nat) (G : Gm) : Gm := match G[i]? with
  | some (.own d) => G.set i (.dat d)
  | _ => G
theorem LocOk.seen {P : Pn} {av : Av} {H0 H : Hp} {n : Nat} {σ : Sg} {G : Gm} (i : Nat) (L : LocOk P K av H0 n H σ G) : LocOk P K av H0 n H σ (seen i G) ∧ ∀ a, Own σ (DL.seen i G) a → Own σ G a := by
  unfold DL.seen
  split
  · rename_i d h
    exact L.frz h
  · exact ⟨L, fun _ z => z⟩
/-- a test may read it so: nothing is left behind -/
theorem dt_seen (i : Nat) (h : DT X K W c e wt) : DT X K W c e (fun G ed Q => wt (seen i G) ed Q) := by
  obtain ⟨tt, pt, s⟩ := h
  refine ⟨tt, pt, fun P av H0 ed hw n H σ G Qd L h Q q => ?_⟩
  exact s P av H0 ed hw n H σ _ Qd (L.seen i).1 h Q fun b H' hb L2 e' => q b H' hb ((L.le (Nat.le_add_right n c)).grow e' L2.ok) e'
/-- from here on it is not written -/
theorem dss_seen (i : Nat) (h : DSs X K W c sts ws) : DSs X K W c sts (fun G De => ws (seen i G) De) := by
  obtain ⟨ts, ps, s⟩ := h
  refine ⟨ts, ps, fun P av H0 De hw n H σ G L h D dd => ?_⟩
  obtain ⟨L2, o⟩ := L.seen i
  have r : ∀ {σ' : Sg} {H' : Hp} {G' : Gm}, Rl P H σ (seen i G) H' σ' G' → Rl P H σ G H' σ' G' := fun r => ⟨fun b u k hh => r.ext b u (fun z => k (z.elim .inl fun z => .inr (o b z))) hh, fun b z => (r.own b z).elim (fun z => .inl (o b z)) .inr⟩
  exact s P av H0 De hw n H σ _ L2 h D ⟨fun σ' H' G' h' L' q => dd.nx σ' H' G' h' L' (r q), fun σ' H' G' h' L' q => dd.bk σ' H' G' h' L' (r q), fun σ' H' G' h' L' q => dd.ct σ' H' G' h' L' (r q), dd.rt, dd.rf⟩
end
end DL

namespace DL
open PySem PySem.Spec PyProof.Rows L2
section
variable {ι : Type} {X : ι → Cx} {K : Fg} {W : Ctl} {c c1 c2 c3 : Nat} {e a b : Expr} {es : List Expr} {w wa wb : WE} {wl : WL} {pos p apos cpos : Pos}
/-! ### slices of lists, new -/
def onL (d : D) (Q : List D → Prop) : Prop := match d with | .lst xs => Q xs | _ => False
theorem onL_of {d : D} {Q : List D → Prop} (h : onL d Q) : ∃ xs, d = .lst xs ∧ Q xs := by
  cases d <;> first | exact ⟨_, rfl, h⟩ | exact h.elim
def wSlF (wa : WE) (wl wh : WO) : WL := fun G ed Q => wa G ed fun x => wl G ed fun lo => wh G ed fun hi => onL x fun xs => Q (cut xs lo hi)
theorem df_sl {lo hi : Option Expr} {p2 : Pos} {wl wh : WO} (hK : ∀ i, (X i).K = K) (ha : DR X K W c1 a wa) (hl : DO X K W c2 lo wl) (hh : DO X K W c3 hi wh) : DF X K W (c1 + c2 + c3) (.Subscript a (.Slice lo hi none p2) pos) (wSlF wa wl wh) := by
  obtain ⟨ta, pa, sa⟩ := ha
  obtain ⟨tl, pl, sl⟩ := hl
  obtain ⟨th, ph, sh⟩ := hh
  refine ⟨tSl (rSl3 K) ta tl th, fun i => (by rw [← hK i]; exact pe_slice (sl_str.or sl_list) (pa i) (pl i) (ph i)), fun P av H0 ed hw n H σ G Qd L h Q q => ?_⟩
  refine sa P av H0 ed hw (n + c2 + c3) H σ G _ (L.le (by omega)) h _ fun x H1 dx hx L1 e1 r1 => ?_
  refine sl P av H0 ed hw (n + c3) H1 σ G _ (L1.le (by omega)) hx _ fun lo H2 hl L2 e2 => ?_
  refine sh P av H0 ed hw n H2 σ G _ (L2.le (by omega)) hl _ fun hi H3 hh L3 e3 => ?_
  have r3 := (r1.ext e2 fun _ => L2.isAvo).ext e3 fun _ => L3.isAvo
  have e13 := e1.trans (e2.trans e3)
  obtain ⟨xd, rfl, hh⟩ := onL_of hh
  obtain ⟨p, xs, rfl, n1, r⟩ := r3
  refine .inr ⟨p, xs, rfl, n1.sq, fun z hz => ?_⟩
  have nz : ¬ P.is z := fun y => P.al L3.ok y hz
  refine q z _ _ _ hh (L3.new hz) (e13.trans (.new hz)) (e13.none nz hz) upd_same ?_
  exact (rps_cut r lo hi).ext (is := P.is) (.new hz) (fun _ => L3.isAvo) (avp_of hz)
/-! ### a new list given back -/
def wRetF (w : WL) : WS := fun G De => w (frzG G) De.ex De.rf
theorem ds_retF (h : DF X K W c e wl) : DS X K W c (.Return (some e) pos) (wRetF wl) := by
  obtain ⟨te, pe, s⟩ := h
  refine ⟨_, fun i => ps_ret (pe i), fun P av H0 De hw n H σ G L h D dd => ?_⟩
  obtain ⟨L', no⟩ := L.frzAll
  refine s P av H0 _ hw n H σ _ _ L' h _ fun p xs H' ds hd L2 e' hn hp r => ?_
  have nz : ¬ P.is p := fun y => P.al L.ok y hn
  exact dd.rf p xs H' ds hd L2.ext L2.ok (L.ext.none nz hn) hp (r.ext (is := fun _ => False) (.refl _ _) (fun _ z => z.elim) fun _ _ z => z.elim (fun z => .inl (.inl z)) .inr)
abbrev WFN := List D → (Value → Prop) → (List D → Prop) → Prop
def spNew (K : Fg) (np : Nat) (Wf : WFN) : Sp := fun vs H Q E => vs.length = np ∧ ∃ (av : Av) (ds : List D) (ed : Value → Prop) (Qd : List D → Prop), (∀ a, av a → H a ≠ none) ∧ Rps K av H vs ds ∧ Wf ds ed Qd ∧ (∀ cls H', ed cls → Ex H H' → E cls none H') ∧ ∀ p xs H' ds, Qd ds → Ex H H' → H p = none → H' p = some (.lst xs) → Rps K (avp av p) H' xs ds → Q (.ref p) H'
structure DFnN (P : Program) (w : World) (K : Fg) (mg : Str → Option Value) (base : Heap) (x : Str) (k np : Nat) (Wf : WFN) : Prop where
  len : ∀ ds ed Q, Wf ds ed Q → ds.length = np
  ex : ∃ (f : Addr) (fd : FuncData) (ps : List Str), mg x = some (.ref f) ∧ PySem.W.keepIn K (.ref f) = true ∧ Binds K fd ps [] ∧ FnOk P w K mg base (L2.CX P w) k f fd ps (spNew K np Wf)
theorem DFnN.dfn {P : Program} {w : World} {K : Fg} {mg : Str → Option Value} {base : Heap} {x : Str} {k np : Nat} {Wf : WFN} {Wg : WF} (F : DFnN P w K mg base x k np Wf) (hlen : ∀ ds ed Q, Wg ds ed Q → ds.length = np) (h : ∀ ds ed Q, Wg ds ed Q → Wf ds ed fun es => Q (.lst es)) : DFn P w K mg base x k np Wg := by
  obtain ⟨f, fd, ps, h1, h2, h3, h4⟩ := F.ex
  refine ⟨hlen, f, fd, ps, h1, h2, h3, h4.imp fun vs H Q E z => ?_⟩
  obtain ⟨hl, av, ds, ed, Qd, ha, r, hw, hE, hQ⟩ := z
  exact ⟨hl, av, ds, ed, _, ha, r, h _ _ _ hw, hE, fun p xs H' es hd ex h0 h1 r' => hQ _ H' _ hd ex (rp_fresh ha h0 h1 r')⟩
def nEnds (ed : Value → Prop) (Q : List D → Prop) : DEnds := ⟨fun _ => False, fun _ => False, fun _ => False, fun _ => False, ed, Q⟩
theorem dfnN_of {P : Program} {w : World} {K : Fg} {mg : Str → Option Value} {base : Heap} {x : Str} {st : Stmt} {f : Addr} {fd : FuncData} {N ps : List Str} {k np : Nat} {Wf : WFN} {wb : WS} {c : Nat} (F : Fun K x x st f fd) (S : FnScope N ps (defScope st)) (g : mg x = some (.ref f)) (b : Binds K fd ps []) (hnp : ps.length = np)
    (hlen : ∀ ds ed Q, Wf ds ed Q → ds.length = np)
    (hbody : ∀ (cdv : Value) (A : Around) (outer : List Env) (s : Shared) (H : Hp) (E : XK), Room k (A.deeper (envOfC x (defScope st) s.heap.objs.size f cdv)) →
      DSs (fun _ : Unit => cxOf (L2.CX P w) P w K mg base N x (defScope st) f cdv A outer s H E) K ⟨fun cls d _ H => E cls d H, fun _ => True⟩ c (defBody st) wb)
    (hw : ∀ ds ed Q, Wf ds ed Q → wb (startG N ds) (nEnds ed Q)) : DFnN P w K mg base x (k + 1) np Wf := by
  refine ⟨hlen, f, fd, ps, g, F.kp, b, ?_⟩
  refine F.okX S (fun vs H Q E h => by rw [h.1, hnp]) fun cdv A outer s H vs Q E hr h => ?_
  obtain ⟨hl, av, ds, ed, Qd, ha, r, hwf, hE, hQ⟩ := h
  obtain ⟨ts, pss, sem⟩ := hbody cdv A outer s H E hr
  refine ⟨ts, pss (), ?_⟩
  exact sem noPen av H (nEnds ed Qd) ⟨trivial, fun cls σ H' hc ex => hE cls H' hc fun a o hh => ex a o (fun z => z) hh⟩ 0 H _ _ (loc_start ha r) (hw ds ed Qd hwf) _ ⟨fun _ _ _ z => z.elim, fun _ _ _ z => z.elim, fun _ _ _ z => z.elim, fun _ _ _ z => z.elim, fun p xs H' ds h' e' _ h0 h1 r' => hQ p xs H' _ h' (fun a o hh => e' a o (fun z => z) hh) h0 h1 r'⟩
def wCallN (Wf : WFN) (wl : WL) : WL := fun G ed Q => wl G ed fun ds => Wf ds ed Q
theorem df_callN {P : Program} {w : World} {mg : Str → Option Value} {base : Heap} {x : Str} {k kk np : Nat} {Wf : WFN} (F : DFnN P w K mg base x k np Wf) (hF : Fam X P w K mg base) (tk : ∀ i, Takes (X i) W.w) (hr : ∀ i, Room kk (X i).A) (h : DA X K W c (e :: es) wl) (hk : k ≤ kk := by decide) 
    (hg : ∀ i, Gl (X i) x := by intro _; rfl) (hdb : (x == ("__debug__" : Str)) = false := by decide) (he : ∀ i, starEach (e :: es) (X i).env = (false, eval e (X i).env) :: starEach es (X i).env := by intro _; rfl) (hpl : ∀ i, (backTo pos (starEach es (X i).env)).any (·.1) = false := by intro _; rfl) :
    DF X K W c (.Call (.Name x p) (e :: es) [] pos) (wCallN Wf wl) := by
  obtain ⟨ta, pa, s⟩ := h
  obtain ⟨f, fd, ps, h1, h2, h3, h4⟩ := F.ex
  refine ⟨tCallS (spNew K np Wf) (L2.WE W.w) ta, fun i => ?_, fun P' av H0 ed hw n H σ G Qd L h Q q => ?_⟩
  · obtain ⟨e1, e2, e3, e4, e5⟩ := hF i
    subst e1; subst e2; subst e3; subst e4; subst e5
    exact pe_callS (h4.mono (Nat.le_refl _)) ((hr i).mono hk) (hg i) h1 h2 h3 (fun σ => passAt (tk i) σ) (pa i) hdb (he i) (hpl i)
  · refine s P' av H0 ed hw n H σ G _ L h _ fun vs H1 ds hd L1 e1 r1 => ?_
    refine ⟨by rw [r1.len]; exact F.len ds ed Qd hd, avo av σ G, ds, ed, Qd, fun _ => L1.avoNe, r1, hd, fun cls H' hc ex => ?_, fun p xs H' ds hd ex h0 h1 r => ?_⟩
    · exact hw.2 cls σ H' hc (L1.ext.trans (Ex.ext ex))
    · have nz : ¬ P'.is p := fun y => P'.al L1.ok y h0
      exact q p xs H' ds hd (L1.growEx ex) (e1.trans (Ex.ext ex)) (e1.none nz h0) h1 r
/-! ### x.extend(e) -/
def wExt (i : Nat) (w : WE) : WS := fun G De => owS G[i]? fun ds => w G De.ex fun d => onL d fun es => ds.length + es.length ≤ sizeLine ∧ De.nx (G.set i (.own (.lst (ds ++ es))))
theorem ds_extend {i : Nat} (hK : ∀ i, (X i).K = K) (hp : ∀ j, PE (X j) a (tVar i)) (h : DE X K W c e w)
    (hbase : ∀ i, attributeBase a "extend" (X i).env (eval a (X i).env) = eval a (X i).env := by intro _; rfl)
    (hfew : ∀ i, ((backTo cpos (starEach [e] (X i).env)).all (fun x => !x.1) && (backToKw cpos (keywordEach [] (X i).env)).all (fun x => x.1.isSome) && decide ([e].length + ([] : List Keyword).length + (if ([] : List Keyword).isEmpty then 0 else 1) < 30)) = true := by intro _; rfl)
    (hline : (apos.endLine == cpos.line) = true := by rfl) (hs : ∀ i, starEach [e] (X i).env = (false, eval e (X i).env) :: starEach [] (X i).env := by intro _; rfl)
    (hw : ∀ i, swapsWith (.Call (.Attribute a "extend" apos) [e] [] cpos) none pos.line (X i).env = pure false := by intro _; rfl) : DS X K W c (.Expr (.Call (.Attribute a "extend" apos) [e] [] cpos) pos) (wExt i w) := by
  obtain ⟨te, pe, s⟩ := h
  refine ⟨tDrop (tBM K "list" rExtend (tVar i) (tCons te tNil)), fun j => ps_expr (by rw [← hK j]; exact pe_bm PySem.F.plainAttrs_list PySem.F.slot_list_extend PySem.F.type_list_extend mt_extend (hp j) (pa_cons (pe j) pa_nil (hs j)) (hbase j) (hfew j) hline (hs j)) (hw j), fun P av H0 De hw n H σ G L h D dd => ?_⟩
  obtain ⟨ds, q, h⟩ := owS_of h
  obtain ⟨o, e1, l, _, xs, _, e2, e3, sh, r⟩ := L.sl i _ q
  subst e2
  cases sh
  refine ⟨_, e1, .inl ⟨rfl, xs, .inl (.inl e3)⟩, ?_⟩
  refine s P av H0 _ hw n H σ G _ L h _ fun v H' d hd L2 e' rv => ?_
  obtain ⟨es, rfl, hz, hd⟩ := onL_of hd
  have e4 := e' l _ (L.ownIs ⟨i, _, q, e1⟩) e3
  obtain ⟨o', f1, l', _, xs', _, f2, f3, sh', r'⟩ := L2.sl i _ q
  rw [e1] at f1
  cases f1
  cases f2
  cases sh'
  rw [e4] at f3
  cases f3
  cases rv with
  | @lst b zs _ nb rb =>
    obtain ⟨L3, rl⟩ := L2.mut q e1 .lst (r'.append rb)
    exact ⟨l, b, xs, zs, rfl, rfl, e4, nb.1, by rw [r.len, rb.len]; exact hz, dd.nx _ _ _ hd L3 ((Rl.of e' fun _ z => z).trans rl)⟩
end
end DL

namespace DL
open PySem PySem.Spec PyProof.Rows L2
/-! ### enumerate of a tuple -/
abbrev enObj (j : Addr) : Obj := { cls := .type "enumerate", data := .fields #[.none, .bool false, .ref j, rawInt 0, .none, .none] }
theorem en_made {v : Value} {ob : Obj} {Pre : Heap → Prop} (B : Begins v ob Pre) : Meets (Builtin.«enumerate.__new__» ⟨[.type "enumerate", v], []⟩) fun _ R s => Pre s.heap ∧ R (.ok (.ret (.ref (s.heap.push ob).objs.size))) { s with heap := (s.heap.push ob).push (enObj s.heap.objs.size) } := by
  refine .of_wp ?_
  rintro prog w A R ⟨hp, gl, dd, tk, os⟩ ⟨pre, fin⟩
  have isE := sub_enumerate
  have step : ∀ {A' : Around} {E : Value → Shared → Prop} {Q : Value → Shared → Prop}, Q (.ref hp.objs.size) ⟨hp.push ob, gl, dd, tk, os⟩ → wpAny (model prog w) A' (pyIter v) Q E ⟨hp, gl, dd, tk, os⟩ := fun q => B.iter prog w _ _ ⟨hp, gl, dd, tk, os⟩ _ pre q
  wp_walk
  refine wpAny_stack_any fun _ => wpAny_pure ?_
  split
  · rename_i k _ _ _ _ _
    cases (k == Value.type "enumerate") <;> (wp_walk using step; exact ⟨_, rfl, fin⟩)
  · wp_walk using step
    exact ⟨_, rfl, fin⟩
theorem en_begins {prog : Program} {w : World} {A : Around} {E : Value → Shared → Prop} {s : Shared} {v : Value} {ob : Obj} {Pre : Heap → Prop} {Q : Value → Shared → Prop} (B : Begins v ob Pre) (pre : Pre s.heap)
    (fin : ∀ h', IsEnum h' (s.heap.objs.size + 1) s.heap.objs.size 0 .none → h'.get? s.heap.objs.size = some ob → (∀ b o, s.heap.get? b = some o → h'.get? b = some o) → Q (.ref (s.heap.objs.size + 1)) { s with heap := h' }) :
    wpAny (model prog w) A (call (.type "enumerate") [v]) Q E s := by
  have sz : (s.heap.push ob).objs.size = s.heap.objs.size + 1 := Heap.size_push ..
  have top := Heap.get?_push_size (s.heap.push ob) (o := enObj s.heap.objs.size) rfl
  rw [sz] at top
  refine callType_new F.called_enumerate (by decide) (F.typeCall_enumerate_1 _) (F.newCall_enumerate_1 _) (fun obj => F.args_object_init_2 obj _) F.entry_enumerate_new (en_made B) ⟨pre, ?_⟩
  rw [sz]
  exact ⟨⟨_, top, rfl⟩, fin _ top (Heap.get?_push_of_some _ (Heap.get?_push_size _ B.free)) fun b o z => Heap.get?_push_of_some _ (Heap.get?_push_of_some _ z)⟩
def ItE (K : Fg) (a : Addr) : It where
  go := fun i H => ∃ (ys : List V) (y : V), SqT K H a ys ∧ ys[i]? = some y
  yld := fun i H v H' => ∃ T y, v = .ref T ∧ H T = none ∧ H' = upd H T (.tup [.int (i : Nat), y]) ∧ ∀ ys, SqT K H a ys → ys[i]? = some y
  stop := fun i H => ∃ ys : List V, SqT K H a ys ∧ ys.length = i
theorem ofTwo {c e j : Addr} (m : c ∈ [e, j]) : c = e ∨ c = j := by simpa using m
theorem turn_enT {P : Program} {w : World} {K : Fg} {elts : List Expr} {kk : Nat} {tpos : Pos} {a e j : Addr} (ej : e ≠ j) (aj : a ≠ j) (ae : a ≠ e) :
    Turn P w K (.Tuple elts kk tpos) (ItE K a) [e, j] e (fun i h => (∃ z, IsEnum h e j ((i : Nat) : Int) z) ∧ h.IsTupleIter j a i) where
  mem := by simp
  obj := fun i h st c m => by
    obtain ⟨⟨z, s1⟩, u2, e2, _, d2⟩ := st
    rcases ofTwo m with rfl | rfl
    · exact ⟨_, s1, fun _ z => nomatch z⟩
    · exact ⟨u2, e2, fun _ z => by rw [d2] at z; cases z⟩
  keep := fun i h h' st k => by
    obtain ⟨⟨z, s1⟩, s5⟩ := st
    exact ⟨⟨z, k e (by simp) _ s1⟩, s5.at fun o q => k j (by simp) o q⟩
  item := by
    rintro X rfl rfl rfl hc i pins s σ H E I hf ⟨⟨z, s1⟩, s5⟩ ⟨ys, y, g1, g3⟩
    obtain ⟨its, rv, tb, _⟩ := I.tuple g1
    obtain ⟨u, hu, ru⟩ := rv.get g3
    have el : e < s.heap.objs.size := Heap.lt_size s1
    have l2 : i < its.toArray.size := by have := (List.getElem?_eq_some_iff.mp hu).1; simpa using this
    have hd : X.A.in1.handled = none := I.ok.hd hc
    have Dw := Draws.tuple (prog := X.prog) (w := X.w) hd j a aj its.toArray
    have nf : e ∉ [j, a] := fun m => by
      have : e = j ∨ e = a := by simpa using m
      exact this.elim ej fun q => ae q.symm
    refine wpAny_pyNext_enum_itemD Dw s1 ⟨s5, tb⟩ l2 ej nf fun v h1 tk y1 b1 b2 b3 b4 b5 => ?_
    have ev : v = u := by
      have y1 : its.toArray[i]? = some v := y1
      rw [List.getElem?_toArray, hu] at y1
      exact (Option.some.inj y1).symm
    subst ev
    refine ⟨_, rfl, wpAny_letOwnedTupleGo_enum (s := { s with heap := h1, toks := tk + 1 }) b1 fun h2 c1 sb => ?_⟩
    have pr : h2.get? s.heap.objs.size = some { cls := .type "tuple", data := .seq #[.int i tk, v] } := (sb.2 _ (Nat.ne_of_gt el)).trans b3
    have new : ObjOk X.prog X.w (upd H s.heap.objs.size (.tup [.int (i : Nat), y])) h2 s.heap.objs.size (.tup [.int (i : Nat), y]) :=
      ⟨by show 2 ≤ sizeLine; decide, [.int i tk, v], .cons ⟨_, rfl⟩ (.cons ru .nil), _, pr, rfl, _, rfl⟩
    have old : ∀ c o, c ∉ [e, j] → s.heap.get? c = some o → h2.get? c = some o := fun c o no q => (sb.2 c (fun r => no (by simp [r]))).trans (b5 c o (fun r => no (by simp [r])) (fun r => no (by simp [r])) q)
    have I1 : Inv X pins σ (upd H s.heap.objs.size (.tup [.int (i : Nat), y])) { s with heap := h2, toks := tk + 1 } := I.turnedNew (t' := tk + 1) (ch := [e, j]) old hf (Nat.le_refl _) new
    refine ⟨.ref s.heap.objs.size, _, I1, rfl, ⟨_, y, rfl, I.hok.fresh (Nat.le_refl _), rfl, fun l hl => by rw [I.tuple_inj hl g1]; exact g3⟩, ⟨⟨v, ?_⟩, ?_⟩, fun c m => ?_⟩
    · rw [show ((i + 1 : Nat) : Int) = (i : Int) + 1 by omega]
      exact c1
    · exact b2.1.at fun o q => (sb.2 j (Ne.symm ej)).trans q
    · have lt : c < s.heap.objs.size := by
        obtain ⟨u2, e2, _⟩ := s5
        rcases ofTwo m with rfl | rfl
        · exact el
        · exact Heap.lt_size e2
      rw [upd_ne (Nat.ne_of_lt lt)]
      exact (hf c m).1
  done := by
    rintro X rfl rfl rfl hc i pins s σ H E I hf ⟨⟨z, s1⟩, s5⟩ ⟨ys, g1, g2⟩
    obtain ⟨its, rv, tb, _⟩ := I.tuple g1
    have e2 : its.toArray.size = i := by have := rv.length; simp; omega
    have hd : X.A.in1.handled = none := I.ok.hd hc
    have Dw := Draws.tuple (prog := X.prog) (w := X.w) hd j a aj its.toArray
    rw [e2] at Dw
    refine wpAny_pyNext_enum_endD Dw s1 ⟨s5, tb⟩ fun h1 old => ?_
    exact ⟨rfl, I.turnedL (t' := s.toks) (ch := [e, j]) (fun c o no q => old c o (fun r => no (by simp [r])) q) hf⟩
  self := fun A i s Q E st h => let ⟨⟨_, z⟩, _⟩ := st; wpAny_pyIter_enum z h
def iEnT (K : Fg) (ta : TA) : TI := fun σ H R => ta σ H fun vs H1 => ∃ a ys, vs = [.ref a] ∧ ((SqL K H1 a ys ∧ R (Ite K a) H1) ∨ (SqT K H1 a ys ∧ R (ItE K a) H1))
theorem pi_enT {X : Cx} {e : Expr} {ta : TA} {p pos tpos : Pos} {elts : List Expr} {kk : Nat} (hg : Gl X "enumerate") (hm : X.mg "enumerate" = none) (ha : PA X [e] ta) (hs : starEach [e] X.env = [(false, eval e X.env)] := by rfl) :
    PI X (.Tuple elts kk tpos) (.Call (.Name "enumerate" p) [e] [] pos) (iEnT X.K ta) := by
  constructor
  intro pins s σ H R I hyp
  refine Call_ (ld_blt I hg hm boot_enumerate (PyProof.Rows.callWith_type1 (thn (ha.run pos pins s σ H _ I hyp) ?_) hs rfl))
  rintro us s1 ⟨vs, H1, I1, r1, a, ys, rfl, sq⟩
  cases r1 with
  | cons r rr =>
    cases rr
    cases r
    have new : ∀ b, b ∈ [s1.heap.objs.size + 1, s1.heap.objs.size] → s1.heap.objs.size ≤ b := fun b m => by
      rcases ofTwo m with rfl | rfl
      · exact Nat.le_add_right _ _
      · exact Nat.le_refl _
    rcases sq with ⟨sq, q⟩ | ⟨sq, q⟩
    · obtain ⟨its, rv, tb, _⟩ := I1.list sq
      refine call_enumerate_list tb.isList fun h' a1 a2 _ up => wpAny_pyIter_enum a1 ?_
      exact ⟨s1.heap.objs.size + 1, [s1.heap.objs.size + 1, s1.heap.objs.size], _, _, H1, rfl, I1.kept (t' := s1.toks) up, turn_enum a (s1.heap.objs.size + 1) s1.heap.objs.size, ⟨⟨.none, a1⟩, a2, Nat.succ_ne_self _⟩, fun b m => I1.fpOk (new b m) (I1.hok.fresh (new b m)), q⟩
    · obtain ⟨its, rv, tb, _⟩ := I1.tuple sq
      obtain ⟨ob, eb, _⟩ := id tb
      have bl := Heap.lt_size eb
      refine en_begins (begins_tuple a its.toArray) tb fun h' a1 a2 up => wpAny_pyIter_enum a1 ?_
      exact ⟨s1.heap.objs.size + 1, [s1.heap.objs.size + 1, s1.heap.objs.size], _, _, H1, rfl, I1.kept (t' := s1.toks) up, turn_enT (Nat.succ_ne_self _) (Nat.ne_of_lt bl) (Nat.ne_of_lt (Nat.lt_succ_of_lt bl)), ⟨⟨.none, a1⟩, ⟨_, a2, rfl, rfl⟩⟩, fun b m => I1.fpOk (new b m) (I1.hok.fresh (new b m)), q⟩
section
variable {K : Fg} {av : Av} {P : Pn} {H : Hp} {a : Addr} {xs : List V} {ds : List D}
theorem walks_enT (n : NT K av H a xs) (r : Rps K av H xs ds) : Walks P K av H (ItE K a) (enum ds) := by
  have el : (enum ds).length = xs.length := by unfold enum; rw [List.length_map, List.length_zipIdx, r.len]
  refine ⟨fun H => SqT K H a xs, YPair (fun i => some (.int (i : Nat))) (fun i => xs[i]?), ?_, fun H' e => (n.ext e (fun _ z => z) (fun _ _ z => z)).sq, fun i x H1 H2 av2 hi h2 ha e y => ?_⟩
  · rw [el]
    refine ⟨fun i H' hi q => ⟨xs, xs[i], q, by simp [hi]⟩, fun H' q => ⟨xs, q, rfl⟩, fun i H1 v H2 hi q y => ?_⟩
    obtain ⟨T, y, k1, k2, k3, k5⟩ := y
    exact ⟨T, .int (i : Nat), y, k1, k2, k3, rfl, k5 xs q⟩
  · obtain ⟨T, u, v, rfl, nT, rfl, hu, hv⟩ := y
    cases hu
    rw [el, r.len] at hi
    obtain ⟨d, hd⟩ : ∃ d, ds[i]? = some d := ⟨_, List.getElem?_eq_getElem hi⟩
    obtain ⟨v', e1, e2⟩ := r.get hd
    rw [show xs[i]? = some v from hv] at e1
    cases e1
    refine ⟨.tup [.int (i : Nat), d], ?_, ex_new nT, .tup (.inl ⟨upd_same, fun z => ha T z nT⟩) (.cons (.int _) (.cons ?_ .nil))⟩
    · unfold enum
      rw [List.getElem?_map, List.getElem?_zipIdx, hd]
      simp
    · exact (e2.ext e (fun _ z => z) h2 : Rp K av2 H1 v d).ext (is := fun _ => False) (.new nT) (fun _ z => z.elim) (fun _ _ z => z)
end
def seqA : List D → (List D → Prop) → Prop
  | [.lst xs], Q => Q xs
  | [.tup xs], Q => Q xs
  | _, _ => False
theorem seqA_of {ds : List D} {Q : List D → Prop} (h : seqA ds Q) : ∃ xs, (ds = [.lst xs] ∨ ds = [.tup xs]) ∧ Q xs := by
  unfold seqA at h
  split at h
  · exact ⟨_, .inl rfl, h⟩
  · exact ⟨_, .inr rfl, h⟩
  · exact h.elim
def wEnT (wl : WL) : WL := fun G ed Q => wl G ed fun ds => seqA ds fun xs => Q (enum xs)
section
variable {ι : Type} {X : ι → Cx} {K : Fg} {W : Ctl} {c : Nat} {e : Expr} {wl : WL} {pos p tpos : Pos} {elts : List Expr} {kk : Nat}
theorem di_enT (hK : ∀ i, (X i).K = K) (hm : ∀ i, (X i).mg "enumerate" = none) (h : DA X K W c [e] wl) (hg : ∀ i, Gl (X i) "enumerate" := by intro _; rfl) (hs : ∀ i, starEach [e] (X i).env = [(false, eval e (X i).env)] := by intro _; rfl) :
    DI X K W c (.Tuple elts kk tpos) (.Call (.Name "enumerate" p) [e] [] pos) (wEnT wl) := by
  obtain ⟨ta, pa, s⟩ := h
  refine ⟨iEnT K ta, fun i => (by rw [← hK i]; exact pi_enT (hg i) (hm i) (pa i) (hs i)), fun P av H0 ed hw n H σ G Qd L h R q => s P av H0 ed hw n H σ G _ L h _ fun vs H1 ds hd L1 e1 r => ?_⟩
  obtain ⟨xs, he, hq⟩ := seqA_of hd
  rcases he with rfl | rfl
  · cases r with
    | cons r rr =>
      cases rr
      cases r with
      | lst nn r => exact ⟨_, _, rfl, .inl ⟨nn.sq, q _ _ _ hq L1 e1 (walks_enum nn r)⟩⟩
  · cases r with
    | cons r rr =>
      cases rr
      cases r with
      | tup nn r => exact ⟨_, _, rfl, .inr ⟨nn.sq, q _ _ _ hq L1 e1 (walks_enT nn r)⟩⟩
end
end DL

namespace DL
open PySem PySem.Spec PyProof.Rows L2
section
variable {ι : Type} {X : ι → Cx} {K : Fg} {W : Ctl} {pos : Pos}
/-- {} -/
theorem de_dict0 : DE X K W 0 (.Dict [] [] pos) (wC (.dic [] [])) := by
  refine ⟨tDNewK, fun i => pe_dnewK, fun P av H0 ed hw n H σ G Qd L h Q q p hp => ?_⟩
  exact q _ _ _ h (L.new hp) (.new hp) (.dic (xs := []) ⟨upd_same, fun z => L.avoNe z hp⟩ rfl .nil)
end
end DL

namespace DL
open PySem PySem.Spec PyProof.Rows L2
/-! ### what may be shown: its weight and its depth -/
structure Gd (d : PyData) (wt dp : Nat) : Prop where
  sh : d.showable = true
  nd : d.hasDict = false
  dp : d.depth ≤ dp
  lv : d.leavesShort 13 = true
  wt : d.weight ≤ wt
structure Gds (ds : List PyData) (wt dp : Nat) : Prop where
  sh : PyData.showableAll ds = true
  nd : PyData.hasDictAll ds = false
  dp : PyData.depthAll ds ≤ dp
  lv : PyData.leavesShortAll 13 ds = true
  wt : PyData.weightAll ds ≤ wt
section
variable {wt wt2 dp dp2 : Nat}
theorem Gd.non : Gd .none 0 0 := ⟨rfl, rfl, Nat.le_refl _, rfl, Nat.le_refl _⟩
theorem Gd.bl (b : Bool) : Gd (.bool b) 0 0 := ⟨rfl, rfl, Nat.le_refl _, rfl, Nat.le_refl _⟩
theorem Gd.str {x : Str} (h : ∀ c ∈ x.cps.toList, c < 128) : Gd (.str x) x.cps.size 0 := by
  refine ⟨by rw [PyData.showable], by rw [PyData.hasDict], by rw [PyData.depth]; exact Nat.le_refl _, ?_, by rw [PyData.weight]; exact Nat.le_refl _⟩
  rw [PyData.leavesShort, List.all_eq_true]
  intro c hc
  have := h c hc
  exact decide_eq_true (by omega)
theorem small_ints : ∀ i, i < 64 → ((PyData.int (i : Nat)).showable && (PyData.int (i : Nat)).leavesShort 13 && decide ((PyData.int (i : Nat)).weight ≤ 6)) = true := by decide +kernel
theorem Gd.int {i : Nat} (h : i < 64) : Gd (.int (i : Nat)) 6 0 := by
  have z := small_ints i h
  rw [Bool.and_eq_true, Bool.and_eq_true] at z
  exact ⟨z.1.1, by rw [PyData.hasDict], by rw [PyData.depth]; exact Nat.le_refl _, z.1.2, of_decide_eq_true z.2⟩
theorem Gd.mono {d : PyData} (g : Gd d wt dp) (h : wt ≤ wt2) (k : dp ≤ dp2) : Gd d wt2 dp2 := ⟨g.sh, g.nd, Nat.le_trans g.dp k, g.lv, Nat.le_trans g.wt h⟩
theorem Gds.of : ∀ {ds : List PyData}, (∀ d ∈ ds, Gd d wt dp) → Gds ds ((wt + 1) * ds.length) dp
  | [], _ => ⟨by rw [PyData.showableAll], by rw [PyData.hasDictAll], by rw [PyData.depthAll]; exact Nat.zero_le _, by rw [PyData.leavesShortAll], by rw [PyData.weightAll]; exact Nat.zero_le _⟩
  | d :: ds, h => by
    have a := h d List.mem_cons_self
    have b := Gds.of (ds := ds) fun x hx => h x (List.mem_cons_of_mem _ hx)
    refine ⟨by rw [PyData.showableAll, a.sh, b.sh]; rfl, by rw [PyData.hasDictAll, a.nd, b.nd]; rfl, by rw [PyData.depthAll]; exact Nat.max_le.mpr ⟨a.dp, b.dp⟩, by rw [PyData.leavesShortAll, a.lv, b.lv]; rfl, ?_⟩
    rw [PyData.weightAll, List.length_cons, Nat.mul_succ]
    have := a.wt
    have := b.wt
    omega
theorem Gds.two {x : PyData} {w1 d1 : Nat} (a : Gd x w1 d1) {ys : List PyData} {w2 d2 : Nat} (b : Gds ys w2 d2) : Gds (x :: ys) (w1 + 1 + w2) (max d1 d2) := by
  refine ⟨by rw [PyData.showableAll, a.sh, b.sh]; rfl, by rw [PyData.hasDictAll, a.nd, b.nd]; rfl, ?_, by rw [PyData.leavesShortAll, a.lv, b.lv]; rfl, ?_⟩
  · rw [PyData.depthAll]
    exact Nat.max_le.mpr ⟨Nat.le_trans a.dp (Nat.le_max_left _ _), Nat.le_trans b.dp (Nat.le_max_right _ _)⟩
  · rw [PyData.weightAll]
    have := a.wt
    have := b.wt
    omega
theorem Gds.nil : Gds [] 0 0 := ⟨by rw [PyData.showableAll], by rw [PyData.hasDictAll], by rw [PyData.depthAll]; exact Nat.le_refl _, by rw [PyData.leavesShortAll], by rw [PyData.weightAll]; exact Nat.le_refl _⟩
theorem Gds.lst {ds : List PyData} (g : Gds ds wt dp) : Gd (.list ds) wt (dp + 1) := ⟨by rw [PyData.showable]; exact g.sh, by rw [PyData.hasDict]; exact g.nd, by rw [PyData.depth]; have := g.dp; omega, by rw [PyData.leavesShort]; exact g.lv, by rw [PyData.weight]; exact g.wt⟩
theorem Gds.tup {ds : List PyData} (g : Gds ds wt dp) : Gd (.tuple ds) wt (dp + 1) := ⟨by rw [PyData.showable]; exact g.sh, by rw [PyData.hasDict]; exact g.nd, by rw [PyData.depth]; have := g.dp; omega, by rw [PyData.leavesShort]; exact g.lv, by rw [PyData.weight]; exact g.wt⟩
theorem fRepr_of {d : D} {p : PyData} (hp : pyD d = some p) (g : Gd p wt dp) (hw : wt ≤ 1048576) (hd : dp ≤ 60) {Q : D → Prop} (hq : Q (.str p.shown)) : fRepr [d] Q := by
  show onO (pyD d) _
  rw [hp]
  exact ⟨g.sh, g.nd, Nat.le_trans g.dp hd, PyData.shown_fits (B := 13) (by decide) (by decide) g.lv (Nat.le_trans g.wt hw), hq⟩
end
end DL

namespace DL
open PySem PySem.Spec PyProof.Rows L2
open PySem.W (EachIs AllAlike Sortable dataLe)
/-! ### sorted of data, any number of them -/
abbrev VP := V × PyData
def SortOk (ps : List PyData) : Prop := AllAlike ps ∧ Sortable ps ∧ ∀ p ∈ ps, p.depth ≤ 60
abbrev byP : VP → VP → Bool := dataLe false Prod.snd
theorem each_vals {R : V → PyData → Prop} : ∀ {us : List Value} {bs : List VP}, EachIs (fun u b => RelV b.1 u) us bs → Vals (bs.map Prod.fst) us
  | _, _, .nil => .nil
  | _, _, .cons h t => .cons h (each_vals (R := R) t)
theorem vals_each : ∀ {us : List Value} {bs : List VP}, Vals (bs.map Prod.fst) us → EachIs (fun u b => RelV b.1 u) us bs
  | [], [], _ => .nil
  | _ :: _, [], h => nomatch h
  | [], _ :: _, h => nomatch h
  | _ :: _, _ :: _, .cons h t => .cons h (vals_each t)
section
variable {X : Cx}
theorem reads_each {pins : List (Addr × Obj)} {σ : Sg} {H : Hp} {s : Shared} (I : Inv X pins σ H s) : ∀ {us : List Value} {bs : List VP}, Vals (bs.map Prod.fst) us → DpAll X.K H (bs.map Prod.fst) (bs.map Prod.snd) → EachIs (fun u b => ∃ as, Reads s.heap u b.2 as) us bs
  | [], [], _, _ => .nil
  | _ :: _, [], h, _ => nomatch h
  | [], _ :: _, h, _ => nomatch h
  | _ :: _, _ :: _, .cons h t, .cons k r => .cons (Dp.reads I _ _ _ k h) (reads_each I t r)
def rSortData (K : Fg) : List V → Hp → VK → Prop := fun vs H Q => ∃ (a : Addr) (bs : List VP), vs = [.ref a] ∧ SqL K H a (bs.map Prod.fst) ∧ DpAll K H (bs.map Prod.fst) (bs.map Prod.snd) ∧ SortOk (bs.map Prod.snd) ∧
  ∀ p, H p = none → Q (.ref p) (upd H p (.lst ((bs.mergeSort byP).map Prod.fst)))
theorem call_sortData {k : Nat} (hr : Room k X.A) : CallR X (.builtin "sorted") (rSortData X.K) := by
  intro pins s σ H xs us Q I r h
  obtain ⟨a, bs, rfl, hs, hd, ⟨h1, h2, h3⟩, q⟩ := h
  obtain ⟨its, rv, hl, hz⟩ := I.list hs
  rw [Vals.ref1 r]
  rw [List.length_map] at hz
  refine PySem.W.sorted_data (bs := bs) (R := fun u b => RelV b.1 u) (enc := Prod.snd) hl.isList (vals_each rv) (reads_each I rv hd) h1 h2 hz (fun b hb => ?_) fun out ho eo => ?_
  · have := h3 b.2 (List.mem_map_of_mem hb)
    have := hr.units
    omega
  · obtain ⟨ep, he⟩ := PyProof.Rows.sortedAll_at s.heap its out.toArray
    have ev := each_vals (R := fun _ _ => True) eo
    have hlen : ((bs.mergeSort byP).map Prod.fst).length ≤ sizeLine := by rw [List.length_map, List.length_mergeSort]; exact hz
    exact ⟨.ref _, upd H (s.heap.objs.size + 1) (.lst ((bs.mergeSort byP).map Prod.fst)), I.laid (t' := s.toks) (fun _ _ => PyProof.Rows.sortedAll_old) (Nat.le_succ _) ⟨hlen, out, ep, ev, he⟩, rfl, q _ (I.hok.fresh (Nat.le_succ _))⟩
/-- sorted(d), d a dict: its keys -/
def kP : Key → PyData
  | .inl i => .int i
  | .inr z => .str z
def rSortKeys : List V → Hp → VK → Prop := fun vs H Q => ∃ (a : Addr) (kvs : List (Key × V)), vs = [.ref a] ∧ Rd H a (.dK kvs) ∧ SortOk (kvs.map fun p => kP p.1) ∧
  ∀ p, H p = none → Q (.ref p) (upd H p (.lst (((kvs.map fun p => (kV p.1, kP p.1)).mergeSort byP).map Prod.fst)))
theorem key_rel {k : Key} {v : Value} (h : keyIs k v = true) : RelV (kV k) v := by
  rcases keyIs_shape h with ⟨i, t, ek, ev⟩ | ⟨z, t, ek, ev⟩
  · subst ek; subst ev
    exact ⟨t, rfl⟩
  · subst ek; subst ev
    exact ⟨t, rfl⟩
theorem vals_keys : ∀ {acc : List Value} {ks : List Key}, acc.length = ks.length → (∀ (j : Nat) (v : Value), acc[j]? = some v → ∃ k, ks[j]? = some k ∧ keyIs k v = true) → Vals (ks.map kV) acc
  | [], [], _, _ => .nil
  | [], _ :: _, h, _ => nomatch h
  | _ :: _, [], h, _ => nomatch h
  | u :: us, k :: ks, h, g => by
    obtain ⟨k', e, hk⟩ := g 0 u rfl
    cases e
    exact .cons (key_rel hk) (vals_keys (Nat.succ.inj h) fun j v e => by
      obtain ⟨k2, e2, h2⟩ := g (j + 1) v (by simpa using e)
      exact ⟨k2, by simpa using e2, h2⟩)
theorem dp_keys {K : Fg} {H : Hp} : ∀ ks : List Key, DpAll K H (ks.map kV) (ks.map kP)
  | [] => .nil
  | .inl i :: r => .cons (.int i) (dp_keys r)
  | .inr z :: r => .cons (.str z) (dp_keys r)
theorem call_sortKeys {k : Nat} (hcalm : X.calm = true) (hr : Room k X.A) : CallR X (.builtin "sorted") rSortKeys := by
  intro pins s σ H xs us Q I r h
  obtain ⟨a, kvs, rfl, hd, ⟨h1, h2, h3⟩, q⟩ := h
  obtain ⟨u, rfl, rx⟩ := vals1 r
  cases rx
  obtain ⟨z, lo, vs, rel, dd⟩ := dk_rd I.hok hd
  obtain ⟨ep, hat⟩ := dd.dictAt
  have hkeys : vs.map (·.1) = kvs.map (·.1) := rel.keys.symm
  have hl : vs.length = kvs.length := by
    have e := congrArg List.length hkeys
    rw [List.length_map, List.length_map] at e
    exact e
  have h16 : vs.length ≤ sizeLine := by rw [hl]; exact z
  refine Calls.call_function_entry PyProof.Rows.kind_sorted PyProof.Rows.plain_sorted PyProof.Rows.entry_sorted (PyProof.Rows.args_sorted1 _) ?_
  unfold Builtin.«sorted»
  refine wpAny_bind (m := checkCount "sorted" 1 1 _) (wpAny_pure ?_)
  refine wpAny_bind (PySem.W.kdu_collect (A := X.A.in1) (PySem.W.kdl_dict (knd := mixKind X.prog X.w) (kvs := vs) (ep := ep) lo) (I.ok.hd hcalm) hat h16 fun h' tk acc hk hacc => ?_)
  have hal : acc.toList.length = kvs.length := by rw [Array.length_toList, hacc.1, hl]
  have hS : Vals (kvs.map fun p => kV p.1) acc.toList := by
    have := vals_keys (acc := acc.toList) (ks := kvs.map (·.1)) (by rw [hal, List.length_map]) fun j v e => by
      obtain ⟨k, x, e1, e2⟩ := hacc.2 j v (by rw [← Array.getElem?_toList]; exact e)
      have e3 : (vs.map (·.1))[j]? = some k := by rw [List.getElem?_map, e1]; rfl
      rw [hkeys] at e3
      exact ⟨k, e3, e2⟩
    rw [List.map_map] at this
    exact this
  have I1 : Inv X pins σ H { s with heap := h', toks := tk } := I.kept hk
  refine wpAny_bind (wpAny_newList ?_ (by rw [hal]; exact z))
  have hoL : (h'.push (seqObj "list" acc.toList.toArray 0)).get? h'.objs.size = some (seqObj "list" acc.toList.toArray 0) := Heap.get?_push_size _ rfl
  show wpAny _ _ _ _ _ { s with heap := h'.push (seqObj "list" acc.toList.toArray 0), toks := tk }
  have hbs : (kvs.map fun p => kV p.1) = ((kvs.map fun p => (kV p.1, kP p.1)).map Prod.fst) := by rw [List.map_map]; rfl
  have hps : (kvs.map fun p => kP p.1) = ((kvs.map fun p => (kV p.1, kP p.1)).map Prod.snd) := by rw [List.map_map]; rfl
  have hbl : (kvs.map fun p => (kV p.1, kP p.1)).length = kvs.length := List.length_map ..
  rw [hbs] at hS
  rw [hps] at h1 h2 h3
  have hatom : ∀ b ∈ (kvs.map fun p => (kV p.1, kP p.1)), ∃ k, b = (kV k, kP k) := fun b hb => by
    obtain ⟨p, _, rfl⟩ := List.mem_map.mp hb
    exact ⟨p.1, rfl⟩
  generalize (kvs.map fun p => (kV p.1, kP p.1)) = bs at hS h1 h2 h3 hbl hatom q
  refine wpAny_bind (wpAny_holding (PySem.W.list_sort_data (bs := bs) (R := fun u b => RelV b.1 u) (enc := Prod.snd) (vs := acc.toList) (n := 0) hoL (vals_each hS) ((PySem.W.each_mem (vals_each hS)).mono fun u b ⟨hr, hb⟩ => ?_) h1 h2 (by rw [hbl]; exact z) (fun b hb => ?_) fun out ho eo => ?_))
  · have := h3 b.2 (List.mem_map_of_mem hb)
    have := hr.units
    show X.A.units + 1 + 1 + b.2.depth < cLine
    omega
  · obtain ⟨ep, he⟩ := PyProof.Rows.sortedHeap_at (vs := acc.toList) (out := out.toArray) hoL
    have ev := each_vals (R := fun _ _ => True) eo
    have hlen : ((bs.mergeSort byP).map Prod.fst).length ≤ sizeLine := by rw [List.length_map, List.length_mergeSort, hbl]; exact z
    refine wpAny_pure ⟨_, rfl, .ref h'.objs.size, upd H h'.objs.size (.lst ((bs.mergeSort byP).map Prod.fst)), I1.laid (t' := tk) (fun b u e => ?_) (Nat.le_refl _) ⟨hlen, out, ep, ev, he⟩, rfl, q _ (I1.hok.fresh (Nat.le_refl _))⟩
    have hb : b < h'.objs.size := Heap.lt_size e
    rw [PyProof.Rows.sortedHeap_old (Nat.ne_of_lt hb) (by rw [size_push']; exact Nat.lt_succ_of_lt hb)]
    exact Heap.get?_push_of_some _ e
  · obtain ⟨k, rfl⟩ := hatom b hb
    cases k with
    | inl i => obtain ⟨t, rfl⟩ := hr; exact ⟨[], .int _ _, by simp⟩
    | inr i => obtain ⟨t, rfl⟩ := hr; exact ⟨[], .str _ _, by simp⟩
/-- sorted(xs, key=len), xs texts -/
def rSortLen (K : Fg) : List V → Hp → VK → Prop := fun vs H Q => ∃ (a : Addr) (zs : List Str), vs = [.ref a] ∧ SqL K H a (zs.map V.str) ∧ (∀ z ∈ zs, z.length ≤ sizeLine) ∧
  ∀ p, H p = none → Q (.ref p) (upd H p (.lst ((zs.mergeSort fun x y => decide ((x.length : Int) ≤ y.length)).map V.str)))
theorem strs_each : ∀ {us : List Value} {zs : List Str}, Vals (zs.map V.str) us → EachIs (fun u z => ∃ t, u = Value.str z t) us zs
  | [], [], _ => .nil
  | _ :: _, [], h => nomatch h
  | [], _ :: _, h => nomatch h
  | _ :: _, _ :: _, .cons h t => .cons h (strs_each t)
theorem each_strs : ∀ {us : List Value} {zs : List Str}, EachIs (fun u z => ∃ t, u = Value.str z t) us zs → Vals (zs.map V.str) us
  | _, _, .nil => .nil
  | _, _, .cons h t => .cons h (each_strs t)
theorem pe_sortLen {k : Nat} {p q kp pos : Pos} {e : Expr} {t : TA} (hr : Room k X.A) (hg : Gl X "sorted") (hm : X.mg "sorted" = none) (hgl : Gl X "len") (hml : X.mg "len" = none) (ha : PA X [e] t)
    (he : backTo pos (starEach [e] X.env) = (false, eval e X.env) :: backTo pos (starEach [] X.env) := by rfl) (hpl : (backTo pos (starEach [e] X.env)).any (·.1) = false := by rfl) :
    PE X (.Call (.Name "sorted" p) [e] [⟨some "key", .Name "len" q, kp⟩] pos) (tCB (rSortLen X.K) t) := by
  refine ⟨fun pins s σ H Q I h => ?_⟩
  refine wpAny_Call_Name_kw (ld_blt I hg hm (u := .builtin "sorted") (by decide +kernel) ?_)
  refine PyProof.Rows.callWith_kw (thn (ha.run pos pins s σ H _ I h) fun us s1 ⟨vs, H1, I1, r1, q1⟩ => ?_) he hpl (by rfl) (by rfl)
  show wpAny _ _ (evalAll [do let v ← eval (.Name "len" q) X.env; standAt pos; pure v]) _ _ s1
  refine wpAny_evalAll_cons (wpAny_bind (ld_blt I1 hgl hml PySem.boot_len (wpAny_bind (wpAny_standAt (wpAny_pure (wpAny_evalAll_nil ?_))))))
  obtain ⟨a, zs, rfl, hs, hz, q⟩ := q1
  obtain ⟨its, rv, hl, hsz⟩ := I1.list hs
  rw [Vals.ref1 r1]
  rw [List.length_map] at hsz
  show wpAny _ _ (call (.builtin "sorted") [.ref a] [(Str.ofString "key", .builtin "len")]) _ _ s1
  refine PySem.W.sorted_key_data (b := false) (fun z : Str => .int z.length) (bs := zs) (R := fun u z => ∃ t, u = Value.str z t) hl.isList (strs_each rv) (PySem.W.AllAlike.of fun _ _ => by simp [PySem.W.alike]) (PySem.W.Sortable.others fun _ => ⟨by simp, by simp⟩) hsz
    (fun z _ => ?_) (PyProof.Rows.ksk_s1 _ _) (fun _ => PyProof.Rows.ksk_l1 _ _) (fun _ => PyProof.Rows.ksk_t4 _ _) (fun u z hu hm h tk hk => ?_) fun out c h' tk hk hf hD ho eo => ?_
  · have := hr.units
    show X.A.units + 2 + (PyData.int _).depth < cLine
    rw [PyData.depth]
    omega
  · obtain ⟨t, rfl⟩ := hu
    have hz := hz z hm
    have hl := line63
    have hs : sizeLine = 16777216 := sizeLine_eq
    exact len_str (by omega) ⟨_, _, rfl, fun _ _ e => e, .int _ _⟩
  · rw [PySem.W.dataLe_int (fun z : Str => (z.length : Int))] at eo
    have ev := each_strs eo
    have hlen : ((zs.mergeSort fun x y => decide ((x.length : Int) ≤ y.length)).map V.str).length ≤ sizeLine := by rw [List.length_map, List.length_mergeSort]; exact hsz
    exact ⟨.ref _, upd H1 (s1.heap.objs.size + 1) (.lst ((zs.mergeSort fun x y => decide ((x.length : Int) ≤ y.length)).map V.str)), I1.laid (t' := tk) hk (Nat.le_succ _) ⟨hlen, out, c, ev, hD⟩, rfl, q _ (I1.hok.fresh (Nat.le_succ _))⟩
end
end DL

namespace DL
open PySem PySem.Spec PyProof.Rows L2
open PySem.W (EachIs AllAlike Sortable dataLe)
/-! ### sorted, over data -/
def pyO (d : D) : PyData := (pyD d).getD .none
def leD (a b : D) : Bool := dataLe false pyO a b
def sortD (xs : List D) : List D := xs.mergeSort leD
theorem pyDs_map : ∀ {xs : List D} {ps : List PyData}, pyDs xs = some ps → ps = xs.map pyO
  | [], ps, e => by rw [pyDs] at e; cases e; rfl
  | d :: r, ps, e => by
    rw [pyDs] at e
    cases q1 : pyD d with
    | none => rw [q1] at e; exact nomatch e
    | some p =>
      cases q2 : pyDs r with
      | none => rw [q1, q2] at e; exact nomatch e
      | some qs =>
        rw [q1, q2] at e
        cases e
        rw [List.map_cons, ← pyDs_map q2]
        unfold pyO
        rw [q1]
        rfl
abbrev VD := V × D
theorem rps_pair {K : Fg} {av : Av} {H : Hp} : ∀ {xs : List V} {ds : List D}, Rps K av H xs ds → ∃ ts : List VD, xs = ts.map Prod.fst ∧ ds = ts.map Prod.snd ∧ ∀ t ∈ ts, Rp K av H t.1 t.2
  | _, _, .nil => ⟨[], rfl, rfl, fun _ z => nomatch z⟩
  | _, _, .cons h hs => by
    obtain ⟨ts, e1, e2, g⟩ := rps_pair hs
    refine ⟨(_, _) :: ts, by rw [List.map_cons, ← e1], by rw [List.map_cons, ← e2], fun t m => ?_⟩
    rcases List.mem_cons.mp m with rfl | m
    · exact h
    · exact g t m
theorem pair_rps {K : Fg} {av : Av} {H : Hp} : ∀ {ts : List VD}, (∀ t ∈ ts, Rp K av H t.1 t.2) → Rps K av H (ts.map Prod.fst) (ts.map Prod.snd)
  | [], _ => .nil
  | t :: ts, h => .cons (h t List.mem_cons_self) (pair_rps fun u m => h u (List.mem_cons_of_mem _ m))
theorem rps_sort {K : Fg} {av : Av} {H : Hp} {xs : List V} {ds : List D} {ps : List PyData} (r : Rps K av H xs ds) (e : pyDs ds = some ps) :
    ∃ bs : List VP, bs.map Prod.fst = xs ∧ bs.map Prod.snd = ps ∧ Rps K av H ((bs.mergeSort byP).map Prod.fst) (sortD ds) := by
  obtain ⟨ts, rfl, rfl, g⟩ := rps_pair r
  refine ⟨ts.map fun t => (t.1, pyO t.2), by rw [List.map_map]; rfl, by rw [pyDs_map e, List.map_map, List.map_map]; rfl, ?_⟩
  have e1 : (ts.map fun t => (t.1, pyO t.2)).mergeSort byP = (ts.mergeSort fun a b => leD a.2 b.2).map fun t => (t.1, pyO t.2) := (List.map_mergeSort (f := fun t : VD => (t.1, pyO t.2)) (fun _ _ _ _ => rfl)).symm
  have e2 : sortD (ts.map Prod.snd) = (ts.mergeSort fun a b => leD a.2 b.2).map Prod.snd := (List.map_mergeSort (f := Prod.snd) (fun _ _ _ _ => rfl)).symm
  rw [e1, e2, List.map_map, show (Prod.fst ∘ fun t : VD => (t.1, pyO t.2)) = Prod.fst from rfl]
  exact pair_rps fun t m => g t (List.mem_mergeSort.mp m)
theorem keyD_rps {K : Fg} {av : Av} {H : Hp} : ∀ ks : List Key, Rps K av H (ks.map kV) (ks.map keyD)
  | [] => .nil
  | .inl i :: r => .cons (.int i) (keyD_rps r)
  | .inr z :: r => .cons (.str z) (keyD_rps r)
theorem pyDs_keys : ∀ ks : List Key, pyDs (ks.map keyD) = some (ks.map kP)
  | [] => by rw [List.map_nil, pyDs]; rfl
  | .inl i :: r => by rw [List.map_cons, pyDs, pyDs_keys r]; rfl
  | .inr z :: r => by rw [List.map_cons, pyDs, pyDs_keys r]; rfl
def fSort : List D → (List D → Prop) → Prop
  | [.lst xs], Q => onO (pyDs xs) fun ps => SortOk ps ∧ Q (sortD xs)
  | [.dic ks _], Q => SortOk (ks.map kP) ∧ Q (sortD (ks.map keyD))
  | _, _ => False
def rSort2 (K : Fg) : List V → Hp → VK → Prop := fun vs H Q => rSortData K vs H Q ∨ rSortKeys vs H Q
theorem caSort {K : Fg} : CaF K (rSort2 K) fSort := by
  intro is av H xs ds Qd hi ha r h Q q
  unfold fSort at h
  split at h
  · obtain ⟨ps, e, ok, h⟩ := onO_of h
    cases r with
    | cons r rr =>
      cases rr
      obtain ⟨p, xs, rfl, n1, r⟩ := r
      obtain ⟨bs, e1, e2, rs⟩ := rps_sort r e
      exact .inl ⟨p, bs, rfl, by rw [e1]; exact n1.sq, by rw [e1, e2]; exact rps_dp r e, by rw [e2]; exact ok, fun l hl => q l _ _ h hl rs⟩
  · obtain ⟨ok, h⟩ := h
    cases r with
    | cons r rr =>
      cases rr
      rename_i ks vs _
      obtain ⟨a, ys, rfl, n, e, r⟩ := r
      have e3 : (ks.zip ys).map (fun p => kP p.1) = ks.map kP := by
        rw [show (fun p : Key × V => kP p.1) = kP ∘ Prod.fst from rfl, ← List.map_map, List.map_fst_zip (by omega)]
      have e4 : (ks.zip ys).map (fun p => (kV p.1, kP p.1)) = ks.map fun k => (kV k, kP k) := by
        rw [show (fun p : Key × V => (kV p.1, kP p.1)) = (fun k => (kV k, kP k)) ∘ Prod.fst from rfl, ← List.map_map, List.map_fst_zip (by omega)]
      refine .inr ⟨a, _, rfl, .inl n.1, by rw [e3]; exact ok, fun l hl => ?_⟩
      rw [e4]
      obtain ⟨bs, e1, e2, rs⟩ := rps_sort (keyD_rps (K := K) (av := av) (H := H) ks) (pyDs_keys ks)
      have eb : bs = ks.map fun k => (kV k, kP k) := by
        refine List.ext_getElem? fun i => ?_
        have h1 := congrArg (·[i]?) e1
        have h2 := congrArg (·[i]?) e2
        simp only [List.getElem?_map] at h1 h2 ⊢
        cases q1 : bs[i]? with
        | none => rw [q1] at h1; cases q2 : ks[i]? with
          | none => rfl
          | some k => rw [q2] at h1; exact nomatch h1
        | some b => rw [q1] at h1 h2; cases q2 : ks[i]? with
          | none => rw [q2] at h1; exact nomatch h1
          | some k =>
            rw [q2] at h1 h2
            have a1 := Option.some.inj h1
            have a2 := Option.some.inj h2
            exact congrArg some (Prod.ext a1 a2)
      rw [← eb]
      exact q l _ _ h hl rs
  · exact h.elim
def fSortLen : List D → (List D → Prop) → Prop := fun ds Q => ∃ zs : List Str, ds = [.lst (zs.map .str)] ∧ (∀ z ∈ zs, z.length ≤ sizeLine) ∧ Q ((zs.mergeSort fun x y => decide ((x.length : Int) ≤ y.length)).map .str)
theorem rps_strs {K : Fg} {av : Av} {H : Hp} : ∀ {zs : List Str} {xs : List V}, Rps K av H xs (zs.map .str) → xs = zs.map .str
  | [], _, h => by cases h; rfl
  | z :: zs, _, h => by
    cases h with
    | cons r t => cases r; rw [List.map_cons, ← rps_strs t]
theorem strs_rps {K : Fg} {av : Av} {H : Hp} : ∀ zs : List Str, Rps K av H (zs.map .str) (zs.map .str)
  | [] => .nil
  | z :: zs => .cons (.str z) (strs_rps zs)
theorem caSortLen {K : Fg} : CaF K (rSortLen K) fSortLen := by
  intro is av H xs ds Qd hi ha r h Q q
  obtain ⟨zs, rfl, hz, h⟩ := h
  cases r with
  | cons r rr =>
    cases rr
    obtain ⟨p, xs, rfl, n1, r⟩ := r
    obtain rfl := rps_strs r
    exact ⟨p, zs, rfl, n1.sq, hz, fun l hl => q l _ _ h hl (strs_rps _)⟩
section
variable {ι : Type} {X : ι → Cx} {K : Fg} {W : Ctl} {c k : Nat} {e : Expr} {wl : WL} {pos p : Pos}
theorem call_sort2 {X : Cx} (hc : X.calm = true) (hr : Room k X.A) : CallR X (.builtin "sorted") (rSort2 X.K) := fun pins s σ H xs us Q I r h => h.elim (call_sortData hr pins s σ H xs us Q I r) (call_sortKeys hc hr pins s σ H xs us Q I r)
theorem df_sort (hK : ∀ i, (X i).K = K) (hc : ∀ i, (X i).calm = true) (hr : ∀ i, Room k (X i).A) (hm : ∀ i, (X i).mg "sorted" = none) (h : DB X K W c [e] wl) (hg : ∀ i, Gl (X i) "sorted" := by intro _; rfl) (he : ∀ i, starEach [e] (X i).env = (false, eval e (X i).env) :: starEach [] (X i).env := by intro _; rfl) (hpl : ∀ i, (backTo pos (starEach [] (X i).env)).any (·.1) = false := by intro _; rfl) :
    DF X K W c (.Call (.Name "sorted" p) [e] [] pos) (wCbF fSort wl) :=
  df_cb caSort (fun i _ pa => by rw [← hK i]; exact pe_callB (call_sort2 (hc i) (hr i)) (hg i) (hm i) (by decide +kernel) pa (by decide) (by decide) (he i) (hpl i)) h
theorem df_sortLen {q kp : Pos} (hK : ∀ i, (X i).K = K) (hr : ∀ i, Room k (X i).A) (hm : ∀ i, (X i).mg "sorted" = none) (hml : ∀ i, (X i).mg "len" = none) (h : DB X K W c [e] wl) (hg : ∀ i, Gl (X i) "sorted" := by intro _; rfl) (hgl : ∀ i, Gl (X i) "len" := by intro _; rfl)
    (he : ∀ i, backTo pos (starEach [e] (X i).env) = (false, eval e (X i).env) :: backTo pos (starEach [] (X i).env) := by intro _; rfl) (hpl : ∀ i, (backTo pos (starEach [e] (X i).env)).any (·.1) = false := by intro _; rfl) :
    DF X K W c (.Call (.Name "sorted" p) [e] [⟨some "key", .Name "len" q, kp⟩] pos) (wCbF fSortLen wl) :=
  df_cb caSortLen (fun i _ pa => by rw [← hK i]; exact pe_sortLen (hr i) (hg i) (hm i) (hgl i) (hml i) pa (he i) (hpl i)) h
end
end DL

namespace DL
open PySem PySem.Spec PyProof.Rows L2
/-! ### walks, whatever is done in a turn -/
theorem walk_it {J : It} {n : Nat} {GG : Hp → Prop} {Y : Nat → Hp → V → Hp → Prop} (w : Walk J n GG Y) {Hs : Hp} {Qd : Hp → Prop} {Body : V → Hp → (Hp → Prop) → Prop} (Pv : Nat → Hp → Prop) (h0 : Pv 0 Hs) (hG : ∀ i H, i ≤ n → Pv i H → GG H)
    (hs : ∀ i x H H', i < n → Pv i H → Y i H x H' → Body x H' (Pv (i + 1))) (hd : ∀ H, Pv n H → Qd H) :
    ∃ W : Nat → Nat → Hp → Prop, (∃ m, W 0 m Hs) ∧ ∀ i m H, W i m H → (J.stop i H ∧ Qd H) ∨ (J.go i H ∧ ∃ Nx : Hp → Prop, (∀ H', Nx H' → ∃ m', m' < m ∧ W (i + 1) m' H') ∧ ∀ x H', J.yld i H x H' → Body x H' Nx) := by
  refine ⟨fun i m H => m = n - i ∧ i ≤ n ∧ Pv i H, ⟨n, by simp, Nat.zero_le _, h0⟩, ?_⟩
  rintro i m H ⟨rfl, hi, p⟩
  have q := hG i H hi p
  by_cases hlt : i < n
  · exact .inr ⟨w.goes i H hlt q, Pv (i + 1), fun H' p' => ⟨n - (i + 1), by omega, rfl, hlt, p'⟩, fun x H' y => hs i x H H' hlt p (w.yields i H x H' hlt q y)⟩
  · have e : i = n := by omega
    subst e
    exact .inl ⟨w.stops H q, hd H p⟩
/-! ### {k: v for ..} -/
def putG {α : Type} (kvs : List (Key × α)) (k : Key) (v : α) : List (Key × α) :=
  if (kvs.any fun kv => decide (kv.1 = k)) = true then kvs.map (fun kv => if kv.1 = k then (kv.1, v) else kv) else kvs ++ [(k, v)]
theorem putG_map {α β : Type} (f : α → β) (ts : List (Key × α)) (k : Key) (v : α) : (putG ts k v).map (fun t => (t.1, f t.2)) = putG (ts.map fun t => (t.1, f t.2)) k (f v) := by
  have e : (ts.map fun t => (t.1, f t.2)).any (fun kv => decide (kv.1 = k)) = ts.any fun kv => decide (kv.1 = k) := by rw [List.any_map]; rfl
  unfold putG
  rw [e]
  split
  · rw [List.map_map, List.map_map]
    refine List.map_congr_left fun t _ => ?_
    show (fun t : Key × α => (t.1, f t.2)) (if t.1 = k then (t.1, v) else t) = if t.1 = k then (t.1, f v) else (t.1, f t.2)
    split <;> rfl
  · rw [List.map_append]; rfl
theorem putG_len {α : Type} (kvs : List (Key × α)) (k : Key) (v : α) : (putG kvs k v).length ≤ kvs.length + 1 := by
  unfold putG
  split
  · rw [List.length_map]; omega
  · rw [List.length_append]; simp
theorem putG_mem {α : Type} {kvs : List (Key × α)} {k : Key} {v : α} {t : Key × α} (h : t ∈ putG kvs k v) : t ∈ kvs ∨ t = (k, v) := by
  unfold putG at h
  split at h
  · obtain ⟨u, hu, rfl⟩ := List.mem_map.mp h
    by_cases e : u.1 = k
    · rw [if_pos e, e]; exact .inr rfl
    · rw [if_neg e]; exact .inl hu
  · rcases List.mem_append.mp h with h | h
    · exact .inl h
    · exact .inr (List.mem_singleton.mp h)
abbrev KD := Key × D
def compWD (wg : WG) (wt : WT) (wk wv : WE) (G : Gm) : List D → List KD → (List KD → Prop) → Prop
  | [], acc, Q => Q acc
  | d :: r, acc, Q => wg d G fun G1 => wt G1 (fun _ => False) fun b => fork b (wk G1 (fun _ => False) fun x => wv G1 (fun _ => False) fun y => onO (keyOf x) fun k => compWD wg wt wk wv G r (putG acc k y) Q) (compWD wg wt wk wv G r acc Q)
def dicD (acc : List KD) : D := .dic (acc.map Prod.fst) (acc.map Prod.snd)
def wDc (vs : List Nat) (wi : WL) (wg : WG) (wt : WT) (wk wv : WE) : WE := fun G ed Q => wi G ed fun ds => ds.length < sizeLine ∧ compWD wg wt wk wv (inG G vs) ds [] fun acc => Q (dicD acc)
abbrev KVD := Key × (V × D)
theorem rps_of {K : Fg} {av : Av} {H : Hp} : ∀ {ts : List KVD}, (∀ t ∈ ts, Rp K av H t.2.1 t.2.2) → Rps K av H (ts.map fun t => t.2.1) (ts.map fun t => t.2.2)
  | [], _ => .nil
  | t :: ts, h => .cons (h t List.mem_cons_self) (rps_of fun u m => h u (List.mem_cons_of_mem _ m))
theorem se_dc {K : Fg} {W : Ctl} {ci : Nat} {is vs : List Nat} {wi : WL} {wg : WG} {wk wv : WE} {wt : WT} {wi' : TI} {g : TG} {tt : TT} {tk te : TE}
    (si : ∀ (P : Pn) (av : Av) (H0 : Hp) (ed : Value → Prop), HW W P H0 ed → ∀ (n : Nat) (H : Hp) (σ : Sg) (G : Gm) (Qd : List D → Prop), LocOk P K av H0 (n + ci) H σ G → wi G ed Qd → ∀ R : It → Hp → Prop, (∀ J H' ds, Qd ds → LocOk P K av H0 n H' σ G → Ext P.is H H' → Walks P K (avo av σ G) H' J ds → R J H') → wi' σ H R)
    (sg : ∀ (P : Pn) (av : Av) (H0 : Hp) (n : Nat) (H : Hp) (σ : Sg) (G : Gm) (v : V) (d : D) (Qd : Gm → Prop), LocOk P K av H0 n H σ G → Rp K (avo av σ G) H v d → wg d G Qd → ∀ Q : L2.St → Hp → Prop, (∀ σ' G', Qd G' → LocOk P K av H0 n H σ' G' → (∀ a, Own σ' G' a → Own σ G a) → (∀ vs, (∀ i ∈ is, i ∈ vs) → wipe σ' vs = wipe σ vs) → Q σ' H) → g v σ H Q)
    (stt : ∀ (P : Pn) (av : Av) (H0 : Hp) (ed : Value → Prop), HW W.no P H0 ed → ∀ (n : Nat) (H : Hp) (σ : Sg) (G : Gm) (Qd : Bool → Prop), LocOk P K av H0 (n + 0) H σ G → wt G ed Qd → ∀ Q : Bool → Hp → Prop, (∀ b H', Qd b → LocOk P K av H0 n H' σ G → Ext P.is H H' → Q b H') → tt σ H Q)
    (sk : ∀ (P : Pn) (av : Av) (H0 : Hp) (ed : Value → Prop), HW W.no P H0 ed → ∀ (n : Nat) (H : Hp) (σ : Sg) (G : Gm) (Qd : D → Prop), LocOk P K av H0 (n + 0) H σ G → wk G ed Qd → ∀ Q : VK, (∀ v H' d, Qd d → LocOk P K av H0 n H' σ G → Ext P.is H H' → Rp K (avo av σ G) H' v d → Q v H') → tk σ H Q)
    (se : ∀ (P : Pn) (av : Av) (H0 : Hp) (ed : Value → Prop), HW W.no P H0 ed → ∀ (n : Nat) (H : Hp) (σ : Sg) (G : Gm) (Qd : D → Prop), LocOk P K av H0 (n + 0) H σ G → wv G ed Qd → ∀ Q : VK, (∀ v H' d, Qd d → LocOk P K av H0 n H' σ G → Ext P.is H H' → Rp K (avo av σ G) H' v d → Q v H') → te σ H Q)
    (hv : ∀ i ∈ is, i ∈ vs) : ∀ (P : Pn) (av : Av) (H0 : Hp) (ed : Value → Prop), HW W P H0 ed → ∀ (n : Nat) (H : Hp) (σ : Sg) (G : Gm) (Qd : D → Prop),
      LocOk P K av H0 (n + ci) H σ G → wDc vs wi wg wt wk wv G ed Qd → ∀ Q : VK, (∀ v H' d, Qd d → LocOk P K av H0 n H' σ G → Ext P.is H H' → Rp K (avo av σ G) H' v d → Q v H') → tDc wi' g tt tk te vs σ H Q := by
  intro P av H0 ed hw n H σ G Qd L h Q q
  refine si P av H0 ed hw n H σ G _ L h _ fun J H1 ds hd L1 e1 Wk => ?_
  obtain ⟨hz, hd⟩ := hd
  intro D hD
  obtain ⟨GG, Y, wk', hG, hy⟩ := Wk.ex
  have avD : ¬ avo av σ G D := fun z => L1.avoNe z hD
  have isD : ¬ P.is D := fun z => avD (L1.isAvo z)
  refine walk_it wk' (fun i H' => ∃ ts : List KVD, i ≤ ds.length ∧ Ext P.is H1 H' ∧ Ext (avo av σ G) H1 H' ∧ P.ok n H' ∧ H' D = some (.dK (ts.map fun t => (t.1, t.2.1))) ∧ ts.length ≤ i ∧ (∀ t ∈ ts, Rp K (avp (avo av σ G) D) H' t.2.1 t.2.2) ∧ compWD wg wt wk wv (inG G vs) (ds.drop i) (ts.map fun t => (t.1, t.2.2)) fun acc => Qd (dicD acc))
    ⟨[], Nat.zero_le _, .new hD, .new hD, (L1.new hD).ok, upd_same, Nat.le_refl _, (fun _ z => nomatch z), hd⟩ (fun i H' _ ⟨_, _, _, ea, _⟩ => hG H' ea) ?_ ?_
  · rintro i x H' H2 hi ⟨ts, hle, e', ea, k', hx, hl, hr, hcw⟩ y
    have Li := L1.inner vs e' k' hD (by rw [hx]; exact fun z => nomatch z)
    have no : ∀ a, ¬ Own (wipe σ vs) (inG G vs) a := fun a ⟨j, ds, h1, _⟩ => inG_no h1
    obtain ⟨d, hd, ex, rx⟩ := hy i x H' H2 (avo (avp (avo av σ G) D) (wipe σ vs) (inG G vs)) hi (fun a ka z => by
      rcases z with (z | z) | z
      · exact z
      · exact absurd (z ▸ hD) ka
      · exact absurd z (no a)) (fun a z => Li.avoNe z) ea y
    have hdrop : ds.drop i = d :: ds.drop (i + 1) := by
      rw [List.drop_eq_getElem_cons hi]
      rw [List.getElem?_eq_getElem hi] at hd
      rw [Option.some.inj hd]
    rw [hdrop] at hcw
    have L2 := Li.growEx ex
    have e2 : Ext P.is H1 H2 := e'.trans (Ex.ext ex)
    have ea2 : Ext (avo av σ G) H1 H2 := ea.trans (Ex.ext ex)
    have hx2 := ex D _ hx
    refine sg P _ _ _ H2 _ _ x d _ L2 rx hcw _ fun σ' G' hG' L' o' k' => ⟨(k' vs hv).trans (wipe_wipe vs vs σ fun _ z => z), ?_⟩
    have no' : ∀ a, ¬ Own σ' G' a := fun a z => no a (o' a z)
    refine stt P _ _ _ hw.no n H2 σ' G' _ L' hG' _ fun b H3 hb L3 e3 => ?_
    have e13 : Ext P.is H1 H3 := e2.trans e3
    have ea3 : Ext (avo av σ G) H1 H3 := ea2.trans fun a o na hh => e3 a o (fun z => na (L1.isAvo z)) hh
    have hx3 := e3 D _ isD hx2
    have hr3 : ∀ t ∈ ts, Rp K (avp (avo av σ G) D) H3 t.2.1 t.2.2 := fun t m => ((hr t m).ext (is := P.is) (Ex.ext ex) (fun _ z => .inl (L1.isAvo z)) fun _ _ z => z).ext e3 (fun _ z => .inl (L1.isAvo z)) fun _ _ z => z
    cases b with
    | false => rw [fork_ff] at hb; exact ⟨ts, by omega, e13, ea3, L3.ok, hx3, by omega, hr3, hb⟩
    | true =>
      rw [fork_tt] at hb
      refine sk P _ _ _ hw.no n H3 σ' G' _ L3 hb _ fun kv H4 kd hy4 L4 e4 r4 => ?_
      refine se P _ _ _ hw.no n H4 σ' G' _ L4 hy4 _ fun v H5 y hy5 L5 e5 r5 => ?_
      obtain ⟨k, hk, hy5⟩ := onO_of hy5
      rw [keyOf_of hk] at r4
      have hx5 := e5 D _ isD (e4 D _ isD hx3)
      have e45 : Ext P.is H3 H5 := e4.trans e5
      refine ⟨_, k, keyD_rp r4, hx5, by rw [List.length_map]; omega, putG ts k (v, y), by omega, ?_, ?_, ?_, ?_, by have := putG_len ts k (v, y); omega, ?_, ?_⟩
      · intro a o na hh
        rw [upd_ne (ne_of_none hh hD)]
        exact e45 a o na (e13 a o na hh)
      · intro a o na hh
        rw [upd_ne (ne_of_none hh hD)]
        exact e45 a o (fun z => na (L1.isAvo z)) (ea3 a o na hh)
      · exact P.stab L5.ok (fun a ia => upd_ne (fun z : a = D => isD (by rw [← z]; exact ia))) (.wr hx5 (.inr ⟨_, rfl⟩))
      · rw [upd_same, putG_map]; rfl
      · have stay : Ext (fun a => a = D) H5 (upd H5 D (.dK (putK (ts.map fun t => (t.1, t.2.1)) k v))) := fun a o na hh => by rw [upd_ne na]; exact hh
        intro t m
        rcases putG_mem m with m | rfl
        · exact ((hr3 t m).ext e45 (fun _ z => .inl (L1.isAvo z)) fun _ _ z => z : Rp K (avp (avo av σ G) D) H5 t.2.1 t.2.2).ext stay (fun _ z => .inr z) fun _ _ z => z
        · exact (r5.ext (is := fun _ => False) (.refl _ _) (fun _ z => z.elim) fun _ _ z => .inl z : Rp K (avp (avo av σ G) D) H5 v y).ext stay (fun _ z => .inr z) fun _ _ z => z
      · rw [putG_map]; exact hy5
  · rintro H' ⟨ts, hle, e', ea, k', hx, hl, hr, hcw⟩
    rw [List.drop_length] at hcw
    have L' : LocOk P K av H0 n H' σ G := L1.grow e' k'
    have hrp := rps_of hr
    have hcw : Qd (dicD (ts.map fun t => (t.1, t.2.2))) := hcw
    refine q _ H' _ hcw L' (e1.trans e') ?_
    unfold dicD
    rw [List.map_map, List.map_map]
    refine .dic (xs := ts.map fun t => t.2.1) ⟨?_, avD⟩ (by simp) ?_
    · rw [hx, List.zip_map', ]
      rfl
    · exact hrp.ext (is := fun _ => False) (.refl _ _) (fun _ z => z.elim) fun a ka z => .inl z
section
variable {ι : Type} {X : ι → Cx} {K : Fg} {W : Ctl} {ci : Nat} {tg it kx vx t : Expr} {wi : WL} {wg : WG} {wk wv : WE} {wt : WT} {pos : Pos}
theorem de_dc {scope : Scope} {is : List Nat} {own : List (Str × Nat)} (hc : ∀ i, (X i).calm = true) (hN : ∀ i, (X i).N.Nodup) (hi : DI X K W ci tg it wi) (hg : DG (blkF X scope) K is tg wg) (hk : DE (blkF X scope) K W.no 0 kx wk) (he : DE (blkF X scope) K W.no 0 vx wv) (ok : ∀ i, BlkOk (X i).N (X i).env.scope scope own) (hv : ∀ i ∈ is, i ∈ own.map (·.2) := by decide)
    (hs : ∀ i x, foldedSetIterable it (X i).env x = pure x := by intro _ _; rfl) : DE X K W ci (.DictComp kx vx [⟨tg, it, [], 0⟩] scope pos) (wDc (own.map (·.2)) wi wg wTt wk wv) := by
  obtain ⟨wi', pi, si⟩ := hi
  obtain ⟨g, pg, sg⟩ := hg
  obtain ⟨tk, pk, sk⟩ := hk
  obtain ⟨te, pe, se⟩ := he
  refine ⟨_, fun i => pe_dc (tt := tYes) (hc i) (hN i) (pi i) (ok i) (fun s H C cl fp => pg (i, s, H, C, cl, fp)) (fun _ _ _ _ _ => pts_nil) (fun s H C cl fp => pk (i, s, H, C, cl, fp)) (fun s H C cl fp => pe (i, s, H, C, cl, fp)) (hs i), ?_⟩
  exact se_dc si sg (fun P av H0 ed hw n H σ G Qd L h Q q => q _ _ h L (.refl _ _)) sk se hv
end
end DL

namespace DL
open PySem PySem.Spec PyProof.Rows L2
/-! ### [e for a in xs for b in ys] -/
theorem LocOk.wiped {P : Pn} {K : Fg} {av : Av} {H0 H : Hp} {n : Nat} {σ : Sg} {G : Gm} (L : LocOk P K av H0 n H σ G) (vs : List Nat) : LocOk P K (avo av σ G) H n H (wipe σ vs) (inG G vs) := by
  have no : ∀ a, ¬ Own (wipe σ vs) (inG G vs) a := fun a ⟨i, ds, h1, _⟩ => inG_no h1
  refine ⟨by unfold inG; rw [List.length_map, wipeG_len, wipe_length]; exact L.len, fun i s h => ?_, fun i j ds es a h1 _ _ _ => absurd h1 inG_no, .refl _ _, fun a z => absurd z (no a), L.ok, fun a z => L.isAvo z, fun a z => L.avoNe z⟩
  have hl : i < (wipe σ vs).length := by
    rw [wipe_length, ← L.len, ← wipeG_len G vs, ← List.length_map (f := unO)]
    exact (List.getElem?_eq_some_iff.mp h).1
  cases s with
  | un => exact ⟨_, List.getElem?_eq_getElem hl, trivial⟩
  | own ds => exact absurd h inG_no
  | dat d =>
    obtain ⟨h1, h2⟩ := wipeG_dat (σ := σ) vs (inG_dat h)
    obtain ⟨o, e1, v, e2, r⟩ := L.sl i _ h1
    exact ⟨o, h2.trans e1, v, e2, r.ext (is := fun _ => False) (.refl _ _) (fun _ z => z.elim) fun a ka z => z.elim id fun z => absurd z (no a)⟩
theorem LocOk.rebase {P : Pn} {K : Fg} {av is : Av} {H0 H H' : Hp} {n m : Nat} {σ : Sg} {G : Gm} (L : LocOk P K av H0 n H σ G) (no : ∀ a, ¬ Own σ G a) (e : Ext is H H') (k : P.ok m H') (hi : ∀ a, is a → av a) (al : ∀ a, av a → H' a ≠ none) : LocOk P K av H' m H' σ G := by
  refine ⟨L.len, fun i s hs => ?_, L.inj, .refl _ _, fun a z => absurd z (no a), k, L.pav, al⟩
  obtain ⟨o, h1, h2⟩ := L.sl i s hs
  refine ⟨o, h1, ?_⟩
  cases s with
  | un => trivial
  | own d1 =>
    obtain ⟨b, _, _, _, ob, _⟩ := h2
    subst ob
    exact absurd ⟨i, d1, hs, h1⟩ (no b)
  | dat d1 =>
    obtain ⟨v, ev, r⟩ := h2
    exact ⟨v, ev, r.ext e (fun a z => .inl (hi a z)) fun _ _ z => z⟩
def compLL (wg : WG) (wi1 : WL) (wg1 : WG) (wt1 : WT) (we : WE) (vs1 : List Nat) (G : Gm) : List D → List D → (List D → Prop) → Prop
  | [], acc, Q => Q acc
  | d :: r, acc, Q => wg d G fun G1 => wi1 G1 (fun _ => False) fun es => acc.length + es.length ≤ sizeLine ∧ compW wg1 wt1 we (inG G1 vs1) es acc fun acc' => compLL wg wi1 wg1 wt1 we vs1 G r acc' Q
def wLc2f (vs vs1 : List Nat) (wi : WL) (wg : WG) (wi1 : WL) (wg1 : WG) (wt1 : WT) (we : WE) : WL := fun G ed Q => wi G ed fun ds => compLL wg wi1 wg1 wt1 we vs1 (inG G vs) ds [] Q
theorem sf_lc2f {K : Fg} {W : Ctl} {ci : Nat} {is is1 vs vs1 : List Nat} {wi wi1 : WL} {wg wg1 : WG} {we : WE} {wt1 : WT} {wi' wi1' : TI} {g g1 : TG} {tt1 : TT} {te : TE}
    (si : ∀ (P : Pn) (av : Av) (H0 : Hp) (ed : Value → Prop), HW W P H0 ed → ∀ (n : Nat) (H : Hp) (σ : Sg) (G : Gm) (Qd : List D → Prop), LocOk P K av H0 (n + ci) H σ G → wi G ed Qd → ∀ R : It → Hp → Prop, (∀ J H' ds, Qd ds → LocOk P K av H0 n H' σ G → Ext P.is H H' → Walks P K (avo av σ G) H' J ds → R J H') → wi' σ H R)
    (sg : ∀ (P : Pn) (av : Av) (H0 : Hp) (n : Nat) (H : Hp) (σ : Sg) (G : Gm) (v : V) (d : D) (Qd : Gm → Prop), LocOk P K av H0 n H σ G → Rp K (avo av σ G) H v d → wg d G Qd → ∀ Q : L2.St → Hp → Prop, (∀ σ' G', Qd G' → LocOk P K av H0 n H σ' G' → (∀ a, Own σ' G' a → Own σ G a) → (∀ vs, (∀ i ∈ is, i ∈ vs) → wipe σ' vs = wipe σ vs) → Q σ' H) → g v σ H Q)
    (si1 : ∀ (P : Pn) (av : Av) (H0 : Hp) (ed : Value → Prop), HW W.no P H0 ed → ∀ (n : Nat) (H : Hp) (σ : Sg) (G : Gm) (Qd : List D → Prop), LocOk P K av H0 (n + 0) H σ G → wi1 G ed Qd → ∀ R : It → Hp → Prop, (∀ J H' ds, Qd ds → LocOk P K av H0 n H' σ G → Ext P.is H H' → Walks P K (avo av σ G) H' J ds → R J H') → wi1' σ H R)
    (sg1 : ∀ (P : Pn) (av : Av) (H0 : Hp) (n : Nat) (H : Hp) (σ : Sg) (G : Gm) (v : V) (d : D) (Qd : Gm → Prop), LocOk P K av H0 n H σ G → Rp K (avo av σ G) H v d → wg1 d G Qd → ∀ Q : L2.St → Hp → Prop, (∀ σ' G', Qd G' → LocOk P K av H0 n H σ' G' → (∀ a, Own σ' G' a → Own σ G a) → (∀ vs, (∀ i ∈ is1, i ∈ vs) → wipe σ' vs = wipe σ vs) → Q σ' H) → g1 v σ H Q)
    (stt : ∀ (P : Pn) (av : Av) (H0 : Hp) (ed : Value → Prop), HW W.no P H0 ed → ∀ (n : Nat) (H : Hp) (σ : Sg) (G : Gm) (Qd : Bool → Prop), LocOk P K av H0 (n + 0) H σ G → wt1 G ed Qd → ∀ Q : Bool → Hp → Prop, (∀ b H', Qd b → LocOk P K av H0 n H' σ G → Ext P.is H H' → Q b H') → tt1 σ H Q)
    (se : ∀ (P : Pn) (av : Av) (H0 : Hp) (ed : Value → Prop), HW W.no P H0 ed → ∀ (n : Nat) (H : Hp) (σ : Sg) (G : Gm) (Qd : D → Prop), LocOk P K av H0 (n + 0) H σ G → we G ed Qd → ∀ Q : VK, (∀ v H' d, Qd d → LocOk P K av H0 n H' σ G → Ext P.is H H' → Rp K (avo av σ G) H' v d → Q v H') → te σ H Q)
    (hv : ∀ i ∈ is, i ∈ vs) (hv1 : ∀ i ∈ is1, i ∈ vs1) : SF K W ci (tLc2 wi' g tYes wi1' g1 tt1 te vs vs1) (wLc2f vs vs1 wi wg wi1 wg1 wt1 we) := by
  intro P av H0 ed hw n H σ G Qd L h Q q
  refine si P av H0 ed hw n H σ G _ L h _ fun J H1 ds hd L1 e1 Wk => ?_
  intro D hD
  obtain ⟨GG, Y, wk', hG, hy⟩ := Wk.ex
  have avD : ¬ avo av σ G D := fun z => L1.avoNe z hD
  have isD : ¬ P.is D := fun z => avD (L1.isAvo z)
  refine walk_it wk' (fun i H' => ∃ xs acc, i ≤ ds.length ∧ Ext P.is H1 H' ∧ Ext (avo av σ G) H1 H' ∧ P.ok n H' ∧ H' D = some (.lst xs) ∧ Rps K (avp (avo av σ G) D) H' xs acc ∧ compLL wg wi1 wg1 wt1 we vs1 (inG G vs) (ds.drop i) acc Qd)
    ⟨[], [], Nat.zero_le _, .new hD, .new hD, (L1.new hD).ok, upd_same, .nil, hd⟩ (fun i H' _ ⟨_, _, _, _, ea, _⟩ => hG H' ea) ?_ ?_
  · rintro i x H' H2 hi ⟨xs, acc, hle, e', ea, k', hx, hr, hcw⟩ y
    have Li := L1.inner vs e' k' hD (by rw [hx]; exact fun z => nomatch z)
    have no : ∀ a, ¬ Own (wipe σ vs) (inG G vs) a := fun a ⟨j, ds, h1, _⟩ => inG_no h1
    obtain ⟨d, hd, ex, rx⟩ := hy i x H' H2 (avo (avp (avo av σ G) D) (wipe σ vs) (inG G vs)) hi (fun a ka z => by
      rcases z with (z | z) | z
      · exact z
      · exact absurd (z ▸ hD) ka
      · exact absurd z (no a)) (fun a z => Li.avoNe z) ea y
    have hdrop : ds.drop i = d :: ds.drop (i + 1) := by
      rw [List.drop_eq_getElem_cons hi]
      rw [List.getElem?_eq_getElem hi] at hd
      rw [Option.some.inj hd]
    rw [hdrop] at hcw
    have L2 := Li.growEx ex
    have e2 : Ext P.is H1 H2 := e'.trans (Ex.ext ex)
    have ea2 : Ext (avo av σ G) H1 H2 := ea.trans (Ex.ext ex)
    have hx2 : H2 D = some (.lst xs) := ex D _ hx
    have hr2 : Rps K (avp (avo av σ G) D) H2 xs acc := hr.ext (is := P.is) (Ex.ext ex) (fun _ z => .inl (L1.isAvo z)) fun _ _ z => z
    refine sg P _ _ _ H2 _ _ x d _ L2 rx hcw _ fun σ' G' hG' L' o' k' => ⟨(k' vs hv).trans (wipe_wipe vs vs σ fun _ z => z), ?_⟩
    have no' : ∀ a, ¬ Own σ' G' a := fun a z => no a (o' a z)
    simp only [tYes, ↓reduceIte]
    refine si1 P _ _ _ hw.no n H2 σ' G' _ L' hG' _ fun J1 H4 es he L4 e4 Wk1 => ?_
    obtain ⟨hsz, hcw⟩ := he
    have e14 : Ext P.is H1 H4 := e2.trans e4
    have ea4 : Ext (avo av σ G) H1 H4 := ea2.trans fun a o na hh => e4 a o (fun z => na (L1.isAvo z)) hh
    have hx4 : H4 D = some (.lst xs) := e4 D _ isD hx2
    have hr4 : Rps K (avp (avo av σ G) D) H4 xs acc := hr2.ext e4 (fun _ z => .inl (L1.isAvo z)) fun _ _ z => z
    obtain ⟨GG1, Y1, wk1, hG1, hy1⟩ := Wk1.ex
    refine walk_it wk1 (fun j H' => ∃ xs2 acc2, j ≤ es.length ∧ Ext P.is H1 H' ∧ Ext (avo av σ G) H1 H' ∧ Ext (avp P.is D) H4 H' ∧ P.ok n H' ∧ H' D = some (.lst xs2) ∧ acc2.length ≤ acc.length + j ∧ Rps K (avp (avo av σ G) D) H' xs2 acc2 ∧ compW wg1 wt1 we (inG G' vs1) (es.drop j) acc2 fun acc' => compLL wg wi1 wg1 wt1 we vs1 (inG G vs) (ds.drop (i + 1)) acc' Qd)
      ⟨xs, acc, Nat.zero_le _, e14, ea4, .refl _ _, L4.ok, hx4, Nat.le_refl _, hr4, hcw⟩ (fun j H' _ ⟨_, _, _, _, _, ed', _⟩ => hG1 H' fun a o na hh => ed' a o (fun z => na (z.elim (fun z => L4.isAvo z) fun z => .inl (.inr z))) hh) ?_ ?_
    · rintro j x1 H5 H6 hj ⟨xs2, acc2, hle2, e5, ea5, ed5, k5, hx5, hl5, hr5, hcw5⟩ y1
      have L5 : LocOk P K (avp (avo av σ G) D) H5 n H5 σ' G' := L4.rebase no' ed5 k5 (fun a z => z.elim (fun z => .inl (L1.isAvo z)) .inr) fun a z => z.elim (L1.grow e5 k5).avoNe fun z => by rw [z, hx5]; exact fun z => nomatch z
      have L6 := L5.wiped vs1
      have no6 : ∀ a, ¬ Own (wipe σ' vs1) (inG G' vs1) a := fun a ⟨j, ds, h1, _⟩ => inG_no h1
      obtain ⟨d1, hd1, ex1, rx1⟩ := hy1 j x1 H5 H6 (avo (avo (avp (avo av σ G) D) σ' G') (wipe σ' vs1) (inG G' vs1)) hj (fun a ka z => z.elim id fun z => absurd z (no6 a)) (fun a z => L6.avoNe z) (fun a o na hh => ed5 a o (fun z => na (z.elim (fun z => L4.isAvo z) fun z => .inl (.inr z))) hh) y1
      have hdrop1 : es.drop j = d1 :: es.drop (j + 1) := by
        rw [List.drop_eq_getElem_cons hj]
        rw [List.getElem?_eq_getElem hj] at hd1
        rw [Option.some.inj hd1]
      rw [hdrop1] at hcw5
      have L7 := L6.growEx ex1
      refine sg1 P _ _ _ H6 _ _ x1 d1 _ L7 rx1 hcw5 _ fun σ3 G3 hG3 L8 o8 k8 => ⟨(k8 vs1 hv1).trans (wipe_wipe vs1 vs1 σ' fun _ z => z), ?_⟩
      have no8 : ∀ a, ¬ Own σ3 G3 a := fun a z => no6 a (o8 a z)
      refine stt P _ _ _ hw.no n H6 σ3 G3 _ L8 hG3 _ fun b H7 hb L9 e9 => ?_
      have e57 : Ext P.is H5 H7 := (Ex.ext ex1).trans e9
      have e17 : Ext P.is H1 H7 := e5.trans e57
      have ea7 : Ext (avo av σ G) H1 H7 := ea5.trans fun a o na hh => e57 a o (fun z => na (L1.isAvo z)) hh
      have ed7 : Ext (avp P.is D) H4 H7 := ed5.trans fun a o na hh => e57 a o (fun z => na (.inl z)) hh
      have hx7 : H7 D = some (.lst xs2) := e57 D _ isD hx5
      have hr7 : Rps K (avp (avo av σ G) D) H7 xs2 acc2 := hr5.ext e57 (fun _ z => .inl (L1.isAvo z)) fun _ _ z => z
      cases b with
      | false => rw [fork_ff] at hb; exact ⟨xs2, acc2, hj, e17, ea7, ed7, L9.ok, hx7, by omega, hr7, hb⟩
      | true =>
        rw [fork_tt] at hb
        refine se P _ _ _ hw.no n H7 σ3 G3 _ L9 hb _ fun v H8 y hy8 L10 e10 r10 => ?_
        have hx8 : H8 D = some (.lst xs2) := e10 D _ isD hx7
        refine ⟨xs2, hx8, by rw [hr5.len]; omega, xs2 ++ [v], acc2 ++ [y], hj, ?_, ?_, ?_, ?_, upd_same, by rw [List.length_append]; simp; omega, ?_, hy8⟩
        · intro a o na hh
          rw [upd_ne (ne_of_none hh hD)]
          exact e10 a o na (e17 a o na hh)
        · intro a o na hh
          rw [upd_ne (ne_of_none hh hD)]
          exact e10 a o (fun z => na (L1.isAvo z)) (ea7 a o na hh)
        · intro a o na hh
          rw [upd_ne fun z => na (.inr z)]
          exact e10 a o (fun z => na (.inl z)) (ed7 a o na hh)
        · exact P.stab L10.ok (fun a ia => upd_ne (fun z : a = D => isD (by rw [← z]; exact ia))) (.lst hx8)
        · have stay : Ext (fun a => a = D) H8 (upd H8 D (.lst (xs2 ++ [v]))) := fun a o na hh => by rw [upd_ne na]; exact hh
          refine Rps.append ?_ (.cons ?_ .nil)
          · exact (hr7.ext e10 (fun _ z => .inl (L1.isAvo z)) fun _ _ z => z : Rps K (avp (avo av σ G) D) H8 xs2 acc2).ext stay (fun _ z => .inr z) fun _ _ z => z
          · exact (r10.ext (is := fun _ => False) (.refl _ _) (fun _ z => z.elim) fun _ _ z => .inl (.inl z) : Rp K (avp (avo av σ G) D) H8 v y).ext stay (fun _ z => .inr z) fun _ _ z => z
    · rintro H' ⟨xs2, acc2, hle2, e5, ea5, ed5, k5, hx5, hl5, hr5, hcw5⟩
      rw [List.drop_length] at hcw5
      exact ⟨xs2, acc2, hi, e5, ea5, k5, hx5, hr5, hcw5⟩
  · rintro H' ⟨xs, acc, hle, e', ea, k', hx, hr, hcw⟩
    rw [List.drop_length] at hcw
    have L' : LocOk P K av H0 n H' σ G := L1.grow e' k'
    exact q D xs H' acc hcw L' (e1.trans e') (e1.none (fun z => isD z) hD) hx hr
section
variable {ι : Type} {X : ι → Cx} {K : Fg} {W : Ctl} {ci : Nat} {tg it tg1 it1 elt : Expr} {wi wi1 : WL} {wg wg1 : WG} {we : WE} {pos : Pos}
theorem df_lc2f {scope : Scope} {is is1 : List Nat} {own : List (Str × Nat)} (vs1 : List Nat) (hc : ∀ i, (X i).calm = true) (hN : ∀ i, (X i).N.Nodup) (hi : DI X K W ci tg it wi) (hg : DG (blkF X scope) K is tg wg) (hi1 : DI (blkF X scope) K W.no 0 tg1 it1 wi1) (hg1 : DG (blkF X scope) K is1 tg1 wg1) (he : DE (blkF X scope) K W.no 0 elt we) (ok : ∀ i, BlkOk (X i).N (X i).env.scope scope own)
    (hv : ∀ i ∈ is, i ∈ own.map (·.2) := by decide) (hv1 : ∀ i ∈ is1, i ∈ vs1 := by decide) (hvv : ∀ i ∈ vs1, i ∈ own.map (·.2) := by decide) (hs : ∀ i x, foldedSetIterable it (X i).env x = pure x := by intro _ _; rfl) (hs1 : ∀ env x, foldedSetIterable it1 env x = pure x := by intro _ _; rfl) :
    DF X K W ci (.ListComp elt [⟨tg, it, [], 0⟩, ⟨tg1, it1, [], 0⟩] scope pos) (wLc2f (own.map (·.2)) vs1 wi wg wi1 wg1 wTt we) := by
  obtain ⟨wi', pi, si⟩ := hi
  obtain ⟨g, pg, sg⟩ := hg
  obtain ⟨wi1', pi1, si1⟩ := hi1
  obtain ⟨g1, pg1, sg1⟩ := hg1
  obtain ⟨te, pe, se⟩ := he
  refine ⟨_, fun i => pe_lc2 (tt := tYes) (tt1 := tYes) (hc i) (hN i) (pi i) (ok i) hvv (fun s H C cl fp => pg (i, s, H, C, cl, fp)) (fun _ _ _ _ _ => pts_nil) (fun s H C cl fp => pi1 (i, s, H, C, cl, fp)) (fun s H C cl fp => pg1 (i, s, H, C, cl, fp)) (fun _ _ _ _ _ => pts_nil) (fun s H C cl fp => pe (i, s, H, C, cl, fp)) (hs i) hs1, ?_⟩
  exact sf_lc2f si sg si1 sg1 (fun P av H0 ed hw n H σ G Qd L h Q q => q _ _ h L (.refl _ _)) se hv hv1
end
end DL

namespace DL
open PySem PySem.Spec PyProof.Rows L2
/-! ### list(x): of a list, a tuple, a text, a dict -/
abbrev charsV (z : Str) : List V := z.cps.toList.map fun c => .str ⟨#[c]⟩
theorem vals_chars : ∀ {cs : List Nat} {us : List Value}, us.length = cs.length → (∀ (j : Nat) (v : Value), us[j]? = some v → ∃ c t, cs[j]? = some c ∧ v = .str ⟨#[c]⟩ t) → Vals (cs.map fun c => V.str ⟨#[c]⟩) us
  | [], [], _, _ => .nil
  | [], _ :: _, h, _ => nomatch h
  | _ :: _, [], h, _ => nomatch h
  | c :: cs, u :: us, h, g => by
    obtain ⟨c', t, e, hv⟩ := g 0 u rfl
    cases e
    exact .cons ⟨t, hv⟩ (vals_chars (Nat.succ.inj h) fun j v e => by
      obtain ⟨c2, t2, e2, h2⟩ := g (j + 1) v (by simpa using e)
      exact ⟨c2, t2, by simpa using e2, h2⟩)
section
variable {X : Cx}
theorem call_list_text (hc : X.calm = true) : CallR X (.type "list") (fun xs H Q => ∃ z : Str, xs = [.str z] ∧ z.length ≤ sizeLine ∧ ∀ l, H l = none → Q (.ref l) (upd H l (.lst (charsV z)))) := by
  intro pins s σ H xs us Q I r h
  obtain ⟨z, rfl, hz, q⟩ := h
  obtain ⟨u, rfl, rx⟩ := vals1 r
  obtain ⟨t, rfl⟩ := rx
  refine call_list_str (I.ok.hd hc) z t (hn := hz) fun h' tk acc' c' hk hS' hacc => ?_
  have hv : Vals (charsV z) acc'.toList := vals_chars (by rw [Array.length_toList, hacc.1]; rfl) fun j v e => by
    obtain ⟨c, t, h1, h2⟩ := hacc.2 j v (by simpa using e)
    exact ⟨c, t, by simpa using h1, h2⟩
  exact ⟨.ref s.heap.objs.size, _, I.laid (t' := tk) hk (Nat.le_refl _) (show ObjOk X.prog X.w _ h' _ (.lst (charsV z)) from ⟨by rw [List.length_map]; exact hz, acc'.toList, c', hv, by simpa using hS'⟩), rfl, q _ (I.hok.fresh (Nat.le_refl _))⟩
def rListA (K : Fg) : List V → Hp → VK → Prop := fun xs H Q => (∃ p ys, xs = [.ref p] ∧ (SqL K H p ys ∨ SqT K H p ys) ∧ ∀ l, H l = none → Q (.ref l) (upd H l (.lst ys))) ∨ (∃ z : Str, xs = [.str z] ∧ z.length ≤ sizeLine ∧ ∀ l, H l = none → Q (.ref l) (upd H l (.lst (charsV z)))) ∨ ∃ (a : Addr) (kvs : List (Key × V)), xs = [.ref a] ∧ Rd H a (.dK kvs) ∧ ∀ p, H p = none → Q (.ref p) (upd H p (.lst (kvs.map fun kv => kV kv.1)))
theorem call_listA (hc : X.calm = true) : CallR X (.type "list") (rListA X.K) := fun pins s σ H xs us Q I r h => h.elim (call_list_of pins s σ H xs us Q I r) fun h => h.elim (call_list_text hc pins s σ H xs us Q I r) (call_listD hc pins s σ H xs us Q I r)
end
def fListA : List D → (List D → Prop) → Prop
  | [.lst xs], Q => Q xs
  | [.tup xs], Q => Q xs
  | [.str z], Q => z.length ≤ sizeLine ∧ Q (chars z)
  | [.dic ks _], Q => Q (ks.map keyD)
  | _, _ => False
theorem chars_rps {K : Fg} {av : Av} {H : Hp} (z : Str) : Rps K av H (charsV z) (chars z) := by
  unfold charsV chars
  generalize z.cps.toList = cs
  induction cs with
  | nil => exact .nil
  | cons c cs ih => exact .cons (.str _) ih
theorem caListA {K : Fg} : CaF K (rListA K) fListA := by
  intro is av H xs ds Qd hi ha r h Q q
  unfold fListA at h
  split at h
  · cases r with
    | cons r rr =>
      cases rr
      obtain ⟨p, ys, rfl, n, r⟩ := r
      exact .inl ⟨p, ys, rfl, .inl n.sq, fun l hl => q l _ _ h hl r⟩
  · cases r with
    | cons r rr =>
      cases rr
      cases r with
      | tup n r => exact .inl ⟨_, _, rfl, .inr n.sq, fun l hl => q l _ _ h hl r⟩
  · cases r with
    | cons r rr =>
      cases rr
      cases r
      exact .inr (.inl ⟨_, rfl, h.1, fun l hl => q l _ _ h.2 hl (chars_rps _)⟩)
  · cases r with
    | cons r rr =>
      cases rr
      rename_i ks vs _
      obtain ⟨a, ys, rfl, n, e, r⟩ := r
      refine .inr (.inr ⟨a, _, rfl, .inl n.1, fun l hl => ?_⟩)
      rw [show (fun kv : Key × V => kV kv.1) = kV ∘ Prod.fst from rfl, ← List.map_map, List.map_fst_zip (by omega)]
      exact q l _ _ h hl (keyD_rps _)
  · exact h.elim
section
variable {ι : Type} {X : ι → Cx} {K : Fg} {W : Ctl} {c : Nat} {e : Expr} {wl : WL} {pos p : Pos}
theorem df_listA (hK : ∀ i, (X i).K = K) (hc : ∀ i, (X i).calm = true) (hm : ∀ i, (X i).mg "list" = none) (h : DB X K W c [e] wl) (hg : ∀ i, Gl (X i) "list" := by intro _; rfl) (he : ∀ i, starEach [e] (X i).env = (false, eval e (X i).env) :: starEach [] (X i).env := by intro _; rfl) : DF X K W c (.Call (.Name "list" p) [e] [] pos) (wCbF fListA wl) :=
  df_cb caListA (fun i _ pa => by rw [← hK i]; exact pe_callTy (call_listA (hc i)) (hg i) (hm i) (by decide +kernel) pa (by decide) (by decide) (he i)) h
end
end DL

namespace DL
open PySem PySem.Spec PyProof.Rows L2
open LamX (Tabs TabS)
/-! ### defs that make lambdas: under any pen that has the tables T -/
structure HasT (T : List (Addr × Str)) (P : Pn) : Prop where
  is : ∀ t ∈ T, P.is t.1
  get : ∀ n H, P.ok n H → Tabs T H
  back : ∀ t ∈ T, ∀ n H J, P.ok n H → Off t.1 H J → Tabs T J → P.ok n J
theorem hasT_pen {p c : Addr} {T : List (Addr × Str)} : HasT T (penT p c T) := ⟨fun t ht => (penT_lam ⟨t, ht, rfl⟩).1, fun n H h => h.2, fun t ht => (penT_lam ⟨t, ht, rfl⟩).2.2⟩
theorem hasT_lam {T : List (Addr × Str)} {P : Pn} {Pt : Addr} {q : Str} (hm : (Pt, q) ∈ T) (h : HasT T P) : P.is Pt ∧ (∀ n H, P.ok n H → Tabs T H) ∧ ∀ n H J, P.ok n H → Off Pt H J → Tabs T J → P.ok n J := ⟨h.is _ hm, h.get, h.back _ hm⟩
def spT (K : Fg) (T : List (Addr × Str)) (np : Nat) (Wf : WF) : Sp := fun vs H Q E => vs.length = np ∧ ∃ (P : Pn) (n : Nat) (av : Av) (ds : List D) (ed : Value → Prop) (Qd : D → Prop), HasT T P ∧ P.ok n H ∧ (∀ a, P.is a → av a) ∧ (∀ a, av a → H a ≠ none) ∧ Rps K av H vs ds ∧ Wf ds ed Qd ∧
  (∀ cls H', ed cls → Ext P.is H H' → E cls none H') ∧ ∀ v H' d, Qd d → P.ok n H' → Ext P.is H H' → Rp K av H' v d → Q v H'
structure TFn (P : Program) (w : World) (K : Fg) (mg : Str → Option Value) (base : Heap) (T : List (Addr × Str)) (x : Str) (k np : Nat) (Wf : WF) : Prop where
  len : ∀ ds ed Q, Wf ds ed Q → ds.length = np
  ex : ∃ (f : Addr) (fd : FuncData) (ps : List Str), mg x = some (.ref f) ∧ PySem.W.keepIn K (.ref f) = true ∧ Binds K fd ps [] ∧ FnOk P w K mg base (L2.CX P w) k f fd ps (spT K T np Wf)
def spTP (K : Fg) (T : List (Addr × Str)) (np cst : Nat) (Wf : WF) : Sp := fun vs H Q E => vs.length = np + 1 ∧ ∃ (p c : Addr) (P : Pn) (n : Nat) (av : Av) (rest : List V) (ds : List D) (ed : Value → Prop) (Qd : D → Prop), vs = .ref p :: rest ∧ HasT T P ∧ HasPen p P c ∧ P.ok (n + cst) H ∧ (∀ a, P.is a → av a) ∧ (∀ a, av a → H a ≠ none) ∧ Rps K av H rest ds ∧ Wf ds ed Qd ∧
  (∀ cls H', ed cls → Ext P.is H H' → E cls none H') ∧ ∀ v H' d, Qd d → P.ok n H' → Ext P.is H H' → Rp K av H' v d → Q v H'
structure TPFn (P : Program) (w : World) (K : Fg) (mg : Str → Option Value) (base : Heap) (T : List (Addr × Str)) (x : Str) (k np cst : Nat) (Wf : WF) : Prop where
  len : ∀ ds ed Q, Wf ds ed Q → ds.length = np
  ex : ∃ (f : Addr) (fd : FuncData) (ps : List Str), mg x = some (.ref f) ∧ PySem.W.keepIn K (.ref f) = true ∧ Binds K fd ps [] ∧ FnOk P w K mg base (L2.CX P w) k f fd ps (spTP K T np cst Wf)
section
variable {ι : Type} {X : ι → Cx} {K : Fg} {W : Ctl} {c : Nat} {e : Expr} {es : List Expr} {wl : WL} {pos p2 : Pos}
theorem de_callT {P : Program} {w : World} {mg : Str → Option Value} {base : Heap} {T : List (Addr × Str)} {x : Str} {k kk np : Nat} {Wf : WF} (F : TFn P w K mg base T x k np Wf) (hF : Fam X P w K mg base) (hp : ∀ Q, W.pc Q → HasT T Q) (tk : ∀ i, Takes (X i) W.w) (hr : ∀ i, Room kk (X i).A) (h : DA X K W c (e :: es) wl) (hk : k ≤ kk := by decide)
    (hg : ∀ i, Gl (X i) x := by intro _; rfl) (hdb : (x == ("__debug__" : Str)) = false := by decide) (he : ∀ i, starEach (e :: es) (X i).env = (false, eval e (X i).env) :: starEach es (X i).env := by intro _; rfl) (hpl : ∀ i, (backTo pos (starEach es (X i).env)).any (·.1) = false := by intro _; rfl) :
    DE X K W c (.Call (.Name x p2) (e :: es) [] pos) (wCall Wf wl) := by
  obtain ⟨ta, pa, s⟩ := h
  obtain ⟨f, fd, ps, h1, h2, h3, h4⟩ := F.ex
  refine ⟨tCallS (spT K T np Wf) (L2.WE W.w) ta, fun i => ?_, fun P' av H0 ed hw n H σ G Qd L h Q q => ?_⟩
  · obtain ⟨e1, e2, e3, e4, e5⟩ := hF i
    subst e1; subst e2; subst e3; subst e4; subst e5
    exact pe_callS (h4.mono (Nat.le_refl _)) ((hr i).mono hk) (hg i) h1 h2 h3 (fun σ => passAt (tk i) σ) (pa i) hdb (he i) (hpl i)
  · refine s P' av H0 ed hw n H σ G _ L h _ fun vs H1 ds hd L1 e1 r1 => ?_
    refine ⟨by rw [r1.len]; exact F.len ds ed Qd hd, P', n, avo av σ G, ds, ed, Qd, hp P' hw.1, L1.ok, fun _ => L1.isAvo, fun _ => L1.avoNe, r1, hd, fun cls H' hc ex => ?_, fun v H' d hd hk ex r => ?_⟩
    · exact hw.2 cls σ H' hc (L1.ext.trans ex)
    · exact q v H' d hd (L1.grow ex hk) (e1.trans ex) r
theorem de_callTP {P : Program} {w : World} {mg : Str → Option Value} {base : Heap} {T : List (Addr × Str)} {x : Str} {k kk np cst : Nat} {Wf : WF} {p : Addr} (F : TPFn P w K mg base T x k np cst Wf) (hF : Fam X P w K mg base) (hp : ∀ Q, W.pc Q → HasT T Q ∧ ∃ c, HasPen p Q c) (tk : ∀ i, Takes (X i) W.w) (hr : ∀ i, Room kk (X i).A) (h : DA X K W c (e :: es) wl) (hk : k ≤ kk := by decide)
    (hg : ∀ i, Gl (X i) x := by intro _; rfl) (hdb : (x == ("__debug__" : Str)) = false := by decide) (he : ∀ i, starEach (e :: es) (X i).env = (false, eval e (X i).env) :: starEach es (X i).env := by intro _; rfl) (hpl : ∀ i, (backTo pos (starEach es (X i).env)).any (·.1) = false := by intro _; rfl) :
    DE X K W (c + cst) (.Call (.Name x p2) (e :: es) [] pos) (wCallP p Wf wl) := by
  obtain ⟨ta, pa, s⟩ := h
  obtain ⟨f, fd, ps, h1, h2, h3, h4⟩ := F.ex
  refine ⟨tCallS (spTP K T np cst Wf) (L2.WE W.w) ta, fun i => ?_, fun P' av H0 ed hw n H σ G Qd L h Q q => ?_⟩
  · obtain ⟨e1, e2, e3, e4, e5⟩ := hF i
    subst e1; subst e2; subst e3; subst e4; subst e5
    exact pe_callS (h4.mono (Nat.le_refl _)) ((hr i).mono hk) (hg i) h1 h2 h3 (fun σ => passAt (tk i) σ) (pa i) hdb (he i) (hpl i)
  · obtain ⟨hT, cc, hpn⟩ := hp P' hw.1
    refine s P' av H0 ed hw (n + cst) H σ G _ (L.le (by omega)) h _ fun vs H1 ds hd L1 e1 r1 => ?_
    obtain ⟨q', r, e0, e2, hd2⟩ := penA_of hd
    subst e0
    subst e2
    cases r1 with
    | cons r0 rr =>
      cases r0
      refine ⟨by rw [List.length_cons, rr.len, F.len r ed Qd hd2], q', cc, P', n, avo av σ G, _, r, ed, Qd, rfl, hT, hpn, L1.ok, fun _ => L1.isAvo, fun _ => L1.avoNe, rr, hd2, fun cls H' hc ex => hw.2 cls σ H' hc (L1.ext.trans ex), fun v H' d hd hk ex r => ?_⟩
      exact q v H' d hd (L1.grow ex hk) (e1.trans ex) r
end
/-! ### their bodies -/
theorem loc_startP {P : Pn} {K : Fg} {av : Av} {H : Hp} {n : Nat} {N : List Str} {vs : List V} {ds : List D} (ha : ∀ a, av a → H a ≠ none) (r : Rps K av H vs ds) (ok : P.ok n H) (pav : ∀ a, P.is a → av a) : LocOk P K av H n H (L2.start N vs) (startG N ds) := by
  have L0 : LocOk noPen K av H 0 H (L2.start N vs) (startG N ds) := loc_start ha r
  exact ⟨L0.len, L0.sl, L0.inj, .refl _ _, L0.fr, ok, pav, ha⟩
theorem tfn_of {P : Program} {w : World} {K : Fg} {mg : Str → Option Value} {base : Heap} {T : List (Addr × Str)} {x : Str} {st : Stmt} {f cF : Addr} {oc kV doc pm ct : Value} {od an : Option Addr} {osl : Array (Option Value)} {N ps : List Str} {k np : Nat} {Wf : WF} {wb : WS} (lk : K.lookup f = some ⟨oc, od, .func (PySem.W.fnOf x x (defArgs st) (defBody st) (defScope st) .none kV doc pm an (.ref cF) ct), osl⟩) (hcd : PySem.W.codeIn K (.ref cF) x = true) (kp : PySem.W.keepIn K (.ref f) = true) (S : FnScope N ps (defScope st)) (g : mg x = some (.ref f)) (b : Binds K (PySem.W.fnOf x x (defArgs st) (defBody st) (defScope st) .none kV doc pm an (.ref cF) ct) ps []) (hnp : ps.length = np)
    (hlen : ∀ ds ed Q, Wf ds ed Q → ds.length = np)
    (hbody : ∀ (A : Around) (outer : List Env) (s : Shared) (H : Hp) (E : XK), Room k (A.deeper (envOfC x (defScope st) s.heap.objs.size f (.ref cF))) →
      DSs (fun _ : Unit => cxOf (L2.CX P w) P w K mg base N x (defScope st) f (.ref cF) A outer s H E) K ⟨fun cls d _ H => E cls d H, HasT T⟩ 0 (defBody st) wb)
    (hw : ∀ ds ed Q, Wf ds ed Q → wb (startG N ds) (dEnds ed Q)) : TFn P w K mg base T x (k + 1) np Wf := by
  refine ⟨hlen, f, _, ps, g, kp, b, ?_⟩
  refine fn_of lk hcd S (fun vs H Q E h => by rw [h.1, hnp]) fun A outer s H vs Q E hr h => ?_
  obtain ⟨hl, P', n, av, ds, ed, Qd, hT, hok, pav, ha, r, hwf, hE, hQ⟩ := h
  obtain ⟨ts, pss, sem⟩ := hbody A outer s H E hr
  refine ⟨ts, pss (), ?_⟩
  refine sem P' av H (dEnds ed Qd) ⟨hT, fun cls σ H' hc ex => hE cls H' hc ex⟩ n H _ _ (loc_startP ha r hok pav) (hw ds ed Qd hwf) _ ⟨?_, fun _ _ _ z => z.elim, fun _ _ _ z => z.elim, ?_, ?_⟩
  · exact fun σ' H' G' h' L' r' => hQ _ H' _ h' L'.ok L'.ext .non
  · exact fun v H' d h' e' k' r' => hQ v H' d h' k' e' r'
  · exact fun p xs H' ds h' e' k' h0 h1 r' => hQ _ H' _ h' k' e' (rp_fresh ha h0 h1 r')
theorem tpfn_of {P : Program} {w : World} {K : Fg} {mg : Str → Option Value} {base : Heap} {T : List (Addr × Str)} {x : Str} {st : Stmt} {f cF : Addr} {oc kV doc pm ct : Value} {od an : Option Addr} {osl : Array (Option Value)} {N ps : List Str} {k np cst c' : Nat} {Wf : WF} {wb : Addr → WS} (lk : K.lookup f = some ⟨oc, od, .func (PySem.W.fnOf x x (defArgs st) (defBody st) (defScope st) .none kV doc pm an (.ref cF) ct), osl⟩) (hcd : PySem.W.codeIn K (.ref cF) x = true) (kp : PySem.W.keepIn K (.ref f) = true) (S : FnScope N ps (defScope st)) (g : mg x = some (.ref f)) (b : Binds K (PySem.W.fnOf x x (defArgs st) (defBody st) (defScope st) .none kV doc pm an (.ref cF) ct) ps []) (hnp : ps.length = np + 1)
    (hlen : ∀ ds ed Q, Wf ds ed Q → ds.length = np)
    (hbody : ∀ (p : Addr) (A : Around) (outer : List Env) (s : Shared) (H : Hp) (E : XK), Room k (A.deeper (envOfC x (defScope st) s.heap.objs.size f (.ref cF))) →
      DSs (fun _ : Unit => cxOf (L2.CX P w) P w K mg base N x (defScope st) f (.ref cF) A outer s H E) K ⟨fun cls d _ H => E cls d H, fun Q => HasT T Q ∧ ∃ c, HasPen p Q c⟩ c' (defBody st) (wb p))
    (hcst : c' ≤ cst)
    (hw : ∀ p ds ed Q, Wf ds ed Q → wb p (startG N (.obj (.ref p) :: ds)) (dEnds ed Q)) : TPFn P w K mg base T x (k + 1) np cst Wf := by
  refine ⟨hlen, f, _, ps, g, kp, b, ?_⟩
  refine fn_of lk hcd S (fun vs H Q E h => by rw [h.1, hnp]) fun A outer s H vs Q E hr h => ?_
  obtain ⟨hl, p, c, P', n, av, rest, ds, ed, Qd, rfl, hT, hP, hok, pav, ha, r, hwf, hE, hQ⟩ := h
  obtain ⟨ts, pss, sem⟩ := hbody p A outer s H E hr
  refine ⟨ts, pss (), ?_⟩
  have L := loc_startP (P := P') (N := N) ha (.cons (.obj (.ref p)) r) hok pav
  refine sem P' av H (dEnds ed Qd) ⟨⟨hT, c, hP⟩, fun cls σ H' hc ex => hE cls H' hc ex⟩ n H _ _ (L.le (by omega)) (hw p ds ed Qd hwf) _ ⟨?_, fun _ _ _ z => z.elim, fun _ _ _ z => z.elim, ?_, ?_⟩
  · exact fun σ' H' G' h' L' r' => hQ _ H' _ h' L'.ok L'.ext .non
  · exact fun v H' d h' e' k' r' => hQ v H' d h' k' e' r'
  · exact fun p xs H' ds h' e' k' h0 h1 r' => hQ _ H' _ h' k' e' (rp_fresh ha h0 h1 r')
/-- the rest of the law's def is read with the pen and the tables T -/
theorem rest_penT {X : Cx} {K : Fg} {E : XK} {cst : Nat} {T : List (Addr × Str)} {sts : List Stmt} {wb : WS} {N : List Str} {a p c : Addr} {H' : Hp} {Q : VK} (der : DSs (fun _ : Unit => X) K ⟨fun cls d _ H => E cls d H, fun Q => HasT T Q ∧ ∃ c, HasPen p Q c⟩ cst sts wb) (hl : 2 ≤ N.length) (hc : cst ≤ 1000000000)
    (hp : penOk p c 1000000000 H') (hT : ∀ t ∈ T, H' t.1 = some (.tbl #[])) (h : wb (G0 N p) (dEnds (fun _ => False) fun d => d = .bl true)) (hQ : ∀ H2, Q (.bl true) H2) :
    der.choose { nx := fun _ H' => Q .non H', rt := Q } ((L2.start N [.ref a]).set 1 (some (.ref p))) H' := by
  have tb : Tabs T H' := fun t ht => ⟨#[], hT t ht, trivial, fun pos cv hcv => nomatch hcv⟩
  have ok : (penT p c T).ok 1000000000 H' := ⟨hp, tb⟩
  have L : LocOk (penT p c T) K (penT p c T).is H' 1000000000 H' ((L2.start N [.ref a]).set 1 (some (.ref p))) (G0 N p) := loc_pen hl ok (fun _ z => z) fun x z => (penT p c T).al ok z
  refine der.choose_spec.2 (penT p c T) _ H' (dEnds (fun _ => False) fun d => d = .bl true) ⟨⟨hasT_pen, c, hasPenT⟩, fun _ _ _ z => z.elim⟩ 0 H' _ _ (L.le (by omega)) h _ ⟨(fun _ _ _ z => nomatch (show D.non = .bl true from z)), fun _ _ _ z => z.elim, fun _ _ _ z => z.elim, fun v H2 d hd _ _ r => ?_, fun _ _ _ _ z => nomatch (show D.lst _ = .bl true from z)⟩
  have hd : d = .bl true := hd
  subst hd
  cases r
  exact hQ H2
end DL

namespace DL
open PySem PySem.Spec PyProof.Rows L2
/-! ### a dict of True by a comprehension -/
def addU {α : Type} [DecidableEq α] (acc : List α) (x : α) : List α := if x ∈ acc then acc else acc ++ [x]
theorem addU_pos {α : Type} [DecidableEq α] {acc : List α} {x : α} (h : x ∈ acc) : addU acc x = acc := if_pos h
theorem addU_neg {α : Type} [DecidableEq α] {acc : List α} {x : α} (h : ¬ x ∈ acc) : addU acc x = acc ++ [x] := if_neg h
def dedup {α : Type} [DecidableEq α] (xs : List α) : List α := xs.foldl addU []
theorem compWD_map {wg : WG} {wk wv : WE} {G : Gm} {f : D → Key} {g : D → D} : ∀ {ds : List D} {acc : List KD} {Q : List KD → Prop}, (∀ d ∈ ds, ∀ R : D → D → Prop, R (keyD (f d)) (g d) → wg d G fun G1 => wk G1 (fun _ => False) fun x => wv G1 (fun _ => False) fun y => R x y) → Q (ds.foldl (fun acc d => putG acc (f d) (g d)) acc) → compWD wg wTt wk wv G ds acc Q
  | [], acc, Q, h, hq => hq
  | d :: r, acc, Q, h, hq => by
    have z := h d List.mem_cons_self (fun x y => onO (keyOf x) fun k => compWD wg wTt wk wv G r (putG acc k y) Q) (by
      have e : keyOf (keyD (f d)) = some (f d) := by cases f d <;> rfl
      show onO (keyOf (keyD (f d))) _
      rw [e]
      exact compWD_map (fun d' m => h d' (List.mem_cons_of_mem _ m)) hq)
    show wg d G fun G1 => fork true _ _
    simp only [fork_tt]
    exact z
theorem putG_true (ks : List Key) (k : Key) : putG (ks.map fun k => (k, D.bl true)) k (.bl true) = (addU ks k).map fun k => (k, D.bl true) := by
  unfold putG
  have e : ((ks.map fun k => (k, D.bl true)).any fun kv => decide (kv.1 = k)) = decide (k ∈ ks) := by
    rw [List.any_map]
    induction ks with
    | nil => rfl
    | cons a r ih =>
      rw [List.any_cons, ih]
      by_cases h : a = k
      · subst h; simp
      · have h' : ¬ k = a := fun z => h z.symm
        simp [h, h']
  rw [e]
  by_cases h : k ∈ ks
  · rw [decide_eq_true h, if_pos rfl, addU_pos h, List.map_map]
    refine List.map_congr_left fun x _ => ?_
    show (if x = k then (x, D.bl true) else (x, D.bl true)) = (x, D.bl true)
    split <;> rfl
  · rw [decide_eq_false h, if_neg (by decide), addU_neg h, List.map_append]
    rfl
theorem fold_true (f : D → Key) : ∀ (ds : List D) (ks : List Key), ds.foldl (fun acc d => putG acc (f d) (.bl true)) (ks.map fun k => (k, D.bl true)) = ((ds.map f).foldl addU ks).map fun k => (k, D.bl true)
  | [], ks => rfl
  | d :: r, ks => by
    rw [List.foldl_cons, putG_true, fold_true f r, List.map_cons, List.foldl_cons]
theorem dicD_true (ks : List Key) : dicD (ks.map fun k => (k, D.bl true)) = tD ks := by
  unfold dicD
  rw [List.map_map, List.map_map]
  show D.dic (ks.map id) _ = _
  rw [List.map_id]
  rfl
theorem compLL_map {wg : WG} {wi1 : WL} {wg1 : WG} {wt1 : WT} {we : WE} {vs1 : List Nat} {G : Gm} (f : D → List D) (B : Nat) : ∀ {ds acc : List D} {Q : List D → Prop}, acc.length + (ds.flatMap f).length ≤ B →
    (∀ d ∈ ds, ∀ (acc : List D) (R : List D → Prop), acc.length + (f d).length ≤ B → R (acc ++ f d) → wg d G fun G1 => wi1 G1 (fun _ => False) fun es => acc.length + es.length ≤ sizeLine ∧ compW wg1 wt1 we (inG G1 vs1) es acc R) → Q (acc ++ ds.flatMap f) → compLL wg wi1 wg1 wt1 we vs1 G ds acc Q
  | [], acc, Q, _, _, hq => by rw [List.flatMap_nil, List.append_nil] at hq; exact hq
  | d :: r, acc, Q, hB, h, hq => by
    rw [List.flatMap_cons] at hq hB
    rw [List.length_append] at hB
    refine h d List.mem_cons_self acc (fun acc' => compLL wg wi1 wg1 wt1 we vs1 G r acc' Q) (by omega) ?_
    refine compLL_map f B (by rw [List.length_append]; omega) (fun d' m => h d' (List.mem_cons_of_mem _ m)) ?_
    rw [List.append_assoc]
    exact hq
/-! ### once each -/
theorem fold_mem {α : Type} [DecidableEq α] {x : α} : ∀ {xs acc : List α}, x ∈ xs.foldl addU acc ↔ x ∈ acc ∨ x ∈ xs
  | [], acc => by simp
  | y :: xs, acc => by
    rw [List.foldl_cons, fold_mem]
    by_cases h : y ∈ acc
    · rw [addU_pos h]
      constructor
      · rintro (h1 | h1)
        · exact .inl h1
        · exact .inr (List.mem_cons_of_mem _ h1)
      · rintro (h1 | h1)
        · exact .inl h1
        · rcases List.mem_cons.mp h1 with rfl | h1
          · exact .inl h
          · exact .inr h1
    · rw [addU_neg h, List.mem_append, List.mem_singleton, List.mem_cons]
      constructor
      · rintro ((h1 | h1) | h1)
        · exact .inl h1
        · exact .inr (.inl h1)
        · exact .inr (.inr h1)
      · rintro (h1 | h1 | h1)
        · exact .inl (.inl h1)
        · exact .inl (.inr h1)
        · exact .inr h1
theorem fold_nodup {α : Type} [DecidableEq α] : ∀ {xs acc : List α}, acc.Nodup → (xs.foldl addU acc).Nodup
  | [], acc, h => h
  | y :: xs, acc, h => by
    rw [List.foldl_cons]
    refine fold_nodup ?_
    by_cases m : y ∈ acc
    · rw [addU_pos m]; exact h
    · rw [addU_neg m, List.nodup_append]
      exact ⟨h, List.pairwise_singleton _ _, fun a ha b hb => by rw [List.mem_singleton.mp hb]; exact fun e => m (e ▸ ha)⟩
theorem dedup_mem {α : Type} [DecidableEq α] {x : α} {xs : List α} : x ∈ dedup xs ↔ x ∈ xs := by unfold dedup; rw [fold_mem]; simp
theorem dedup_nodup {α : Type} [DecidableEq α] (xs : List α) : (dedup xs).Nodup := fold_nodup List.nodup_nil
theorem fold_map {α β : Type} [DecidableEq α] [DecidableEq β] (f : α → β) (hf : ∀ a b, f a = f b → a = b) : ∀ (xs acc : List α), (xs.map f).foldl addU (acc.map f) = (xs.foldl addU acc).map f
  | [], acc => rfl
  | x :: xs, acc => by
    rw [List.map_cons, List.foldl_cons, List.foldl_cons]
    have e : f x ∈ acc.map f ↔ x ∈ acc := ⟨fun h => by obtain ⟨y, hy, e⟩ := List.mem_map.mp h; rw [← hf _ _ e]; exact hy, fun h => List.mem_map_of_mem h⟩
    by_cases m : x ∈ acc
    · rw [addU_pos m, addU_pos (e.mpr m), fold_map f hf]
    · rw [addU_neg m, addU_neg fun z => m (e.mp z), ← fold_map f hf, List.map_append]
      rfl
theorem dedup_map {α β : Type} [DecidableEq α] [DecidableEq β] (f : α → β) (hf : ∀ a b, f a = f b → a = b) (xs : List α) : dedup (xs.map f) = (dedup xs).map f := fold_map f hf xs []
theorem dedup_len {α : Type} [DecidableEq α] (xs : List α) : (dedup xs).length ≤ xs.length := (dedup_nodup xs).length_le_of_subset fun _ h => dedup_mem.mp h
theorem dedup_id {α : Type} [DecidableEq α] {xs : List α} (h : xs.Nodup) : dedup xs = xs := by
  have key : ∀ (ys acc : List α), (acc ++ ys).Nodup → ys.foldl addU acc = acc ++ ys := by
    intro ys
    induction ys with
    | nil => intro acc _; rw [List.append_nil]; rfl
    | cons y ys ih =>
      intro acc h
      rw [List.foldl_cons]
      have ny : ¬ y ∈ acc := fun z => (List.nodup_append.mp h).2.2 y z y List.mem_cons_self rfl
      rw [addU_neg ny, ih (acc ++ [y]) (by rw [List.append_assoc]; exact h), List.append_assoc]
      rfl
  exact key xs [] h
/-! ### the order of words -/
abbrev Wd := List Nat
def leW (x y : Wd) : Bool := decide (x ≤ y)
def leN (x y : Wd) : Bool := decide ((x.length : Int) ≤ y.length)
/-- fewer signs first, those with equally many as strings -/
def Slt (x y : Wd) : Prop := x.length < y.length ∨ x.length = y.length ∧ x < y
theorem wd_total (x y : Wd) : (leW x y || leW y x) = true := by
  rcases List.le_total x y with h | h
  · simp [leW, h]
  · simp [leW, h]
theorem wd_trans (x y z : Wd) (a : leW x y = true) (b : leW y z = true) : leW x z = true := decide_eq_true (List.le_trans (of_decide_eq_true a) (of_decide_eq_true b))
theorem wn_total (x y : Wd) : (leN x y || leN y x) = true := by
  unfold leN
  rcases Int.le_total (x.length : Int) y.length with h | h <;> simp [h]
theorem wn_trans (x y z : Wd) (a : leN x y = true) (b : leN y z = true) : leN x z = true := decide_eq_true (Int.le_trans (of_decide_eq_true a) (of_decide_eq_true b))
theorem slt_irrefl (x : Wd) : ¬ Slt x x := fun h => h.elim (fun h => Nat.lt_irrefl _ h) fun h => List.lt_irrefl x h.2
theorem slt_trans {x y z : Wd} (a : Slt x y) (b : Slt y z) : Slt x z := by
  rcases a with a | ⟨a1, a2⟩ <;> rcases b with b | ⟨b1, b2⟩
  · exact .inl (by omega)
  · exact .inl (by omega)
  · exact .inl (by omega)
  · exact .inr ⟨by omega, List.lt_trans a2 b2⟩
theorem slt_asymm {x y : Wd} (a : Slt x y) (b : Slt y x) : False := slt_irrefl x (slt_trans a b)
theorem wlt_of {x y : Wd} (h : x ≤ y) (n : x ≠ y) : x < y := by
  rcases List.le_total y x with k | k
  · exact absurd (List.le_antisymm h k) n
  · refine Classical.byContradiction fun z => n (List.le_antisymm h ?_)
    exact z
theorem slt_total (x y : Wd) : Slt x y ∨ x = y ∨ Slt y x := by
  rcases Nat.lt_trichotomy x.length y.length with h | h | h
  · exact .inl (.inl h)
  · by_cases e : x = y
    · exact .inr (.inl e)
    · rcases List.le_total x y with k | k
      · exact .inl (.inr ⟨h, wlt_of k e⟩)
      · exact .inr (.inr (.inr ⟨h.symm, wlt_of k fun z => e z.symm⟩))
  · exact .inr (.inr (.inl h))
/-- one list alone ascends and has these members -/
theorem asc_unique {xs ys : List Wd} (a : xs.Pairwise Slt) (b : ys.Pairwise Slt) (h : ∀ w, w ∈ xs ↔ w ∈ ys) : xs = ys := by
  have nd : ∀ {zs : List Wd}, zs.Pairwise Slt → zs.Nodup := fun {zs} p => List.Pairwise.imp (fun {a b} (s : Slt a b) (e : a = b) => slt_irrefl b (by rw [e] at s; exact s)) p
  exact List.Perm.eq_of_pairwise (fun x y _ _ h1 h2 => (slt_asymm h1 h2).elim) a b ((List.perm_ext_iff_of_nodup (nd a) (nd b)).mpr h)
def inOrder (xs : List Wd) : List Wd := (xs.mergeSort leW).mergeSort leN
theorem inOrder_mem {w : Wd} {xs : List Wd} : w ∈ inOrder xs ↔ w ∈ xs := by unfold inOrder; rw [List.mem_mergeSort, List.mem_mergeSort]
theorem inOrder_len (xs : List Wd) : (inOrder xs).length = xs.length := by unfold inOrder; rw [List.length_mergeSort, List.length_mergeSort]
theorem two_sub {α : Type} {x y : α} (n : x ≠ y) : ∀ {l : List α}, x ∈ l → y ∈ l → [x, y].Sublist l ∨ [y, x].Sublist l
  | [], h, _ => nomatch h
  | a :: l, hx, hy => by
    rcases List.mem_cons.mp hx with rfl | hx
    · rcases List.mem_cons.mp hy with rfl | hy
      · exact absurd rfl n
      · exact .inl (List.Sublist.cons_cons _ (List.singleton_sublist.mpr hy))
    · rcases List.mem_cons.mp hy with rfl | hy
      · exact .inr (List.Sublist.cons_cons _ (List.singleton_sublist.mpr (by assumption)))
      · rcases two_sub n hx hy with h | h
        · exact .inl (h.cons _)
        · exact .inr (h.cons _)
theorem two_not {α : Type} {x y : α} : ∀ {l : List α}, l.Nodup → [x, y].Sublist l → [y, x].Sublist l → False
  | [], _, h, _ => nomatch h
  | a :: l, nd, h, k => by
    have nd' := List.nodup_cons.mp nd
    cases h with
    | cons _ h =>
      cases k with
      | cons _ k => exact two_not nd'.2 h k
      | cons_cons _ k => exact nd'.1 (h.subset (by simp))
    | cons_cons _ h =>
      cases k with
      | cons _ k => exact nd'.1 (k.subset (by simp))
      | cons_cons _ k => exact nd'.1 (List.singleton_sublist.mp h)
theorem inOrder_asc {xs : List Wd} (nd : xs.Nodup) : (inOrder xs).Pairwise Slt := by
  have nS : (xs.mergeSort leW).Nodup := (List.mergeSort_perm xs leW).nodup_iff.mpr nd
  have nA : (inOrder xs).Nodup := (List.mergeSort_perm _ leN).nodup_iff.mpr nS
  rw [List.pairwise_iff_forall_sublist]
  intro x y h
  have hl : leN x y = true := List.pairwise_iff_forall_sublist.mp (List.pairwise_mergeSort wn_trans wn_total (xs.mergeSort leW)) h
  have hl : (x.length : Int) ≤ y.length := of_decide_eq_true hl
  rcases Nat.eq_or_lt_of_le (Int.ofNat_le.mp hl) with e | e
  · have ne : x ≠ y := fun z => by
      subst z
      have := nA.sublist h
      simp at this
    have mx : x ∈ xs.mergeSort leW := List.mem_mergeSort.mp (h.subset (by simp : x ∈ [x, y]))
    have my : y ∈ xs.mergeSort leW := List.mem_mergeSort.mp (h.subset (by simp : y ∈ [x, y]))
    rcases two_sub ne mx my with s | s
    · have := List.pairwise_iff_forall_sublist.mp (List.pairwise_mergeSort wd_trans wd_total xs) s
      exact .inr ⟨e, wlt_of (of_decide_eq_true this) ne⟩
    · have : [y, x].Sublist (inOrder xs) := List.sublist_mergeSort wn_trans wn_total (by
        refine List.Pairwise.cons (fun z hz => ?_) (List.pairwise_singleton _ _)
        rw [List.mem_singleton.mp hz]
        exact decide_eq_true (by omega)) s
      exact (two_not nA h this).elim
  · exact .inl e
/-- the words, each once, in their order -/
def canon (xs : List Wd) : List Wd := inOrder (dedup xs)
theorem canon_mem {w : Wd} {xs : List Wd} : w ∈ canon xs ↔ w ∈ xs := by unfold canon; rw [inOrder_mem, dedup_mem]
theorem canon_asc (xs : List Wd) : (canon xs).Pairwise Slt := inOrder_asc (dedup_nodup xs)
theorem canon_of {xs ys : List Wd} (a : ys.Pairwise Slt) (h : ∀ w, w ∈ ys ↔ w ∈ xs) : ys = canon xs := asc_unique a (canon_asc xs) fun w => (h w).trans canon_mem.symm
theorem canon_len (xs : List Wd) : (canon xs).length ≤ xs.length := by unfold canon; rw [inOrder_len]; exact dedup_len xs
end DL

namespace DL
open PySem PySem.Spec PyProof.Rows L2
/-! ### texts, as lists of signs -/
theorem onO_i {α : Type} {o : Option α} {a : α} {Q : α → Prop} (e : o = some a) (h : Q a) : onO o Q := by rw [e]; exact h
abbrev txt (l : List Nat) : Str := ⟨l.toArray⟩
theorem chars_txt (w : List Nat) : chars (txt w) = w.map fun c => .str ⟨#[c]⟩ := rfl
theorem txt_inj {a b : List Nat} (h : txt a = txt b) : a = b := by
  have := congrArg (fun z : Str => z.cps.toList) h
  exact this
theorem txt_of (z : Str) : z = txt z.cps.toList := rfl
theorem txt_cat (a b : List Nat) : (txt a ++ txt b : Str) = txt (a ++ b) := by
  show (⟨a.toArray ++ b.toArray⟩ : Str) = ⟨(a ++ b).toArray⟩
  rw [List.append_toArray]
theorem txt_app (w : List Nat) (c : Nat) : (txt w ++ (⟨#[c]⟩ : Str) : Str) = txt (w ++ [c]) := txt_cat w [c]
theorem cut_to {w : List Nat} {a : Nat} : cutS (txt w) none (some (a : Nat)) = txt (w.take a) := by
  show txt ((w.drop 0).take (HT.sIx w.length w.length (some (a : Nat)) - 0)) = _
  rw [HT.sIx_nat, List.drop_zero, Nat.sub_zero]
  rcases Nat.le_total a w.length with h | h
  · rw [Nat.min_eq_left h]
  · rw [Nat.min_eq_right h, List.take_of_length_le (Nat.le_refl _), List.take_of_length_le h]
theorem cut_from {w : List Nat} {a : Nat} : cutS (txt w) (some (a : Nat)) none = txt (w.drop a) := by
  show txt ((w.drop (HT.sIx w.length 0 (some (a : Nat)))).take (w.length - HT.sIx w.length 0 (some (a : Nat)))) = _
  rw [HT.sIx_nat]
  rcases Nat.le_total a w.length with h | h
  · rw [Nat.min_eq_left h, List.take_of_length_le (by rw [List.length_drop]; omega)]
  · rw [Nat.min_eq_right h, List.drop_of_length_le h, List.drop_of_length_le (Nat.le_refl _), List.take_nil]
theorem cut_mid {w : List Nat} {a b : Nat} : cutS (txt w) (some (a : Nat)) (some (b : Nat)) = txt ((w.drop a).take (b - a)) := by
  show txt ((w.drop (HT.sIx w.length 0 (some (a : Nat)))).take (HT.sIx w.length w.length (some (b : Nat)) - HT.sIx w.length 0 (some (a : Nat)))) = _
  rw [HT.sIx_nat, HT.sIx_nat]
  rcases Nat.le_total a w.length with h | h
  · rw [Nat.min_eq_left h]
    rcases Nat.le_total b w.length with k | k
    · rw [Nat.min_eq_left k]
    · rw [Nat.min_eq_right k, List.take_of_length_le (by rw [List.length_drop]; omega), List.take_of_length_le (by rw [List.length_drop]; omega)]
  · rw [Nat.min_eq_right h, List.drop_of_length_le h, List.drop_of_length_le (Nat.le_refl _), List.take_nil, List.take_nil]
theorem fold_cps (x : Array Nat) : ∀ (k : Nat) (acc : Array Nat), ((List.replicate k x).foldl (· ++ ·) acc).toList = acc.toList ++ (List.replicate k x.toList).flatten
  | 0, acc => by simp
  | k + 1, acc => by
    rw [List.replicate_succ, List.foldl_cons, fold_cps x k, Array.toList_append, List.replicate_succ, List.flatten_cons, List.append_assoc]
theorem mul_txt (w : List Nat) (k : Nat) : Txt.mul (txt w) (k : Nat) = txt (List.replicate k w).flatten := by
  unfold Txt.mul
  by_cases h0 : k = 0
  · subst h0
    rw [if_pos (by decide)]
    rfl
  · rw [if_neg (by omega)]
    by_cases h1 : (((k : Int) == 1) || ((txt w).length == 0)) = true
    · rw [if_pos h1]
      rw [Bool.or_eq_true] at h1
      rcases h1 with h1 | h1
      · have : k = 1 := by have := eq_of_beq h1; omega
        subst this
        rw [List.replicate_one, List.flatten_cons, List.flatten_nil, List.append_nil]
      · have e : w.length = 0 := eq_of_beq h1
        have e := List.eq_nil_of_length_eq_zero e
        subst e
        have : ∀ n, (List.replicate n ([] : List Nat)).flatten = [] := fun n => by induction n with
          | zero => rfl
          | succ n ih => rw [List.replicate_succ, List.flatten_cons, ih]; rfl
        rw [this]
    · rw [if_neg h1, Int.toNat_natCast]
      have e := fold_cps w.toArray k #[]
      show (⟨_⟩ : Str) = ⟨_⟩
      congr 1
      apply Array.toList_inj.mp
      rw [e]
      show [] ++ (List.replicate k w).flatten = _
      rw [List.nil_append]
theorem mul_one (c k : Nat) : Txt.mul (txt [c]) (k : Nat) = txt (List.replicate k c) := by
  rw [mul_txt]
  congr 2
  induction k with
  | zero => rfl
  | succ k ih => rw [List.replicate_succ, List.replicate_succ, List.flatten_cons, ih]; rfl
theorem joinL_signs : ∀ cs : List Nat, TL.joinL [] (cs.map fun c => [c]) = cs
  | [] => rfl
  | [c] => rfl
  | c :: d :: r => by
    have := joinL_signs (d :: r)
    show [c] ++ ([] ++ TL.joinL [] ((d :: r).map fun c => [c])) = _
    rw [this]
    rfl
theorem join_signs (cs : List Nat) : Txt.join "" (cs.map fun c => (⟨#[c]⟩ : Str)) = txt cs := by
  have h := TL.tl_join "" (cs.map fun c => (⟨#[c]⟩ : Str))
  rw [List.map_map, show (TL.tl ∘ fun c => (⟨#[c]⟩ : Str)) = fun c => [c] from rfl, show TL.tl "" = [] from rfl, joinL_signs] at h
  rw [TL.join_eq]
  show (⟨_⟩ : Str) = ⟨_⟩
  congr 1
  exact Array.toList_inj.mp h
theorem sum_ones (l : List Nat) : (l.map ((fun x : Str => x.length) ∘ fun c => (⟨#[c]⟩ : Str))).sum = l.length := by
  induction l with
  | nil => rfl
  | cons c l ih => rw [List.map_cons, List.sum_cons, ih, List.length_cons]; show 1 + _ = _; omega
end DL

namespace DL
open PySem PySem.Spec PyProof.Rows L2
/-! ### in, not in, over nested data -/
def fInD (g : Bool → Bool) : D → D → (D → Prop) → Prop := fun x y Q => onO (pyD x) fun p => match y with
  | .lst ys => onO (pyDs ys) fun qs => SeqAt.shaped p = true ∧ SeqAt.shaped (.list qs) = true ∧ Q (.bl (g (qs.any fun z => PyData.eqv z p)))
  | _ => False
theorem opInDeep {K : Fg} {g : Bool → Bool} {r : R2} (hr : ∀ x y H Q, (∃ d ds, Dp K H x d ∧ Dp K H y (.list ds) ∧ SeqAt.shaped d = true ∧ SeqAt.shaped (.list ds) = true ∧ Q (.bl (g (ds.any fun z => PyData.eqv z d))) H) → r x y H Q) : OpS K r (fInD g) := by
  intro is av H x y dx dy Qd hi ha rx ry h Q q
  obtain ⟨p, e1, h⟩ := onO_of h
  cases dy with
  | lst ys =>
    obtain ⟨qs, e2, h1, h2, h3⟩ := onO_of h
    exact hr _ _ _ _ ⟨p, qs, rq_dp rx e1, rq_dp ry (by rw [pyD, e2]; rfl), h1, h2, q _ H _ h3 (fun _ _ z => z) (.bl _)⟩
  | _ => exact h.elim
section
variable {ι : Type} {X : ι → Cx} {K : Fg} {W : Ctl} {c1 c2 : Nat} {a b : Expr} {wa wb : WE} {pos : Pos}
theorem dx_inD {k : Nat} (hK : ∀ i, (X i).K = K) (hr : ∀ i, Room k (X i).A) (ha : DR X K W c1 a wa) (hb : DR X K W c2 b wb) (hm : behindInMarks .In b = false := by rfl) : DX X K W (c1 + c2) (.Compare a [.In] [b] pos) (w2 (fInD id) wa wb) :=
  twoX (r := rInD K) (opInDeep fun _ _ _ _ h => h) (fun i _ _ pa pb => by
    have hu : (X i).A.units + 65 < cLine := by have := (hr i).un; omega
    rw [← hK i]; exact ⟨pe_cmpR (op_inD hu) pa pb hm, pt_cmpR (op_inD hu) pa pb hm⟩) ha hb
theorem dx_notInD {k : Nat} (hK : ∀ i, (X i).K = K) (hr : ∀ i, Room k (X i).A) (ha : DR X K W c1 a wa) (hb : DR X K W c2 b wb) (hm : behindInMarks .NotIn b = false := by rfl) : DX X K W (c1 + c2) (.Compare a [.NotIn] [b] pos) (w2 (fInD not) wa wb) :=
  twoX (r := rNotInD K) (opInDeep fun _ _ _ _ h => h) (fun i _ _ pa pb => by
    have hu : (X i).A.units + 65 < cLine := by have := (hr i).un; omega
    rw [← hK i]; exact ⟨pe_cmpR (op_notInD hu) pa pb hm, pt_cmpR (op_notInD hu) pa pb hm⟩) ha hb
/-! ### not in, over a dict of True -/
def rNotInN : R2 := fun y x H Q => (∃ a o, x = .ref a ∧ DGet H a y o ∧ Q (.bl (!o.isSome)) H) ∨ ∃ a kvs, x = .ref a ∧ y = .non ∧ Rd H a (.dK kvs) ∧ Q (.bl true) H
theorem opNotInT : OpS K rNotInN (fInT not) := by
  intro is av H x y dx dy Qd hi ha rx ry h Q q
  cases dy <;> try (cases dx <;> exact h.elim)
  rename_i ks vs
  obtain ⟨p, xs, rfl, n, hl, r⟩ := ry
  cases dx <;> try exact h.elim
  · cases rx
    exact .inr ⟨p, _, rfl, rfl, .inl n.1, q _ H _ h (fun _ _ z => z) (.bl _)⟩
  · rename_i i
    cases rx
    refine .inl ⟨p, _, rfl, DGet.k (k := .inl i) n.1, ?_⟩
    rw [val_zip hl]
    exact q _ H _ h (fun _ _ z => z) (.bl _)
  · rename_i z
    cases rx
    refine .inl ⟨p, _, rfl, DGet.k (k := .inr z) n.1, ?_⟩
    rw [val_zip hl]
    exact q _ H _ h (fun _ _ z => z) (.bl _)
theorem dx_notInT {k : Nat} (hr : ∀ i, Room k (X i).A) (ha : DR X K W c1 a wa) (hb : DR X K W c2 b wb) (hm : behindInMarks .NotIn b = false := by rfl) : DX X K W (c1 + c2) (.Compare a [.NotIn] [b] pos) (w2 (fInT not) wa wb) :=
  twoX opNotInT (fun i _ _ pa pb => by
    have z := pc_dnotinN (hu_of (hr i)) pa pb
    exact ⟨pe_cmp z hm, pt_cmp z hm⟩) ha hb
end
section
variable {ι : Type} {X : ι → Cx} {K : Fg} {W : Ctl} {c1 c2 : Nat} {a e : Expr} {wa : WE} {wl : WL} {apos cpos : Pos}
theorem de_startswith (hK : ∀ i, (X i).K = K) (ha : DR X K W c1 a wa) (hb : DB X K W c2 [e] wl)
    (hbase : ∀ i, attributeBase a "startswith" (X i).env (eval a (X i).env) = eval a (X i).env := by intro _; rfl)
    (hfew : ∀ i, ((backTo cpos (starEach [e] (X i).env)).all (fun x => !x.1) && (backToKw cpos (keywordEach [] (X i).env)).all (fun x => x.1.isSome) && decide ([e].length + ([] : List Keyword).length + (if ([] : List Keyword).isEmpty then 0 else 1) < 30)) = true := by intro _; rfl)
    (hline : (apos.endLine == cpos.line) = true := by rfl) (hs : ∀ i, starEach [e] (X i).env = (false, eval e (X i).env) :: starEach [] (X i).env := by intro _; rfl) : DE X K W (c1 + c2) (.Call (.Attribute a "startswith" apos) [e] [] cpos) (wMe (fStr1 fun a b => .bl (Txt.startswith a b)) isStr wa wl) :=
  de_me (T := "str") (fun _ _ _ _ _ => str_ty) (meStr1 (gv := fun a b => .bl (Txt.startswith a b)) fun _ _ => .bl _) (fun i _ _ pa pl => by rw [← hK i]; exact pe_bmS PySem.F.plainAttrs_str PySem.F.slot_str_startswith PySem.F.type_str_startswith (MtR.toS mt_startswith) pa pl (hbase i) (hfew i) hline (hs i)) ha hb
end
/-! ### a call of a def that a local name holds -/
section
variable {X : Cx} {k i : Nat} {x : Str} {p pos : Pos} {e : Expr} {es : List Expr} {t : TA} {W : WX}
def tCallVS (i : Nat) (Kn : Addr → Sp → Prop) (W : WX) (t : TA) : TE := fun σ H Q => ∃ f sp, σ[i]? = some (some (.ref f)) ∧ Kn f sp ∧ t σ H fun vs H1 => sp vs H1 Q (L2.WE W σ)
theorem pe_callVS {Kn : Addr → Sp → Prop} (A : ∀ f sp, Kn f sp → ∃ fd ps, FnOk X.prog X.w X.K X.mg X.base (L2.CX X.prog X.w) k f fd ps sp ∧ PySem.W.keepIn X.K (.ref f) = true ∧ Binds X.K fd ps []) (hr : Room k X.A) (hN : X.N[i]? = some x) (hv : Vis X.env.scope x) (tk : Takes X W) (ha : PA X (e :: es) t)
    (hdb : (x == ("__debug__" : Str)) = false := by decide) (hcd : (x == ("__classdict__" : Str)) = false := by decide)
    (he : starEach (e :: es) X.env = (false, eval e X.env) :: starEach es X.env := by rfl) (hpl : (backTo pos (starEach es X.env)).any (·.1) = false := by rfl) : PE X (.Call (.Name x p) (e :: es) [] pos) (tCallVS i Kn W t) := by
  refine ⟨fun pins s σ H Q I h => ?_⟩
  obtain ⟨f, sp, hs, hk, ht⟩ := h
  obtain ⟨fd, ps, F, kp, hb⟩ := A f sp hk
  refine wpAny_Call_Name_kw (thn ((pe_var (pos := p) hN hv hdb hcd).run pins s σ H (fun v H1 => v = .ref f ∧ H1 = H) I ⟨.ref f, hs, rfl, rfl⟩) fun u s1 ⟨v, H1, I1, r1, q1⟩ => ?_)
  obtain ⟨rfl, rfl⟩ := q1
  cases r1
  refine PySem.W.callWith_K (h₀ := X.base) I.ok.mod.kin kp (thn (ha.run pos pins s1 σ _ _ I1 ht) fun us s2 ⟨vs, H2, I2, r, q⟩ => ⟨I2.kIn, ?_⟩) he hpl
  exact run_fnS F hr hb (passAt tk σ) I2 r q
end
section
variable {ι : Type} {X : ι → Cx} {K : Fg} {W : Ctl} {c i kk : Nat} {x : Str} {p pos : Pos} {e : Expr} {es : List Expr} {wl : WL}
def wCallV (i : Nat) (Kn : Addr → WF → Prop) (wl : WL) : WE := fun G ed Q => vaS G[i]? fun d => ∃ f Wf, d = .obj (.ref f) ∧ Kn f Wf ∧ wl G ed fun ds => Wf ds ed Q
theorem de_callV {P : Program} {w : World} {mg : Str → Option Value} {base : Heap} {Kn : Addr → WF → Prop} (A : ∀ f Wf, Kn f Wf → ∃ fd ps k np, k ≤ kk ∧ (∀ ds ed Q, Wf ds ed Q → ds.length = np) ∧ FnOk P w K mg base (L2.CX P w) k f fd ps (spOf K np Wf) ∧ PySem.W.keepIn K (.ref f) = true ∧ Binds K fd ps [])
    (hF : Fam X P w K mg base) (tk : ∀ q, Takes (X q) W.w) (hr : ∀ q, Room kk (X q).A) (h : DA X K W c (e :: es) wl) (hN : ∀ q, (X q).N[i]? = some x := by intro _; rfl) (hv : ∀ q, Vis (X q).env.scope x := by intro _; first | exact .inl rfl | exact .inr (.inl rfl) | exact .inr (.inr rfl))
    (hdb : (x == ("__debug__" : Str)) = false := by decide) (hcd : (x == ("__classdict__" : Str)) = false := by decide) (he : ∀ q, starEach (e :: es) (X q).env = (false, eval e (X q).env) :: starEach es (X q).env := by intro _; rfl) (hpl : ∀ q, (backTo pos (starEach es (X q).env)).any (·.1) = false := by intro _; rfl) :
    DE X K W c (.Call (.Name x p) (e :: es) [] pos) (wCallV i Kn wl) := by
  obtain ⟨ta, pa, s⟩ := h
  refine ⟨tCallVS i (fun f sp => ∃ Wf np, Kn f Wf ∧ sp = spOf K np Wf ∧ (∀ ds ed Q, Wf ds ed Q → ds.length = np) ∧ ∃ fd ps k, k ≤ kk ∧ FnOk P w K mg base (L2.CX P w) k f fd ps (spOf K np Wf) ∧ PySem.W.keepIn K (.ref f) = true ∧ Binds K fd ps []) W.w ta, fun q => ?_, fun P' av H0 ed hw n H σ G Qd L h Q qq => ?_⟩
  · obtain ⟨e1, e2, e3, e4, e5⟩ := hF q
    subst e1; subst e2; subst e3; subst e4; subst e5
    refine pe_callVS (fun f sp hk => ?_) (hr q) (hN q) (hv q) (tk q) (pa q) hdb hcd (he q) (hpl q)
    obtain ⟨Wf, np, _, rfl, _, fd, ps, k, hk, F, kp, hb⟩ := hk
    exact ⟨fd, ps, F.mono hk, kp, hb⟩
  · obtain ⟨d, e0, f, Wf, rfl, hk, h⟩ := vaS_of h
    obtain ⟨o, e1, v, e2, r⟩ := L.sl i _ e0
    subst e2
    cases r
    obtain ⟨fd, ps, k, np, hkk, hlen, F, kp, hb⟩ := A f Wf hk
    refine ⟨f, spOf K np Wf, e1, ⟨Wf, np, hk, rfl, hlen, fd, ps, k, hkk, F, kp, hb⟩, ?_⟩
    refine s P' av H0 ed hw n H σ G _ L h _ fun vs H1 ds hd L1 e1 r1 => ?_
    refine ⟨by rw [r1.len]; exact hlen ds ed Qd hd, avo av σ G, ds, ed, Qd, fun _ => L1.avoNe, r1, hd, fun cls H' hc ex => ?_, fun v H' d hd ex r => ?_⟩
    · exact hw.2 cls σ H' hc (L1.ext.trans (Ex.ext ex))
    · exact qq v H' d hd (L1.growEx ex) (e1.trans (Ex.ext ex)) r
end
end DL

namespace DL
open PySem PySem.Spec PyProof.Rows L2
/-! ### loops with a bound of their own -/
def wLcM (m cb : Nat) (vs : List Nat) (wi : WL) (wg : WG) (wt : WT) (we : WE) : WL := fun G ed Q => wi G ed fun ds => ds.length < sizeLine ∧ (cb = 0 ∨ ds.length ≤ m) ∧ compW wg wt we (inG G vs) ds [] Q
def wForM (m cb : Nat) (wi : WL) (wg : WG) (wb : WS) : WS := fun G De => wi G De.ex fun ds => (cb = 0 ∨ ds.length ≤ m) ∧ forW wg wb ds G De
section
variable {K : Fg} {W : Ctl} {ci ct ce : Nat} {wi : WL}
theorem sf_lcM {m : Nat} {is vs : List Nat} {wg : WG} {we : WE} {wi' : TI} {g : TG} {tt : TT} {te : TE}
    (si : ∀ (P : Pn) (av : Av) (H0 : Hp) (ed : Value → Prop), HW W P H0 ed → ∀ (n : Nat) (H : Hp) (σ : Sg) (G : Gm) (Qd : List D → Prop), LocOk P K av H0 (n + ci) H σ G → wi G ed Qd → ∀ R : It → Hp → Prop, (∀ J H' ds, Qd ds → LocOk P K av H0 n H' σ G → Ext P.is H H' → Walks P K (avo av σ G) H' J ds → R J H') → wi' σ H R)
    (sg : ∀ (P : Pn) (av : Av) (H0 : Hp) (n : Nat) (H : Hp) (σ : Sg) (G : Gm) (v : V) (d : D) (Qd : Gm → Prop), LocOk P K av H0 n H σ G → Rp K (avo av σ G) H v d → wg d G Qd → ∀ Q : L2.St → Hp → Prop, (∀ σ' G', Qd G' → LocOk P K av H0 n H σ' G' → (∀ a, Own σ' G' a → Own σ G a) → (∀ vs, (∀ i ∈ is, i ∈ vs) → wipe σ' vs = wipe σ vs) → Q σ' H) → g v σ H Q)
    (stt : ∀ (P : Pn) (av : Av) (H0 : Hp) (ed : Value → Prop), HW W.no P H0 ed → ∀ (n : Nat) (H : Hp) (σ : Sg) (G : Gm) (Qd : Bool → Prop), LocOk P K av H0 (n + ct) H σ G → wt G ed Qd → ∀ Q : Bool → Hp → Prop, (∀ b H', Qd b → LocOk P K av H0 n H' σ G → Ext P.is H H' → Q b H') → tt σ H Q)
    (se : ∀ (P : Pn) (av : Av) (H0 : Hp) (ed : Value → Prop), HW W.no P H0 ed → ∀ (n : Nat) (H : Hp) (σ : Sg) (G : Gm) (Qd : D → Prop), LocOk P K av H0 (n + ce) H σ G → we G ed Qd → ∀ Q : VK, (∀ v H' d, Qd d → LocOk P K av H0 n H' σ G → Ext P.is H H' → Rp K (avo av σ G) H' v d → Q v H') → te σ H Q)
    (hv : ∀ i ∈ is, i ∈ vs) : SF K W (ci + m * (ct + ce)) (tLc wi' g tt te vs) (wLcM m (ct + ce) vs wi wg wt we) := by
  intro P av H0 ed hw n H σ G Qd L h Q q
  refine si P av H0 ed hw (n + m * (ct + ce)) H σ G _ (L.le (by omega)) h _ fun J H1 ds hd L1 e1 Wk => ?_
  obtain ⟨hz, hc, hd⟩ := hd
  intro D hD
  obtain ⟨GG, Y, wk, hG, hy⟩ := Wk.ex
  have avD : ¬ avo av σ G D := fun z => L1.avoNe z hD
  have isD : ¬ P.is D := fun z => avD (L1.isAvo z)
  have small : ∀ i, i ≤ ds.length → (ds.length - i) * (ct + ce) ≤ m * (ct + ce) := fun i _ => by
    rcases hc with hc | hc
    · rw [hc]; simp
    · exact Nat.mul_le_mul_right _ (by omega)
  refine lc_it wk (fun i H' => ∃ xs acc, i ≤ ds.length ∧ Ext P.is H1 H' ∧ Ext (avo av σ G) H1 H' ∧ P.ok (n + (ds.length - i) * (ct + ce)) H' ∧ H' D = some (.lst xs) ∧ acc.length ≤ i ∧ Rps K (avp (avo av σ G) D) H' xs acc ∧ compW wg wt we (inG G vs) (ds.drop i) acc Qd)
    ⟨[], [], Nat.zero_le _, .new hD, .new hD, P.mono (L1.new hD).ok (by have := small 0 (Nat.zero_le _); omega), upd_same, Nat.le_refl _, .nil, hd⟩ (fun i H' _ ⟨_, _, _, _, ea, _⟩ => hG H' ea) ?_ ?_
  · rintro i x H' H2 hi ⟨xs, acc, hle, e', ea, k', hx, hl, hr, hcw⟩ y
    have Li := L1.inner vs e' k' hD (by rw [hx]; exact fun z => nomatch z)
    have no : ∀ a, ¬ Own (wipe σ vs) (inG G vs) a := fun a ⟨j, ds, h1, _⟩ => inG_no h1
    obtain ⟨d, hd, ex, rx⟩ := hy i x H' H2 (avo (avp (avo av σ G) D) (wipe σ vs) (inG G vs)) hi (fun a ka z => by
      rcases z with (z | z) | z
      · exact z
      · exact absurd (z ▸ hD) ka
      · exact absurd z (no a)) (fun a z => Li.avoNe z) ea y
    have hdrop : ds.drop i = d :: ds.drop (i + 1) := by
      rw [List.drop_eq_getElem_cons hi]
      rw [List.getElem?_eq_getElem hi] at hd
      rw [Option.some.inj hd]
    rw [hdrop] at hcw
    have L2 := Li.growEx ex
    have e2 : Ext P.is H1 H2 := e'.trans (Ex.ext ex)
    have ea2 : Ext (avo av σ G) H1 H2 := ea.trans (Ex.ext ex)
    have hx2 : H2 D = some (.lst xs) := ex D _ hx
    have cnt : n + (ds.length - i) * (ct + ce) = n + (ds.length - (i + 1)) * (ct + ce) + ce + ct := by
      have : ds.length - i = ds.length - (i + 1) + 1 := by omega
      rw [this, Nat.add_mul]
      omega
    refine sg P _ _ _ H2 _ _ x d _ L2 rx hcw _ fun σ' G' hG' L' o' k' => ⟨(k' vs hv).trans (wipe_wipe vs vs σ fun _ z => z), ?_⟩
    have no' : ∀ a, ¬ Own σ' G' a := fun a z => no a (o' a z)
    refine stt P _ _ _ hw.no (n + (ds.length - (i + 1)) * (ct + ce) + ce) H2 σ' G' _ (L'.le (by omega)) hG' _ fun b H3 hb L3 e3 => ?_
    have e13 : Ext P.is H1 H3 := e2.trans e3
    have ea3 : Ext (avo av σ G) H1 H3 := ea2.trans fun a o na hh => e3 a o (fun z => na (L1.isAvo z)) hh
    have hx3 : H3 D = some (.lst xs) := e3 D _ isD hx2
    have hr3 : Rps K (avp (avo av σ G) D) H3 xs acc := (hr.ext (is := P.is) (Ex.ext ex) (fun _ z => .inl (L1.isAvo z)) fun _ _ z => z).ext e3 (fun _ z => .inl (L1.isAvo z)) fun _ _ z => z
    cases b with
    | false => rw [fork_ff] at hb; exact ⟨xs, acc, by omega, e13, ea3, P.mono L3.ok (by omega), hx3, by omega, hr3, hb⟩
    | true =>
      rw [fork_tt] at hb
      refine se P _ _ _ hw.no (n + (ds.length - (i + 1)) * (ct + ce)) H3 σ' G' _ (L3.le (Nat.le_refl _)) hb _ fun v H4 y hy4 L4 e4 r4 => ?_
      have hx4 : H4 D = some (.lst xs) := e4 D _ isD hx3
      refine ⟨xs, hx4, by rw [hr.len]; omega, xs ++ [v], acc ++ [y], by omega, ?_, ?_, ?_, upd_same, by rw [List.length_append]; simp; omega, ?_, hy4⟩
      · intro a o na hh
        rw [upd_ne (ne_of_none hh hD)]
        exact e4 a o na (e13 a o na hh)
      · intro a o na hh
        rw [upd_ne (ne_of_none hh hD)]
        exact e4 a o (fun z => na (L1.isAvo z)) (ea3 a o na hh)
      · exact P.stab L4.ok (fun a ia => upd_ne (fun z : a = D => isD (by rw [← z]; exact ia))) (.lst hx4)
      · have stay : Ext (fun a => a = D) H4 (upd H4 D (.lst (xs ++ [v]))) := fun a o na hh => by rw [upd_ne na]; exact hh
        refine Rps.append ?_ (.cons ?_ .nil)
        · exact (hr3.ext e4 (fun _ z => .inl (L1.isAvo z)) fun _ _ z => z : Rps K (avp (avo av σ G) D) H4 xs acc).ext stay (fun _ z => .inr z) fun _ _ z => z
        · exact (r4.ext (is := fun _ => False) (.refl _ _) (fun _ z => z.elim) fun _ _ z => .inl z : Rp K (avp (avo av σ G) D) H4 v y).ext stay (fun _ z => .inr z) fun _ _ z => z
  · rintro H' ⟨xs, acc, hle, e', ea, k', hx, hl, hr, hcw⟩
    rw [List.drop_length] at hcw
    have L' : LocOk P K av H0 n H' σ G := L1.grow e' (P.mono k' (by omega))
    exact q D xs H' acc hcw L' (e1.trans e') (e1.none (fun z => isD z) hD) hx hr
end
section
variable {ι : Type} {X : ι → Cx} {K : Fg} {W : Ctl} {c c1 c2 c3 ci ct ce cb : Nat} {e a b t tg it elt : Expr} {es : List Expr} {w wa wb wc we : WE} {wt wu : WT} {wl wi : WL} {wg : WG} {pos p apos cpos : Pos} {st : Stmt} {sts body : List Stmt} {ws wr : WS}
theorem df_lcM {m : Nat} {scope : Scope} {is : List Nat} {own : List (Str × Nat)} (hc : ∀ i, (X i).calm = true) (hN : ∀ i, (X i).N.Nodup) (hi : DI X K W ci tg it wi) (hg : DG (blkF X scope) K is tg wg) (he : DE (blkF X scope) K W.no ce elt we) (ok : ∀ i, BlkOk (X i).N (X i).env.scope scope own) (hv : ∀ i ∈ is, i ∈ own.map (·.2) := by decide)
    (hs : ∀ i x, foldedSetIterable it (X i).env x = pure x := by intro _ _; rfl) : DF X K W (ci + m * (0 + ce)) (.ListComp elt [⟨tg, it, [], 0⟩] scope pos) (wLcM m (0 + ce) (own.map (·.2)) wi wg wTt we) := by
  obtain ⟨wi', pi, si⟩ := hi
  obtain ⟨g, pg, sg⟩ := hg
  obtain ⟨te, pe, se⟩ := he
  refine ⟨_, fun i => pe_lc (tt := tYes) (hc i) (hN i) (pi i) (ok i) (fun s H C cl fp => pg (i, s, H, C, cl, fp)) (fun _ _ _ _ _ => pts_nil) (fun s H C cl fp => pe (i, s, H, C, cl, fp)) (hs i), ?_⟩
  exact sf_lcM (m := m) (ct := 0) si sg (fun P av H0 ed hw n H σ G Qd L h Q q => q _ _ h L (.refl _ _)) se hv
theorem df_lcIfM {m : Nat} {scope : Scope} {is : List Nat} {own : List (Str × Nat)} (hc : ∀ i, (X i).calm = true) (hN : ∀ i, (X i).N.Nodup) (hi : DI X K W ci tg it wi) (hg : DG (blkF X scope) K is tg wg) (ht : DT (blkF X scope) K W.no ct t wt) (he : DE (blkF X scope) K W.no ce elt we) (ok : ∀ i, BlkOk (X i).N (X i).env.scope scope own) (hv : ∀ i ∈ is, i ∈ own.map (·.2) := by decide)
    (hs : ∀ i x, foldedSetIterable it (X i).env x = pure x := by intro _ _; rfl) : DF X K W (ci + m * (ct + ce)) (.ListComp elt [⟨tg, it, [t], 0⟩] scope pos) (wLcM m (ct + ce) (own.map (·.2)) wi wg wt we) := by
  obtain ⟨wi', pi, si⟩ := hi
  obtain ⟨g, pg, sg⟩ := hg
  obtain ⟨te, pe, se⟩ := he
  obtain ⟨tt, pt, stt⟩ := ht
  refine ⟨_, fun i => pe_lc (hc i) (hN i) (pi i) (ok i) (fun s H C cl fp => pg (i, s, H, C, cl, fp)) (fun s H C cl fp => pts_one (pt (i, s, H, C, cl, fp))) (fun s H C cl fp => pe (i, s, H, C, cl, fp)) (hs i), ?_⟩
  exact sf_lcM (m := m) si sg stt se hv

end
section
variable {ι : Type} {X : ι → Cx} {K : Fg} {W : Ctl} {ci cb : Nat} {tg it : Expr} {wi : WL} {wg : WG} {wb : WS} {body : List Stmt} {pos : Pos}
theorem ds_forM {m : Nat} {is : List Nat} (hpo : ∀ i, PassesOwn (model (X i).prog (X i).w) (X i).A (X i).env (X i).xe) (hc : ∀ i, (X i).calm = true) (hi : DI X K W ci tg it wi) (hg : DG X K is tg wg) (hb : DSs X K W cb body wb) (hs : ∀ i x, foldedSetIterable it (X i).env x = pure x := by intro _ _; rfl) :
    DS X K W (ci + m * cb) (.For tg it body [] pos) (wForM m cb wi wg wb) := by
  obtain ⟨wi', pi, si⟩ := hi
  obtain ⟨g, pg, sg⟩ := hg
  obtain ⟨tb, pb, sb⟩ := hb
  refine ⟨_, fun i => ps_for (hpo i) (hc i) (pi i) (pg i) (pb i) (hs i), fun P av H0 De hw n H σ G L h D dd => ?_⟩
  refine si P av H0 _ hw (n + m * cb) H σ G _ (L.le (by omega)) h _ fun J H1 ds hd L1 e1 Wk => ?_
  obtain ⟨hcb, hf⟩ := hd
  obtain ⟨GG, Y, wk, hG, hy⟩ := Wk.ex
  have r1 : Rl P H σ G H1 σ G := .of e1 fun _ z => z
  have small : ds.length * cb ≤ m * cb := by
    rcases hcb with hc | hc
    · rw [hc]; simp
    · exact Nat.mul_le_mul_right _ hc
  refine for_it wk (fun i σ' H' => ∃ G', i ≤ ds.length ∧ LocOk P K av H0 (n + (ds.length - i) * cb) H' σ' G' ∧ Rl P H1 σ G H' σ' G' ∧ forW wg wb (ds.drop i) G' De)
    ⟨G, Nat.zero_le _, L1.le (by rw [Nat.sub_zero]; omega), .of (.refl _ _) fun _ z => z, hf⟩ (fun i σ' H' _ ⟨G', _, _, r, _⟩ => hG H' fun a o na hh => r.ext a o (fun z => na (z.elim L1.isAvo .inr)) hh) ?_ ?_
  · rintro i x σ' H' H2 hi ⟨G', hle, L', r, hf⟩ y
    obtain ⟨d, hd, ex, rx⟩ := hy i x H' H2 (avo av σ' G') hi (fun a ka z => z.elim .inl fun z => (r.own a z).elim .inr fun z => absurd z.1 ka) (fun a z => L'.avoNe z) (fun a o na hh => r.ext a o (fun z => na (z.elim L1.isAvo .inr)) hh) y
    have hdrop : ds.drop i = d :: ds.drop (i + 1) := by
      rw [List.drop_eq_getElem_cons hi]
      rw [List.getElem?_eq_getElem hi] at hd
      rw [Option.some.inj hd]
    rw [hdrop] at hf
    have cnt : n + (ds.length - i) * cb = n + (ds.length - (i + 1)) * cb + cb := by
      have : ds.length - i = ds.length - (i + 1) + 1 := by omega
      rw [this, Nat.add_mul]
      omega
    have L2 := L'.growEx ex
    have r2 : Rl P H1 σ G H2 σ' G' := r.trans (.of (Ex.ext ex) fun _ z => z)
    refine sg P _ _ _ H2 σ' G' x d _ L2 rx hf _ fun σ3 G3 h3 L3 o3 _ => ?_
    have r3 : Rl P H1 σ G H2 σ3 G3 := r2.trans (.of (.refl _ _) o3)
    refine sb P av H0 { De with nx := fun G2 => forW wg wb (ds.drop (i + 1)) G2 De, ct := fun G2 => forW wg wb (ds.drop (i + 1)) G2 De, bk := De.nx } hw (n + (ds.length - (i + 1)) * cb) H2 σ3 G3 (L3.le (by omega)) h3 _ ⟨?_, ?_, ?_, ?_, fun p xs H4 ds h4 e4 k4 => dd.rf p xs H4 ds h4 e4 (P.mono k4 (by omega))⟩
    · exact fun σ4 H4 G4 h4 L4 r4 => ⟨G4, hi, L4, r3.trans r4, h4⟩
    · exact fun σ4 H4 G4 h4 L4 r4 => dd.nx _ _ _ h4 (L4.le (by omega)) (r1.trans (r3.trans r4))
    · exact fun σ4 H4 G4 h4 L4 r4 => ⟨G4, hi, L4, r3.trans r4, h4⟩
    · exact fun v H4 d4 h4 e4 k4 r4 => dd.rt v H4 d4 h4 e4 (P.mono k4 (by omega)) r4
  · rintro σ' H' ⟨G', hle, L', r, hf⟩
    rw [List.drop_length] at hf
    exact dd.nx _ _ _ hf (L'.le (by omega)) (r1.trans r)

end
end DL

namespace DL
open PySem PySem.Spec PyProof.Rows L2
/-! ### a def that makes lambdas, its cost found -/
theorem tfn_of0 {P : Program} {w : World} {K : Fg} {mg : Str → Option Value} {base : Heap} {T : List (Addr × Str)} {x : Str} {st : Stmt} {f cF : Addr} {oc kV doc pm ct : Value} {od an : Option Addr} {osl : Array (Option Value)} {N ps : List Str} {k np c : Nat} {Wf : WF} {wb : WS} (lk : K.lookup f = some ⟨oc, od, .func (PySem.W.fnOf x x (defArgs st) (defBody st) (defScope st) .none kV doc pm an (.ref cF) ct), osl⟩) (hcd : PySem.W.codeIn K (.ref cF) x = true) (kp : PySem.W.keepIn K (.ref f) = true) (S : FnScope N ps (defScope st)) (g : mg x = some (.ref f)) (b : Binds K (PySem.W.fnOf x x (defArgs st) (defBody st) (defScope st) .none kV doc pm an (.ref cF) ct) ps []) (hnp : ps.length = np)
    (hlen : ∀ ds ed Q, Wf ds ed Q → ds.length = np)
    (hbody : ∀ (A : Around) (outer : List Env) (s : Shared) (H : Hp) (E : XK), Room k (A.deeper (envOfC x (defScope st) s.heap.objs.size f (.ref cF))) →
      DSs (fun _ : Unit => cxOf (L2.CX P w) P w K mg base N x (defScope st) f (.ref cF) A outer s H E) K ⟨fun cls d _ H => E cls d H, HasT T⟩ c (defBody st) wb)
    (hw : ∀ ds ed Q, Wf ds ed Q → wb (startG N ds) (dEnds ed Q)) (hc : c = 0 := by rfl) : TFn P w K mg base T x (k + 1) np Wf := by
  subst hc
  exact tfn_of lk hcd kp S g b hnp hlen hbody hw
theorem tfn_ofF {P : Program} {w : World} {K : Fg} {mg : Str → Option Value} {base : Heap} {T : List (Addr × Str)} {x : Str} {st : Stmt} {f : Addr} {fd : FuncData} {N ps : List Str} {k np c : Nat} {Wf : WF} {wb : WS} (F : Fun K x x st f fd) (S : FnScope N ps (defScope st)) (g : mg x = some (.ref f)) (b : Binds K fd ps []) (hnp : ps.length = np)
    (hlen : ∀ ds ed Q, Wf ds ed Q → ds.length = np)
    (hbody : ∀ (cdv : Value) (A : Around) (outer : List Env) (s : Shared) (H : Hp) (E : XK), Room k (A.deeper (envOfC x (defScope st) s.heap.objs.size f cdv)) →
      DSs (fun _ : Unit => cxOf (L2.CX P w) P w K mg base N x (defScope st) f cdv A outer s H E) K ⟨fun cls d _ H => E cls d H, HasT T⟩ c (defBody st) wb)
    (hw : ∀ ds ed Q, Wf ds ed Q → wb (startG N ds) (dEnds ed Q)) (hc : c = 0 := by rfl) : TFn P w K mg base T x (k + 1) np Wf := by
  subst hc
  refine ⟨hlen, f, fd, ps, g, F.kp, b, ?_⟩
  refine F.okX S (fun vs H Q E h => by rw [h.1, hnp]) fun cdv A outer s H vs Q E hr h => ?_
  obtain ⟨hl, P', n, av, ds, ed, Qd, hT, hok, pav, ha, r, hwf, hE, hQ⟩ := h
  obtain ⟨ts, pss, sem⟩ := hbody cdv A outer s H E hr
  refine ⟨ts, pss (), ?_⟩
  refine sem P' av H (dEnds ed Qd) ⟨hT, fun cls σ H' hc ex => hE cls H' hc ex⟩ n H _ _ (loc_startP ha r hok pav) (hw ds ed Qd hwf) _ ⟨?_, fun _ _ _ z => z.elim, fun _ _ _ z => z.elim, ?_, ?_⟩
  · exact fun σ' H' G' h' L' r' => hQ _ H' _ h' L'.ok L'.ext .non
  · exact fun v H' d h' e' k' r' => hQ v H' d h' k' e' r'
  · exact fun p xs H' ds h' e' k' h0 h1 r' => hQ _ H' _ h' k' e' (rp_fresh ha h0 h1 r')
/-! ### names of a list's items -/
def gTL (n : Nat) (u : List D → Gm → (Gm → Prop) → Prop) : WG := fun d G Q => match d with
  | .lst ds => ds.length = n ∧ u ds G Q
  | _ => False
theorem dg_unl {ι : Type} {X : ι → Cx} {K : Fg} {pos : Pos} {es : List Expr} {is : List Nat} {k n : Nat} {u : List D → Gm → (Gm → Prop) → Prop} (hK : ∀ i, (X i).K = K) (hc : ∀ i, (X i).calm = true) (h : DGs X K is es u) (hn : ∀ i, (assignEach es (X i).env).length = n := by intro _; rfl) (hst : ∀ i, (assignEach es (X i).env).findIdx? (·.1) = none := by intro _; rfl) :
    DG X K is (.Tuple es k pos) (gTL n u) := by
  obtain ⟨g, p, s⟩ := h
  refine ⟨gUnl K n g, fun i => (by rw [← hK i]; exact pg_unl (hc i) (p i) (hn i) (hst i)), fun P av H0 n H σ G v d Qd L r h Q q => ?_⟩
  cases r with
  | lst nn r => exact ⟨_, _, rfl, nn.sq, by rw [r.len]; exact h.1, s P av H0 n H σ G _ _ _ L r h.2 _ q⟩
  | _ => exact h.elim
end DL

namespace DL
open PySem PySem.Spec PyProof.Rows L2
section
variable {ι : Type} {X : ι → Cx} {K : Fg} {W : Ctl} {ci : Nat} {tg tg1 it it1 elt : Expr} {we : WE} {wi wi1 : WL} {wg wg1 : WG} {pos : Pos}
/-! ### y = [.. for .. for ..] -/
theorem setLc2f_core {scope : Scope} {is is1 : List Nat} {own : List (Str × Nat)} {i : Nat} {y : Str} {py spos : Pos} (vs1 : List Nat) (hc : ∀ i, (X i).calm = true) (hN : ∀ i, (X i).N.Nodup) (hi : DI X K W ci tg it wi) (hg : DG (blkF X scope) K is tg wg) (hi1 : DI (blkF X scope) K W.no 0 tg1 it1 wi1) (hg1 : DG (blkF X scope) K is1 tg1 wg1) (he : DE (blkF X scope) K W.no 0 elt we) (ok : ∀ i, BlkOk (X i).N (X i).env.scope scope own)
    (hv : ∀ i ∈ is, i ∈ own.map (·.2)) (hv1 : ∀ i ∈ is1, i ∈ vs1) (hvv : ∀ i ∈ vs1, i ∈ own.map (·.2)) (hy : ∀ j, (X j).N[i]? = some y) (hyl : ∀ j, (X j).env.scope.names.lookup y = some .local) (hsw : ∀ j, swapsWith (.ListComp elt [⟨tg, it, [], 0⟩, ⟨tg1, it1, [], 0⟩] scope pos) (some (.Name y py)) spos.line (X j).env = pure true) (hs : ∀ i x, foldedSetIterable it (X i).env x = pure x) (hs1 : ∀ env x, foldedSetIterable it1 env x = pure x) :
    ∃ te, (∀ j, PS (X j) (.Assign [.Name y py] (.ListComp elt [⟨tg, it, [], 0⟩, ⟨tg1, it1, [], 0⟩] scope pos) spos) (tAsg te (gName i))) ∧ SF K W ci te (wLc2f (own.map (·.2)) vs1 wi wg wi1 wg1 wTt we) := by
  obtain ⟨wi', pi, si⟩ := hi
  obtain ⟨g, pg, sg⟩ := hg
  obtain ⟨wi1', pi1, si1⟩ := hi1
  obtain ⟨g1, pg1, sg1⟩ := hg1
  obtain ⟨te, pe, se⟩ := he
  refine ⟨_, fun j => ps_setLc2 (tt := tYes) (tt1 := tYes) (hc j) (hN j) (hy j) (hyl j) (hsw j) (pi j) (ok j) hvv (fun s H C cl fp => pg (j, s, H, C, cl, fp)) (fun _ _ _ _ _ => pts_nil) (fun s H C cl fp => pi1 (j, s, H, C, cl, fp)) (fun s H C cl fp => pg1 (j, s, H, C, cl, fp)) (fun _ _ _ _ _ => pts_nil) (fun s H C cl fp => pe (j, s, H, C, cl, fp)) (hs j) hs1, ?_⟩
  exact sf_lc2f si sg si1 sg1 (fun P av H0 ed hw n H σ G Qd L h Q q => q _ _ h L (.refl _ _)) se hv hv1
theorem ds_setLc2f {scope : Scope} {is is1 : List Nat} {own : List (Str × Nat)} {i : Nat} {y : Str} {py spos : Pos} (vs1 : List Nat) (hc : ∀ i, (X i).calm = true) (hN : ∀ i, (X i).N.Nodup) (hi : DI X K W ci tg it wi) (hg : DG (blkF X scope) K is tg wg) (hi1 : DI (blkF X scope) K W.no 0 tg1 it1 wi1) (hg1 : DG (blkF X scope) K is1 tg1 wg1) (he : DE (blkF X scope) K W.no 0 elt we) (ok : ∀ i, BlkOk (X i).N (X i).env.scope scope own)
    (hv : ∀ i ∈ is, i ∈ own.map (·.2) := by decide) (hv1 : ∀ i ∈ is1, i ∈ vs1 := by decide) (hvv : ∀ i ∈ vs1, i ∈ own.map (·.2) := by decide) (hy : ∀ j, (X j).N[i]? = some y := by intro _; rfl) (hyl : ∀ j, (X j).env.scope.names.lookup y = some .local := by intro _; rfl) (hsw : ∀ j, swapsWith (.ListComp elt [⟨tg, it, [], 0⟩, ⟨tg1, it1, [], 0⟩] scope pos) (some (.Name y py)) spos.line (X j).env = pure true := by intro _; exact sw_true rfl rfl rfl (by decide +kernel)) (hs : ∀ i x, foldedSetIterable it (X i).env x = pure x := by intro _ _; rfl) (hs1 : ∀ env x, foldedSetIterable it1 env x = pure x := by intro _ _; rfl) :
    DS X K W ci (.Assign [.Name y py] (.ListComp elt [⟨tg, it, [], 0⟩, ⟨tg1, it1, [], 0⟩] scope pos) spos) (wSet i (wF (wLc2f (own.map (·.2)) vs1 wi wg wi1 wg1 wTt we))) := by
  obtain ⟨te, ps, s⟩ := setLc2f_core vs1 hc hN hi hg hi1 hg1 he ok hv hv1 hvv hy hyl hsw hs hs1
  exact ⟨_, ps, set_sem (sf_e s)⟩
end
end DL

namespace DL
open PySem PySem.Spec PyProof.Rows L2
/-! ### x, y, z = a, b, c with plain local names -/
section
variable {ι : Type} {X : ι → Cx} {K : Fg} {W : Ctl} {c1 c2 c3 : Nat} {a b c : Expr} {wa wb wc : WE} {pos px py pz pt pt2 : Pos} {x y z : Str} {i j l : Nat} {kt k2 : Nat}
def wPar3 (i j l : Nat) (wa wb wc : WE) : WS := fun G De => wa G De.ex fun d => wb G De.ex fun d2 => wc G De.ex fun d3 => De.nx (((G.set i (.dat d)).set j (.dat d2)).set l (.dat d3))
theorem ds_par3 (ha : DE X K W c1 a wa) (hb : DE X K W c2 b wb) (hcc : DE X K W c3 c wc) (hN : ∀ q, (X q).N.Nodup) (hij : i ≠ j := by decide) (hil : i ≠ l := by decide) (hjl : j ≠ l := by decide) (hc : ∀ q, (X q).calm = true := by intro _; rfl) (hi : ∀ q, (X q).N[i]? = some x := by intro _; rfl) (hj : ∀ q, (X q).N[j]? = some y := by intro _; rfl) (hl : ∀ q, (X q).N[l]? = some z := by intro _; rfl)
    (hx : ∀ q, (X q).env.scope.names.lookup x = some .local := by intro _; rfl) (hy : ∀ q, (X q).env.scope.names.lookup y = some .local := by intro _; rfl) (hz : ∀ q, (X q).env.scope.names.lookup z = some .local := by intro _; rfl)
    (hw : ∀ q, swappedStores [.Tuple [.Name x px, .Name y py, .Name z pz] kt pt] (.Tuple [a, b, c] k2 pt2) (X q).env = pure (some [x, y, z]) := by intro _; rfl)
    (hs : ∀ q, swapsWithSole [.Tuple [.Name x px, .Name y py, .Name z pz] kt pt] (.Tuple [a, b, c] k2 pt2) pos.line (X q).env = pure false := by intro _; rfl)
    (h1 : ∀ q, starEach [a, b, c] (X q).env = (false, eval a (X q).env) :: starEach [b, c] (X q).env := by intro _; rfl) (h2 : ∀ q, starEach [b, c] (X q).env = (false, eval b (X q).env) :: starEach [c] (X q).env := by intro _; rfl) (h3 : ∀ q, starEach [c] (X q).env = (false, eval c (X q).env) :: starEach [] (X q).env := by intro _; rfl) :
    DS X K W (c1 + (c2 + c3)) (.Assign [.Tuple [.Name x px, .Name y py, .Name z pz] kt pt] (.Tuple [a, b, c] k2 pt2) pos) (wPar3 i j l wa wb wc) := by
  obtain ⟨ta, pa, sa⟩ := ha
  obtain ⟨tb, pb, sb⟩ := hb
  obtain ⟨tc, pc, sc⟩ := hcc
  refine ⟨_, fun q => ps_par3 (hc q) (hN q) (hi q) (hj q) (hl q) hij hil hjl (hx q) (hy q) (hz q) (pa_cons (pa q) (pa_cons (pb q) (pa_cons (pc q) pa_nil (h3 q)) (h2 q)) (h1 q)) (hw q) (hs q), fun P av H0 De hw n H σ G L h D dd => ?_⟩
  refine sa P av H0 _ hw (n + (c2 + c3)) H σ G _ (L.le (by omega)) h _ fun v H1 d hd L1 e1 r1 => ?_
  refine sb P av H0 _ hw (n + c3) H1 σ G _ (L1.le (by omega)) hd _ fun v2 H2 d2 hd2 L2 e2 r2 => ?_
  refine sc P av H0 _ hw n H2 σ G _ (L2.le (Nat.le_refl _)) hd2 _ fun v3 H3 d3 hd3 L3 e3 r3 => ?_
  refine ⟨v, v2, v3, rfl, ?_⟩
  have r1' : Rp K (avo av σ G) H3 v d := r1.ext (e2.trans e3) (fun _ => L1.isAvo) fun z _ k => k
  have r2' : Rp K (avo av σ G) H3 v2 d2 := r2.ext e3 (fun _ => L2.isAvo) fun z _ k => k
  obtain ⟨L4, o4⟩ := L3.put (i := i) (v := some v) (s := .dat d) ⟨v, rfl, r1'⟩ fun _ => fun z => nomatch z
  have s2 : Rp K (avo av (σ.set i (some v)) (G.set i (.dat d))) H3 v2 d2 := r2'.ext (is := fun _ => False) (.refl _ _) (fun _ z => z.elim) fun z hz k => by
    rcases k with k | k
    · exact .inl k
    · exact .inr (o4 z k)
  obtain ⟨L5, o5⟩ := L4.put (i := j) (v := some v2) (s := .dat d2) ⟨v2, rfl, s2⟩ fun _ => fun z => nomatch z
  have s3 : Rp K (avo av ((σ.set i (some v)).set j (some v2)) ((G.set i (.dat d)).set j (.dat d2))) H3 v3 d3 := r3.ext (is := fun _ => False) (.refl _ _) (fun _ z => z.elim) fun z hz k => by
    rcases k with k | k
    · exact .inl k
    · exact .inr (o4 z (o5 z k))
  obtain ⟨L6, o6⟩ := L5.put (i := l) (v := some v3) (s := .dat d3) ⟨v3, rfl, s3⟩ fun _ => fun z => nomatch z
  exact dd.nx _ _ _ hd3 L6 (.of ((e1.trans e2).trans e3) fun a z => o4 a (o5 a (o6 a z)))
end
end DL

namespace DL
open PySem PySem.Spec PyProof.Rows L2
/-! ### what an expression comes to, found by its form -/
class AndC (A B : Prop) (C : outParam Prop) : Prop where pr : C → A ∧ B
instance (priority := 2000) andc_t {B : Prop} : AndC True B B := ⟨fun h => ⟨trivial, h⟩⟩
instance (priority := 1900) andc_r {A : Prop} : AndC A True A := ⟨fun h => ⟨h, trivial⟩⟩
instance (priority := 100) andc_a {A B : Prop} : AndC A B (A ∧ B) := ⟨id⟩
class ImpC (b : Bool) (B : Prop) (C : outParam Prop) : Prop where pr : C → b = true → B
instance (priority := 2000) impc_t {b : Bool} : ImpC b True True := ⟨fun _ _ => trivial⟩
instance (priority := 100) impc_i {b : Bool} {B : Prop} : ImpC b B (b = true → B) := ⟨id⟩
class LenB (ds : List D) (b : Nat) : Prop where le : ds.length ≤ b
instance lenb_n {b : Nat} : LenB [] b := ⟨Nat.zero_le _⟩
instance lenb_c {d : D} {ds : List D} {b : Nat} [h : LenB ds b] : LenB (d :: ds) (b + 1) := ⟨Nat.succ_le_succ h.le⟩
theorem lenb_line {ds : List D} (h : ds.length ≤ 500) : ds.length ≤ sizeLine := by rw [sizeLine_eq]; omega
class AtG (G : Gm) (i : Nat) (s : outParam Slot) : Prop where eq : G[i]? = some s
instance atg_z {s : Slot} {G : Gm} : AtG (s :: G) 0 s := ⟨rfl⟩
instance atg_s {s t : Slot} {G : Gm} {i : Nat} [h : AtG G i s] : AtG (t :: G) (i + 1) s := ⟨by rw [List.getElem?_cons_succ]; exact h.eq⟩
class RdS (s : Slot) (d : outParam D) : Prop where eq : ∀ Q : D → Prop, Q d → rdS (some s) Q
instance rds_d {d : D} : RdS (.dat d) d := ⟨fun _ h => h⟩
instance rds_o {d : D} : RdS (.own d) d := ⟨fun _ h => h⟩
class SetG (G : Gm) (i : Nat) (s : Slot) (G' : outParam Gm) : Prop where eq : G.set i s = G'
instance setg_z {s t : Slot} {G : Gm} : SetG (t :: G) 0 s (s :: G) := ⟨rfl⟩
instance setg_s {s t : Slot} {G G' : Gm} {i : Nat} [h : SetG G i s G'] : SetG (t :: G) (i + 1) s (t :: G') := ⟨by rw [List.set_cons_succ, h.eq]⟩
class FrzG (G : Gm) (G' : outParam Gm) : Prop where eq : frzG G = G'
instance frzg_n : FrzG [] [] := ⟨rfl⟩
instance frzg_o {d : D} {G G' : Gm} [h : FrzG G G'] : FrzG (.own d :: G) (.dat d :: G') := ⟨by rw [← h.eq]; rfl⟩
instance frzg_d {d : D} {G G' : Gm} [h : FrzG G G'] : FrzG (.dat d :: G) (.dat d :: G') := ⟨by rw [← h.eq]; rfl⟩
instance frzg_u {G G' : Gm} [h : FrzG G G'] : FrzG (.un :: G) (.un :: G') := ⟨by rw [← h.eq]; rfl⟩
def frzS (s : Slot) : Slot := match s with | .own d => .dat d | s => s
instance (priority := 50) frzg_any {s : Slot} {G G' : Gm} [h : FrzG G G'] : FrzG (s :: G) (frzS s :: G') := ⟨by rw [← h.eq]; rfl⟩
class UnO (G : Gm) (G' : outParam Gm) : Prop where eq : G.map unO = G'
instance uno_n : UnO [] [] := ⟨rfl⟩
instance uno_o {d : D} {G G' : Gm} [h : UnO G G'] : UnO (.own d :: G) (.un :: G') := ⟨by rw [← h.eq]; rfl⟩
instance uno_d {d : D} {G G' : Gm} [h : UnO G G'] : UnO (.dat d :: G) (.dat d :: G') := ⟨by rw [← h.eq]; rfl⟩
instance uno_u {G G' : Gm} [h : UnO G G'] : UnO (.un :: G) (.un :: G') := ⟨by rw [← h.eq]; rfl⟩
instance (priority := 50) uno_any {s : Slot} {G G' : Gm} [h : UnO G G'] : UnO (s :: G) (unO s :: G') := ⟨by rw [← h.eq]; rfl⟩
class WipeG (G : Gm) (vs : List Nat) (G' : outParam Gm) : Prop where eq : wipeG G vs = G'
instance wipeg_n {G : Gm} : WipeG G [] G := ⟨rfl⟩
instance wipeg_c {G G1 G2 : Gm} {v : Nat} {vs : List Nat} [h : WipeG G vs G1] [k : SetG G1 v .un G2] : WipeG G (v :: vs) G2 := ⟨by rw [← k.eq, ← h.eq]; rfl⟩
instance wipeg_mn {G : Gm} {f : Str × Nat → Nat} : WipeG G (List.map f []) G := ⟨rfl⟩
instance wipeg_mc {G G1 G2 : Gm} {x : Str} {v : Nat} {l : List (Str × Nat)} [h : WipeG G (l.map fun p => p.2) G1] [k : SetG G1 v .un G2] : WipeG G (List.map (fun p => p.2) ((x, v) :: l)) G2 := ⟨by rw [← k.eq, ← h.eq]; rfl⟩
class InG (G : Gm) (vs : List Nat) (G' : outParam Gm) : Prop where eq : inG G vs = G'
instance ing_i {G G1 G2 : Gm} {vs : List Nat} [h : WipeG G vs G1] [k : UnO G1 G2] : InG G vs G2 := ⟨by rw [← k.eq, ← h.eq]; rfl⟩
/-! the classes -/
class EvE (w : WE) (G : Gm) (C : outParam Prop) (d : outParam D) : Prop where ev : C → ∀ (ed : Value → Prop) (Q : D → Prop), Q d → w G ed Q
class EvL (w : WL) (G : Gm) (C : outParam Prop) (ds : outParam (List D)) : Prop where ev : C → ∀ (ed : Value → Prop) (Q : List D → Prop), Q ds → w G ed Q
class EvT (w : WT) (G : Gm) (C : outParam Prop) (b : outParam Bool) : Prop where ev : C → ∀ (ed : Value → Prop) (Q : Bool → Prop), Q b → w G ed Q
class EvO (w : WO) (G : Gm) (C : outParam Prop) (o : outParam (Option Int)) : Prop where ev : C → ∀ (ed : Value → Prop) (Q : Option Int → Prop), Q o → w G ed Q
class Ev1 (f : D → (D → Prop) → Prop) (x : D) (C : outParam Prop) (d : outParam D) : Prop where ev : C → ∀ Q : D → Prop, Q d → f x Q
class Ev2 (f : D → D → (D → Prop) → Prop) (x y : D) (C : outParam Prop) (d : outParam D) : Prop where ev : C → ∀ Q : D → Prop, Q d → f x y Q
class Ev2F (f : D → D → (List D → Prop) → Prop) (x y : D) (C : outParam Prop) (d : outParam (List D)) : Prop where ev : C → ∀ Q : List D → Prop, Q d → f x y Q
class EvB (f : List D → (D → Prop) → Prop) (ds : List D) (C : outParam Prop) (d : outParam D) : Prop where ev : C → ∀ Q : D → Prop, Q d → f ds Q
class EvBF (f : List D → (List D → Prop) → Prop) (ds : List D) (C : outParam Prop) (es : outParam (List D)) : Prop where ev : C → ∀ Q : List D → Prop, Q es → f ds Q
class EvM (f : D → List D → (D → Prop) → Prop) (x : D) (ds : List D) (C : outParam Prop) (d : outParam D) : Prop where ev : C → ∀ Q : D → Prop, Q d → f x ds Q
class EvC (Wf : WF) (ds : List D) (C : outParam Prop) (d : outParam D) : Prop where ev : C → ∀ (ed : Value → Prop) (Q : D → Prop), Q d → Wf ds ed Q
class EvCN (Wf : WFN) (ds : List D) (C : outParam Prop) (d : outParam (List D)) : Prop where ev : C → ∀ (ed : Value → Prop) (Q : List D → Prop), Q d → Wf ds ed Q
class GoG (wg : WG) (d : D) (G : Gm) (C : outParam Prop) (G' : outParam Gm) : Prop where ev : C → ∀ Q : Gm → Prop, Q G' → wg d G Q
class GoGs (u : List D → Gm → (Gm → Prop) → Prop) (ds : List D) (G : Gm) (C : outParam Prop) (G' : outParam Gm) : Prop where ev : C → ∀ Q : Gm → Prop, Q G' → u ds G Q
class LenN (ds : List D) (n : outParam Nat) : Prop where eq : ds.length = n
instance lenn_n : LenN [] 0 := ⟨rfl⟩
instance lenn_c {d : D} {ds : List D} {n : Nat} [h : LenN ds n] : LenN (d :: ds) (n + 1) := ⟨by rw [List.length_cons, h.eq]⟩
class IsT (b : Bool) : Prop where eq : b = true
instance ist : IsT true := ⟨rfl⟩
/-! expressions -/
instance eve_c {d : D} {G : Gm} : EvE (wC d) G True d := ⟨fun _ _ _ h => h⟩
instance eve_var {i : Nat} {G : Gm} {d : D} [h : AtG G i (.dat d)] : EvE (wVar i) G True d := ⟨fun _ _ Q q => by unfold wVar; rw [h.eq]; exact q⟩
instance eve_rd {i : Nat} {G : Gm} {s : Slot} {d : D} [h : AtG G i s] [k : RdS s d] : EvE (wRd i) G True d := ⟨fun _ _ Q q => by unfold wRd; rw [h.eq]; exact k.eq Q q⟩
instance evl_nil {G : Gm} : EvL wNil G True [] := ⟨fun _ _ _ h => h⟩
instance evl_cons {wa : WE} {wl : WL} {G : Gm} {A B C : Prop} {d : D} {ds : List D} [h : EvE wa G A d] [k : EvL wl G B ds] [a : AndC A B C] : EvL (wCons wa wl) G C (d :: ds) := ⟨fun c ed Q q => h.ev (a.pr c).1 ed _ (k.ev (a.pr c).2 ed _ q)⟩
instance evl_sz {wl : WL} {G : Gm} {C : Prop} {ds : List D} [h : EvL wl G C ds] [l : LenB ds 500] : EvL (wSz wl) G C ds := ⟨fun c ed Q q => h.ev c ed _ ⟨lenb_line l.le, q⟩⟩
instance eve_f {wl : WL} {G : Gm} {C : Prop} {ds : List D} [h : EvL wl G C ds] : EvE (wF wl) G C (.lst ds) := ⟨fun c ed Q q => h.ev c ed _ q⟩
instance eve_tup {wl : WL} {G : Gm} {C : Prop} {ds : List D} [h : EvL wl G C ds] [l : LenB ds 500] : EvE (wTup wl) G C (.tup ds) := ⟨fun c ed Q q => h.ev c ed _ ⟨lenb_line l.le, q⟩⟩
instance eve_2 {f : D → D → (D → Prop) → Prop} {wa wb : WE} {G : Gm} {A B E C C' : Prop} {x y d : D} [h : EvE wa G A x] [k : EvE wb G B y] [l : Ev2 f x y E d] [a : AndC B E C'] [b : AndC A C' C] : EvE (w2 f wa wb) G C d :=
  ⟨fun c ed Q q => h.ev (b.pr c).1 ed _ (k.ev (a.pr (b.pr c).2).1 ed _ (l.ev (a.pr (b.pr c).2).2 Q q))⟩
instance evl_2F {f : D → D → (List D → Prop) → Prop} {wa wb : WE} {G : Gm} {A B E C C' : Prop} {x y : D} {d : List D} [h : EvE wa G A x] [k : EvE wb G B y] [l : Ev2F f x y E d] [a : AndC B E C'] [b : AndC A C' C] : EvL (w2F f wa wb) G C d :=
  ⟨fun c ed Q q => h.ev (b.pr c).1 ed _ (k.ev (a.pr (b.pr c).2).1 ed _ (l.ev (a.pr (b.pr c).2).2 Q q))⟩
instance eve_1 {f : D → (D → Prop) → Prop} {wa : WE} {G : Gm} {A E C : Prop} {x d : D} [h : EvE wa G A x] [l : Ev1 f x E d] [a : AndC A E C] : EvE (w1 f wa) G C d := ⟨fun c ed Q q => h.ev (a.pr c).1 ed _ (l.ev (a.pr c).2 Q q)⟩
instance eve_cb {f : List D → (D → Prop) → Prop} {wl : WL} {G : Gm} {A E C : Prop} {ds : List D} {d : D} [h : EvL wl G A ds] [l : EvB f ds E d] [a : AndC A E C] : EvE (wCb f wl) G C d := ⟨fun c ed Q q => h.ev (a.pr c).1 ed _ (l.ev (a.pr c).2 Q q)⟩
instance evl_cb {f : List D → (List D → Prop) → Prop} {wl : WL} {G : Gm} {A E C : Prop} {ds d : List D} [h : EvL wl G A ds] [l : EvBF f ds E d] [a : AndC A E C] : EvL (wCbF f wl) G C d := ⟨fun c ed Q q => h.ev (a.pr c).1 ed _ (l.ev (a.pr c).2 Q q)⟩
instance eve_call {Wf : WF} {wl : WL} {G : Gm} {A E C : Prop} {ds : List D} {d : D} [h : EvL wl G A ds] [l : EvC Wf ds E d] [a : AndC A E C] : EvE (wCall Wf wl) G C d := ⟨fun c ed Q q => h.ev (a.pr c).1 ed _ (l.ev (a.pr c).2 ed Q q)⟩
instance evl_callN {Wf : WFN} {wl : WL} {G : Gm} {A E C : Prop} {ds : List D} {d : List D} [h : EvL wl G A ds] [l : EvCN Wf ds E d] [a : AndC A E C] : EvL (wCallN Wf wl) G C d := ⟨fun c ed Q q => h.ev (a.pr c).1 ed _ (l.ev (a.pr c).2 ed Q q)⟩
instance eve_me {f : D → List D → (D → Prop) → Prop} {ty : D → Bool} {wa : WE} {wl : WL} {G : Gm} {A B E C C' : Prop} {x d : D} {ds : List D} [h : EvE wa G A x] [k : EvL wl G B ds] [t : IsT (ty x)] [l : EvM f x ds E d] [a : AndC B E C'] [b : AndC A C' C] : EvE (wMe f ty wa wl) G C d :=
  ⟨fun c ed Q q => h.ev (b.pr c).1 ed _ ⟨t.eq, k.ev (a.pr (b.pr c).2).1 ed _ (l.ev (a.pr (b.pr c).2).2 Q q)⟩⟩
instance isstr {s : Str} : IsT (isStr (.str s)) := ⟨rfl⟩
instance evo_none {G : Gm} : EvO wNone G True none := ⟨fun _ _ _ q => q⟩
instance evo_some {w : WE} {G : Gm} {C : Prop} {i : Int} [h : EvE w G C (.int i)] : EvO (wSome w) G C (some i) := ⟨fun c ed Q q => h.ev c ed _ q⟩
class EvSl (x : D) (lo hi : Option Int) (C : outParam Prop) (d : outParam D) : Prop where ev : C → ∀ Q : D → Prop, Q d → fSl x lo hi Q
instance evsl_s {z : Str} {lo hi : Option Int} : EvSl (.str z) lo hi (z.length ≤ sizeLine) (.str (cutS z lo hi)) := ⟨fun c Q q => ⟨c, q⟩⟩
instance evsl_l {z : List D} {lo hi : Option Int} : EvSl (.lst z) lo hi True (.lst (cut z lo hi)) := ⟨fun c Q q => q⟩
instance eve_sl {wa : WE} {wl wh : WO} {G : Gm} {A B E F C C' C2 : Prop} {x d : D} {lo hi : Option Int} [h : EvE wa G A x] [k : EvO wl G B lo] [k2 : EvO wh G E hi] [l : EvSl x lo hi F d] [a : AndC E F C'] [a2 : AndC B C' C2] [b : AndC A C2 C] : EvE (wSl wa wl wh) G C d :=
  ⟨fun c ed Q q => h.ev (b.pr c).1 ed _ (k.ev (a2.pr (b.pr c).2).1 ed _ (k2.ev (a.pr (a2.pr (b.pr c).2).2).1 ed _ (l.ev (a.pr (a2.pr (b.pr c).2).2).2 Q q)))⟩
instance evl_slF {wa : WE} {wl wh : WO} {G : Gm} {A B E C C2 : Prop} {xs : List D} {lo hi : Option Int} [h : EvE wa G A (.lst xs)] [k : EvO wl G B lo] [k2 : EvO wh G E hi] [a2 : AndC B E C2] [b : AndC A C2 C] : EvL (wSlF wa wl wh) G C (cut xs lo hi) :=
  ⟨fun c ed Q q => h.ev (b.pr c).1 ed _ (k.ev (a2.pr (b.pr c).2).1 ed _ (k2.ev (a2.pr (b.pr c).2).2 ed _ q))⟩
/-! operators -/
instance ev2_add_i {i j : Int} : Ev2 fAddA (.int i) (.int j) True (.int (i + j)) := ⟨fun _ _ q => q⟩
instance ev2_add_s {i j : Str} : Ev2 fAddA (.str i) (.str j) (i.length + j.length ≤ sizeLine) (.str (i ++ j)) := ⟨fun c _ q => ⟨c, q⟩⟩
instance ev2_add_l {i j : List D} : Ev2 fAddA (.lst i) (.lst j) (i.length + j.length ≤ sizeLine) (.lst (i ++ j)) := ⟨fun c _ q => ⟨c, q⟩⟩
instance ev2_cat {i j : List D} : Ev2F fCat (.lst i) (.lst j) (i.length + j.length ≤ sizeLine) (i ++ j) := ⟨fun c _ q => ⟨c, q⟩⟩
instance ev2_rep {i : List D} {k : Int} : Ev2F fRep (.lst i) (.int k) (-(2 ^ 63) ≤ k ∧ k < 2 ^ 63 ∧ i.length * k.toNat ≤ sizeLine) (List.replicate k.toNat i).flatten := ⟨fun c _ q => ⟨c.1, c.2.1, c.2.2, q⟩⟩
instance ev2_i0 {g : Int → Int → D} {i j : Int} : Ev2 (fI0 g) (.int i) (.int j) True (g i j) := ⟨fun _ _ q => q⟩
instance ev2_i {P : Int → Int → Prop} {g : Int → Int → D} {i j : Int} : Ev2 (fI P g) (.int i) (.int j) (P i j) (g i j) := ⟨fun c _ q => ⟨c, q⟩⟩
instance ev2_mul_i {i j : Int} : Ev2 fMulA (.int i) (.int j) (CMul i j) (.int (i * j)) := ⟨fun c _ q => ⟨c, q⟩⟩
instance ev2_mul_s {a : Str} {k : Int} : Ev2 fMulA (.str a) (.int k) (0 ≤ k ∧ k ≤ 1000 ∧ a.length ≤ 1000) (.str (Txt.mul a k)) := ⟨fun c _ q => ⟨c.1, c.2.1, c.2.2, q⟩⟩
instance ev2_mul_l {i : List D} {k : Int} : Ev2 fMulA (.lst i) (.int k) (-(2 ^ 63) ≤ k ∧ k < 2 ^ 63 ∧ i.length * k.toNat ≤ sizeLine) (.lst (List.replicate k.toNat i).flatten) := ⟨fun c _ q => ⟨c.1, c.2.1, c.2.2, q⟩⟩
instance ev2_lt_i {i j : Int} : Ev2 fLt (.int i) (.int j) True (.bl (decide (i < j))) := ⟨fun _ _ q => q⟩
instance ev2_lt_s {i j : Str} : Ev2 fLt (.str i) (.str j) True (.bl (decide (i.cps.toList < j.cps.toList))) := ⟨fun _ _ q => q⟩
instance ev2_eq_ii {g : Bool → Bool} {i j : Int} : Ev2 (eqA g) (.int i) (.int j) True (.bl (g (decide (i = j)))) := ⟨fun _ _ q => q⟩
instance ev2_eq_ss {g : Bool → Bool} {i j : Str} : Ev2 (eqA g) (.str i) (.str j) True (.bl (g (decide (i = j)))) := ⟨fun _ _ q => q⟩
instance ev2_eq_bb {g : Bool → Bool} {i j : Bool} : Ev2 (eqA g) (.bl i) (.bl j) True (.bl (g (decide (i = j)))) := ⟨fun _ _ q => q⟩
instance ev2_eq_nn {g : Bool → Bool} : Ev2 (eqA g) .non .non True (.bl (g true)) := ⟨fun _ _ q => q⟩
instance ev2_eq_ns {g : Bool → Bool} {s : Str} : Ev2 (eqA g) .non (.str s) True (.bl (g false)) := ⟨fun _ _ q => q⟩
instance ev2_eq_sn {g : Bool → Bool} {s : Str} : Ev2 (eqA g) (.str s) .non True (.bl (g false)) := ⟨fun _ _ q => q⟩
instance ev2_eq_ni {g : Bool → Bool} {s : Int} : Ev2 (eqA g) .non (.int s) True (.bl (g false)) := ⟨fun _ _ q => q⟩
instance ev2_eq_in {g : Bool → Bool} {s : Int} : Ev2 (eqA g) (.int s) .non True (.bl (g false)) := ⟨fun _ _ q => q⟩
class IsNd (d : D) (b : outParam Bool) : Prop where eq : isN d = some b
instance isn_n : IsNd .non true := ⟨rfl⟩
instance isn_b {b : Bool} : IsNd (.bl b) false := ⟨rfl⟩
instance isn_i {b : Int} : IsNd (.int b) false := ⟨rfl⟩
instance isn_s {b : Str} : IsNd (.str b) false := ⟨rfl⟩
instance isn_l {b : List D} : IsNd (.lst b) false := ⟨rfl⟩
instance isn_t {b : List D} : IsNd (.tup b) false := ⟨rfl⟩
instance isn_d {b : List Key} {c : List D} : IsNd (.dic b c) false := ⟨rfl⟩
instance ev2_isn {g : Bool → Bool} {d : D} {b : Bool} [h : IsNd d b] : Ev2 (fIsN g) d .non True (.bl (g b)) := ⟨fun _ Q q => by unfold fIsN; rw [h.eq]; exact ⟨rfl, q⟩⟩
instance ev2_in_l {g : Bool → Bool} {x : D} {ys : List D} : Ev2 (fIn g) x (.lst ys) (flatD x = true ∧ ys.all flatD = true) (.bl (g (inD x ys))) := ⟨fun c Q q => ⟨c.1, c.2, q⟩⟩
instance ev2_in_t {g : Bool → Bool} {x : D} {ys : List D} : Ev2 (fIn g) x (.tup ys) (flatD x = true ∧ ys.all flatD = true) (.bl (g (inD x ys))) := ⟨fun c Q q => ⟨c.1, c.2, q⟩⟩
instance ev2_in_s {g : Bool → Bool} {c : Nat} {z : Str} : Ev2 (fIn g) (.str ⟨#[c]⟩) (.str z) True (.bl (g (decide (c ∈ z.cps.toList)))) := ⟨fun _ Q q => q⟩
class AtL (xs : List D) (n : Nat) (d : outParam D) : Prop where eq : xs[n]? = some d
instance atl_z {d : D} {xs : List D} : AtL (d :: xs) 0 d := ⟨rfl⟩
instance atl_s {d e : D} {xs : List D} {n : Nat} [h : AtL xs n d] : AtL (e :: xs) (n + 1) d := ⟨by rw [List.getElem?_cons_succ]; exact h.eq⟩
theorem atl_of {xs : List D} {n : Nat} {d : D} (h : AtL xs n d) : atI xs ((n : Nat) : Int) = some d := by
  have hl : n < xs.length := (List.getElem?_eq_some_iff.mp h.eq).1
  unfold atI
  have : ixN xs.length ((n : Nat) : Int) = some n := by
    simp [ixN, hl]
  rw [this]
  exact h.eq
theorem atI_zero {x : D} {xs : List D} : atI (x :: xs) 0 = some x := atl_of (n := 0) (xs := x :: xs) (d := x) inferInstance
class IntLit (i : Int) (n : outParam Nat) : Prop where eq : i = (n : Nat)
instance intlit_0 : IntLit 0 0 := ⟨rfl⟩
instance intlit_1 : IntLit 1 1 := ⟨rfl⟩
instance intlit_2 : IntLit 2 2 := ⟨rfl⟩
instance intlit_3 : IntLit 3 3 := ⟨rfl⟩
instance intlit_4 : IntLit 4 4 := ⟨rfl⟩
instance intlit_5 : IntLit 5 5 := ⟨rfl⟩
instance intlit_6 : IntLit 6 6 := ⟨rfl⟩
instance intlit_7 : IntLit 7 7 := ⟨rfl⟩
instance intlit_8 : IntLit 8 8 := ⟨rfl⟩
instance intlit_9 : IntLit 9 9 := ⟨rfl⟩
instance intlit_10 : IntLit 10 10 := ⟨rfl⟩
instance intlit_11 : IntLit 11 11 := ⟨rfl⟩
instance intlit_12 : IntLit 12 12 := ⟨rfl⟩
instance ev2_ix_l {xs : List D} {i : Int} {n : Nat} {d : D} [k : IntLit i n] [h : AtL xs n d] : Ev2 fIx (.lst xs) (.int i) True d := ⟨fun _ Q q => by
  have e := atl_of h
  show onO (atI xs i) Q
  rw [k.eq, e]; exact q⟩
instance ev2_ix_t {xs : List D} {i : Int} {n : Nat} {d : D} [k : IntLit i n] [h : AtL xs n d] : Ev2 fIx (.tup xs) (.int i) True d := ⟨fun _ Q q => by
  have e := atl_of h
  show onO (atI xs i) Q
  rw [k.eq, e]; exact q⟩
theorem atC_of {ls : List Nat} {n : Nat} (h : n < ls.length) : atI ls ((n : Nat) : Int) = some (ls.getD n 0) := by
  unfold atI
  have : ixN ls.length ((n : Nat) : Int) = some n := by
    simp [ixN, h]
  rw [this]
  show ls[n]? = _
  rw [List.getD_eq_getElem?_getD, List.getElem?_eq_getElem h]
  rfl
instance ev2_ix_s {ls : List Nat} {i : Int} {n : Nat} [k : IntLit i n] : Ev2 fIx (.str (txt ls)) (.int i) (n < ls.length ∧ ls.length ≤ 100000) (.str (txt [ls.getD n 0])) := ⟨fun c Q q => by
  have e := atC_of c.1
  refine ⟨by show ls.length ≤ sizeLine; rw [sizeLine_eq]; omega, ?_⟩
  show onO (atI ls i) _
  rw [k.eq, e]
  exact q⟩
instance ev1_neg {i : Int} : Ev1 fNeg (.int i) True (.int (-i)) := ⟨fun _ _ q => q⟩
instance ev1_fmt_s {i : Str} : Ev1 fFmt (.str i) (i.length ≤ sizeLine) (.str i) := ⟨fun c _ q => ⟨c, q⟩⟩
instance ev1_fmt_i {i : Int} : Ev1 fFmt (.int i) (i.natAbs.log2 < 1920) (.str (toString i)) := ⟨fun c _ q => ⟨c, q⟩⟩
/-! built-ins -/
instance evb_len_l {xs : List D} : EvB fLen [.lst xs] True (.int xs.length) := ⟨fun _ _ q => q⟩
instance evb_len_t {xs : List D} : EvB fLen [.tup xs] True (.int xs.length) := ⟨fun _ _ q => q⟩
instance evb_len_s {s : Str} : EvB fLen [.str s] (s.length ≤ sizeLine) (.int s.length) := ⟨fun c _ q => ⟨c, q⟩⟩
instance evb_int_i {i : Int} : EvB fInt [.int i] True (.int i) := ⟨fun _ _ q => q⟩
instance evb_int_b {b : Bool} : EvB fInt [.bl b] True (.int (if b then 1 else 0)) := ⟨fun _ _ q => q⟩
instance evbf_list_l {xs : List D} : EvBF fListOf [.lst xs] True xs := ⟨fun _ _ q => q⟩
instance evbf_list_t {xs : List D} : EvBF fListOf [.tup xs] True xs := ⟨fun _ _ q => q⟩
instance evb_tup_l {xs : List D} : EvB fTupOf [.lst xs] True (.tup xs) := ⟨fun _ _ q => q⟩
instance evb_tup_t {xs : List D} : EvB fTupOf [.tup xs] True (.tup xs) := ⟨fun _ _ q => q⟩
instance evb_isi {d : D} {n : String} : EvB fIsi [d, .obj (.ty n)] ((isiD d n).isSome = true) (.bl ((isiD d n).getD false)) := ⟨fun c Q q => by
  show onO (isiD d n) _
  obtain ⟨b, e⟩ := Option.isSome_iff_exists.mp c
  rw [e] at q ⊢
  exact q⟩
/-! tests -/
instance evt_b {w : WE} {G : Gm} {C : Prop} {b : Bool} [h : EvE w G C (.bl b)] : EvT (wB w) G C b := ⟨fun c ed Q q => h.ev c ed _ q⟩
class TruD (d : D) (b : outParam Bool) : Prop where eq : truD d = some b
instance trud_n : TruD .non false := ⟨rfl⟩
instance trud_b {b : Bool} : TruD (.bl b) b := ⟨rfl⟩
instance trud_l {xs : List D} : TruD (.lst xs) (!xs.isEmpty) := ⟨rfl⟩
instance trud_t {xs : List D} : TruD (.tup xs) (!xs.isEmpty) := ⟨rfl⟩
instance evt_tru {w : WE} {G : Gm} {C : Prop} {d : D} {b : Bool} [h : EvE w G C d] [k : TruD d b] : EvT (wTru w) G C b := ⟨fun c ed Q q => h.ev c ed _ (by rw [k.eq]; exact q)⟩
instance evt_and {t u : WT} {G : Gm} {A B B' C : Prop} {b c : Bool} [h : EvT t G A b] [k : EvT u G B c] [i : ImpC b B B'] [a : AndC A B' C] : EvT (wAnd t u) G C (b && c) := ⟨fun z ed Q q => by
  refine h.ev (a.pr z).1 ed _ (fork_i (fun e => ?_) fun e => ?_)
  · rw [e, Bool.true_and] at q
    exact k.ev (i.pr (a.pr z).2 e) ed Q q
  · rw [e, Bool.false_and] at q
    exact q⟩
instance evt_or {t u : WT} {G : Gm} {A B B' C : Prop} {b c : Bool} [h : EvT t G A b] [k : EvT u G B c] [i : ImpC (!b) B B'] [a : AndC A B' C] : EvT (wOr t u) G C (b || c) := ⟨fun z ed Q q => by
  refine h.ev (a.pr z).1 ed _ (fork_i (fun e => ?_) fun e => ?_)
  · rw [e, Bool.true_or] at q
    exact q
  · rw [e, Bool.false_or] at q
    exact k.ev (i.pr (a.pr z).2 (by rw [e]; rfl)) ed Q q⟩
instance evt_not {t : WT} {G : Gm} {C : Prop} {b : Bool} [h : EvT t G C b] : EvT (wNot t) G C (!b) := ⟨fun c ed Q q => h.ev c ed _ q⟩
instance eve_andV {wa wb : WE} {G : Gm} {A B B' C : Prop} {b c : Bool} [h : EvE wa G A (.bl b)] [k : EvE wb G B (.bl c)] [i : ImpC b B B'] [a : AndC A B' C] : EvE (wAndV wa wb) G C (.bl (b && c)) := ⟨fun z ed Q q => by
  refine h.ev (a.pr z).1 ed _ (fork_i (fun e => ?_) fun e => ?_)
  · rw [e, Bool.true_and] at q
    exact k.ev (i.pr (a.pr z).2 e) ed Q q
  · rw [e, Bool.false_and] at q
    exact q⟩
instance eve_orV {wa wb : WE} {G : Gm} {A B B' C : Prop} {b c : Bool} [h : EvE wa G A (.bl b)] [k : EvE wb G B (.bl c)] [i : ImpC (!b) B B'] [a : AndC A B' C] : EvE (wOrV wa wb) G C (.bl (b || c)) := ⟨fun z ed Q q => by
  refine h.ev (a.pr z).1 ed _ (fork_i (fun e => ?_) fun e => ?_)
  · rw [e, Bool.true_or] at q
    exact q
  · rw [e, Bool.false_or] at q
    exact k.ev (i.pr (a.pr z).2 (by rw [e]; rfl)) ed Q q⟩
instance eve_notV {wa : WE} {G : Gm} {C : Prop} {b : Bool} [h : EvE wa G C (.bl b)] : EvE (wNotV wa) G C (.bl (!b)) := ⟨fun c ed Q q => h.ev c ed _ q⟩
instance eve_chain {f f' : D → D → (D → Prop) → Prop} {wa wb wc : WE} {G : Gm} {A B E F F' I C C1 C2 C3 : Prop} {x y z : D} {b c : Bool} [h : EvE wa G A x] [k : EvE wb G B y] [l : Ev2 f x y E (.bl b)] [h3 : EvE wc G F z] [l3 : Ev2 f' y z F' (.bl c)] [a3 : AndC F F' I] [i : ImpC b I C1] [a : AndC E C1 C2] [a1 : AndC B C2 C3] [a2 : AndC A C3 C] : EvE (wChain f f' wa wb wc) G C (.bl (b && c)) := ⟨fun q0 ed Q q => by
  have c3 := (a2.pr q0).2
  have c2 := (a1.pr c3).2
  refine h.ev (a2.pr q0).1 ed _ (k.ev (a1.pr c3).1 ed _ (l.ev (a.pr c2).1 _ (fork_i (fun e => ?_) fun e => ?_)))
  · have c1 := i.pr (a.pr c2).2 e
    rw [e, Bool.true_and] at q
    exact h3.ev (a3.pr c1).1 ed _ (l3.ev (a3.pr c1).2 Q q)
  · rw [e, Bool.false_and] at q
    exact q⟩
/-! targets -/
instance gog_n {i : Nat} {d : D} {G G' : Gm} [h : SetG G i (.dat d) G'] : GoG (gN i) d G True G' := ⟨fun _ Q q => by unfold gN; rw [h.eq]; exact q⟩
instance gogs_n {G : Gm} : GoGs gsN [] G True G := ⟨fun _ _ q => ⟨rfl, q⟩⟩
instance gogs_c {g : WG} {u : List D → Gm → (Gm → Prop) → Prop} {d : D} {ds : List D} {G G1 G2 : Gm} {A B C : Prop} [h : GoG g d G A G1] [k : GoGs u ds G1 B G2] [a : AndC A B C] : GoGs (gsC g u) (d :: ds) G C G2 := ⟨fun c Q q => h.ev (a.pr c).1 _ (k.ev (a.pr c).2 Q q)⟩
instance gog_t {n : Nat} {u : List D → Gm → (Gm → Prop) → Prop} {ds : List D} {G G' : Gm} {C : Prop} [l : LenN ds n] [h : GoGs u ds G C G'] : GoG (gT n u) (.tup ds) G C G' := ⟨fun c Q q => ⟨l.eq, h.ev c Q q⟩⟩
/-! statements, one after another -/
section
variable {w wa wb : WE} {wl : WL} {t : WT} {b a : WS} {G G' G1 : Gm} {C : Prop} {d d2 : D} {ds es : List D} {De : DEnds} {i j : Nat} {k : Bool}
theorem sq_set [h : EvE w G C d] [s : SetG G i (.dat d) G'] (c : C) (n : b G' De) : wSq (wSet i w) b G De := h.ev c _ _ (by show b (G.set i (.dat d)) De; rw [s.eq]; exact n)
theorem sq_setO [h : EvL wl G C ds] [s : SetG G i (.own (.lst ds)) G'] (c : C) (n : b G' De) : wSq (wSetO i wl) b G De := h.ev c _ _ (by show b (G.set i _) De; rw [s.eq]; exact n)
theorem la_set [h : EvE w G C d] [s : SetG G i (.dat d) G'] (c : C) (n : De.nx G') : wSet i w G De := h.ev c _ _ (by show De.nx (G.set i (.dat d)); rw [s.eq]; exact n)
theorem la_setO [h : EvL wl G C ds] [s : SetG G i (.own (.lst ds)) G'] (c : C) (n : De.nx G') : wSetO i wl G De := h.ev c _ _ (by show De.nx (G.set i _); rw [s.eq]; exact n)
theorem sq_app [g : AtG G i (.own (.lst ds))] [h : EvE w G C d] [s : SetG G i (.own (.lst (ds ++ [d]))) G'] (l : ds.length < sizeLine) (c : C) (n : b G' De) : wSq (wApp i w) b G De := by
  show owS G[i]? _
  rw [g.eq]
  exact ⟨l, h.ev c _ _ (by show b (G.set i _) De; rw [s.eq]; exact n)⟩
theorem la_app [g : AtG G i (.own (.lst ds))] [h : EvE w G C d] [s : SetG G i (.own (.lst (ds ++ [d]))) G'] (l : ds.length < sizeLine) (c : C) (n : De.nx G') : wApp i w G De := by
  show owS G[i]? _
  rw [g.eq]
  exact ⟨l, h.ev c _ _ (by show De.nx (G.set i _); rw [s.eq]; exact n)⟩
theorem sq_ext [g : AtG G i (.own (.lst ds))] [h : EvE w G C (.lst es)] [s : SetG G i (.own (.lst (ds ++ es))) G'] (l : ds.length + es.length ≤ sizeLine) (c : C) (n : b G' De) : wSq (wExt i w) b G De := by
  show owS G[i]? _
  rw [g.eq]
  exact h.ev c _ _ ⟨l, by show b (G.set i _) De; rw [s.eq]; exact n⟩
theorem la_ext [g : AtG G i (.own (.lst ds))] [h : EvE w G C (.lst es)] [s : SetG G i (.own (.lst (ds ++ es))) G'] (l : ds.length + es.length ≤ sizeLine) (c : C) (n : De.nx G') : wExt i w G De := by
  show owS G[i]? _
  rw [g.eq]
  exact h.ev c _ _ ⟨l, by show De.nx (G.set i _); rw [s.eq]; exact n⟩
theorem sq_drop [h : EvE w G C d] (c : C) (n : b G De) : wSq (wDrop w) b G De := h.ev c _ _ n
theorem la_drop [h : EvE w G C d] (c : C) (n : De.nx G) : wDrop w G De := h.ev c _ _ n
theorem sq_asgT {wg : WG} {C2 : Prop} [h : EvE w G C d] [g : GoG wg d G C2 G'] (c : C) (c2 : C2) (n : b G' De) : wSq (wAsgT wg w) b G De := h.ev c _ _ (g.ev c2 _ n)
theorem la_asgT {wg : WG} {C2 : Prop} [h : EvE w G C d] [g : GoG wg d G C2 G'] (c : C) (c2 : C2) (n : De.nx G') : wAsgT wg w G De := h.ev c _ _ (g.ev c2 _ n)
theorem sq_par [h : EvE wa G C d] {C2 : Prop} [h2 : EvE wb G C2 d2] [s : SetG G j (.dat d2) G1] [s2 : SetG G1 i (.dat d) G'] (c : C) (c2 : C2) (n : b G' De) : wSq (wPar i j wa wb) b G De := h.ev c _ _ (h2.ev c2 _ _ (by show b ((G.set j _).set i _) De; rw [s.eq, s2.eq]; exact n))
theorem la_par [h : EvE wa G C d] {C2 : Prop} [h2 : EvE wb G C2 d2] [s : SetG G j (.dat d2) G1] [s2 : SetG G1 i (.dat d) G'] (c : C) (c2 : C2) (n : De.nx G') : wPar i j wa wb G De := h.ev c _ _ (h2.ev c2 _ _ (by show De.nx ((G.set j _).set i _); rw [s.eq, s2.eq]; exact n))
theorem sq_if {a2 : WS} [h : EvT t G C k] (c : C) (n1 : k = true → wSq a b G De) (n2 : k = false → wSq a2 b G De) : wSq (wIfS t a a2) b G De := h.ev c _ _ (fork_i n1 n2)
theorem la_if {a2 : WS} [h : EvT t G C k] (c : C) (n1 : k = true → a G De) (n2 : k = false → a2 G De) : wIfS t a a2 G De := h.ev c _ _ (fork_i n1 n2)
theorem sq_pass (n : b G De) : wSq wPass b G De := n
theorem sq_sq {a2 : WS} (n : wSq a (wSq a2 b) G De) : wSq (wSq a a2) b G De := n
theorem la_ret [f : FrzG G G'] [h : EvE w G' C d] (c : C) (n : De.rt d) : wRet w G De := by
  show w (frzG G) _ _
  rw [f.eq]
  exact h.ev c _ _ n
theorem la_retF [f : FrzG G G'] [h : EvL wl G' C ds] (c : C) (n : De.rf ds) : wRetF wl G De := by
  show wl (frzG G) _ _
  rw [f.eq]
  exact h.ev c _ _ n
theorem sq_ret [f : FrzG G G'] [h : EvE w G' C d] (c : C) (n : De.rt d) : wSq (wRet w) b G De := by
  show w (frzG G) _ _
  rw [f.eq]
  exact h.ev c _ _ n
/-- what follows a statement as the ends of it -/
theorem sq_cut (h : ∀ De' : DEnds, De'.ex = De.ex → De'.rt = De.rt → De'.rf = De.rf → De'.bk = De.bk → De'.ct = De.ct → (∀ G', b G' De → De'.nx G') → a G De') : wSq a b G De := h _ rfl rfl rfl rfl rfl (fun _ h => h)
theorem sq_nx {P : Gm → Prop} (h : ∀ De' : DEnds, (∀ G', P G' → De'.nx G') → De'.ex = De.ex → De'.rt = De.rt → De'.rf = De.rf → De'.bk = De.bk → De'.ct = De.ct → a G De') (n : ∀ G', P G' → b G' De) : wSq a b G De := h _ n rfl rfl rfl rfl rfl
end
class StartN (N : List Str) (ds : List D) (G' : outParam Gm) : Prop where eq : startG N ds = G'
instance startn_nn : StartN [] [] [] := ⟨rfl⟩
instance startn_d {x : Str} {d : D} {N : List Str} {ds : List D} {G : Gm} [h : StartN N ds G] : StartN (x :: N) (d :: ds) (.dat d :: G) := ⟨by
  rw [← h.eq]
  unfold startG
  rw [List.length_cons, List.length_cons, Nat.add_sub_add_right]
  rfl⟩
instance startn_u {x : Str} {N : List Str} {G : Gm} [h : StartN N [] G] : StartN (x :: N) [] (.un :: G) := ⟨by
  rw [← h.eq]
  rfl⟩
theorem start {W : WS} {N : List Str} {ds : List D} {G : Gm} {De : DEnds} [s : StartN N ds G] (h : W G De) : W (startG N ds) De := by rw [s.eq]; exact h
theorem setg_go {b : WS} {G G' : Gm} {i : Nat} {s : Slot} {De : DEnds} [h : SetG G i s G'] (n : b G' De) : b (G.set i s) De := by rw [h.eq]; exact n
/-- a statement's value by what holds of it -/
theorem sq_setP {w : WE} {b : WS} {G : Gm} {C : Prop} {d : D} {De : DEnds} {i : Nat} (P : D → Prop) [h : EvE w G C d] (c : C) (p : P d) (n : ∀ y, P y → b (G.set i (.dat y)) De) : wSq (wSet i w) b G De := h.ev c _ _ (n d p)
theorem la_setP {w : WE} {G : Gm} {C : Prop} {d : D} {De : DEnds} {i : Nat} (P : D → Prop) [h : EvE w G C d] (c : C) (p : P d) (n : ∀ y, P y → De.nx (G.set i (.dat y))) : wSet i w G De := h.ev c _ _ (n d p)
end DL

namespace DL
open PySem PySem.Spec PyProof.Rows L2
/-! ### loops and comprehensions by their form -/
class ItemsOf (d : D) (ds : outParam (List D)) : Prop where eq : itemsD d = some ds
instance itemsof_l {xs : List D} : ItemsOf (.lst xs) xs := ⟨rfl⟩
instance itemsof_t {xs : List D} : ItemsOf (.tup xs) xs := ⟨rfl⟩
instance itemsof_s {z : Str} : ItemsOf (.str z) (chars z) := ⟨rfl⟩
instance evl_seq {w : WE} {G : Gm} {C : Prop} {d : D} {ds : List D} [h : EvE w G C d] [k : ItemsOf d ds] : EvL (wSeq w) G C ds := ⟨fun c ed Q q => h.ev c ed _ (by rw [k.eq]; exact q)⟩
instance evl_rng1 {wl : WL} {G : Gm} {A C : Prop} {j : Int} [h : EvL wl G A [.int j]] [a : AndC A (-(2 ^ 62) ≤ j ∧ j < 2 ^ 62) C] : EvL (wRng1 wl) G C (rngD 0 j.toNat) := ⟨fun c ed Q q => h.ev (a.pr c).1 ed _ ⟨(a.pr c).2.1, (a.pr c).2.2, q⟩⟩
instance evl_rng2 {wl : WL} {G : Gm} {A C : Prop} {i j : Int} [h : EvL wl G A [.int i, .int j]] [a : AndC A (-(2 ^ 62) ≤ i ∧ i < 2 ^ 62 ∧ -(2 ^ 62) ≤ j ∧ j < 2 ^ 62) C] : EvL (wRng2 wl) G C (rngD i (j - i).toNat) := ⟨fun c ed Q q => h.ev (a.pr c).1 ed _ ⟨(a.pr c).2, q⟩⟩
instance evl_enum {wl : WL} {G : Gm} {C : Prop} {xs : List D} [h : EvL wl G C [.lst xs]] : EvL (wEnum wl) G C (enum xs) := ⟨fun c ed Q q => h.ev c ed _ q⟩
instance evl_enT_l {wl : WL} {G : Gm} {C : Prop} {xs : List D} [h : EvL wl G C [.lst xs]] : EvL (wEnT wl) G C (enum xs) := ⟨fun c ed Q q => h.ev c ed _ q⟩
instance evl_enT_t {wl : WL} {G : Gm} {C : Prop} {xs : List D} [h : EvL wl G C [.tup xs]] : EvL (wEnT wl) G C (enum xs) := ⟨fun c ed Q q => h.ev c ed _ q⟩
instance evl_zip {wl : WL} {G : Gm} {C : Prop} {z : Str} {xs : List D} [h : EvL wl G C [.str z, .tup xs]] : EvL (wZip wl) G C (zipD z xs) := ⟨fun c ed Q q => h.ev c ed _ q⟩
section
variable {w wa wb we : WE} {wl wi : WL} {t wt : WT} {b a bd : WS} {wg : WG} {G G' G1 : Gm} {C : Prop} {d d2 : D} {ds es : List D} {De De' : DEnds} {i j cb : Nat} {k : Bool} {ed : Value → Prop} {vs : List Nat}
theorem go_i {W : Gm → Prop} [h : GoG wg d G C G'] (c : C) (n : W G') : wg d G W := h.ev c W n
theorem ev_e {Q : D → Prop} [h : EvE w G C d] (c : C) (q : Q d) : w G ed Q := h.ev c ed Q q
theorem ev_l {Q : List D → Prop} [h : EvL wl G C ds] (c : C) (q : Q ds) : wl G ed Q := h.ev c ed Q q
theorem ev_t {Q : Bool → Prop} [h : EvT t G C k] (c : C) (q : Q k) : t G ed Q := h.ev c ed Q q
/-- the ends of a loop's body -/
structure LoopE (De' De : DEnds) (N B : Gm → Prop) : Prop where
  ex : De'.ex = De.ex
  rt : De'.rt = De.rt
  rf : De'.rf = De.rf
  nx : ∀ G, N G → De'.nx G
  ct : ∀ G, N G → De'.ct G
  bk : ∀ G, B G → De'.bk G
theorem forW_n {wg : WG} {bd : WS} {De : DEnds} {N : Gm → Prop} (I : Nat → Gm → Prop) (hN : ∀ G, N G → De.nx G) (ds : List D)
    (step : ∀ (i : Nat) (d : D) (G : Gm), ds[i]? = some d → I i G → ∀ De', LoopE De' De (I (i + 1)) N → wg d G fun G1 => bd G1 De')
    (fin : ∀ G, I ds.length G → N G) (G : Gm) (h : I 0 G) : forW wg bd ds G De := by
  refine forW_ind (fun r G => ∃ i, r = ds.drop i ∧ i ≤ ds.length ∧ I i G) ?_ ?_ ds G ⟨0, rfl, Nat.zero_le _, h⟩
  · rintro d r G ⟨i, e, hl, hi⟩ next
    have lt : i < ds.length := by
      rcases Nat.lt_or_ge i ds.length with h | h
      · exact h
      · rw [List.drop_eq_nil_of_le h] at e; exact nomatch e
    rw [List.drop_eq_getElem_cons lt] at e
    obtain ⟨e1, e2⟩ := List.cons.inj e
    refine step i d G (by rw [List.getElem?_eq_getElem lt, e1]) hi _ ⟨rfl, rfl, rfl, fun G2 h2 => ?_, fun G2 h2 => ?_, fun G2 h2 => hN _ h2⟩
    · exact next G2 ⟨i + 1, e2, lt, h2⟩
    · exact next G2 ⟨i + 1, e2, lt, h2⟩
  · rintro G ⟨i, e, hl, hi⟩
    have : i = ds.length := by
      rcases Nat.lt_or_ge i ds.length with h | h
      · have := congrArg List.length e
        rw [List.length_drop] at this
        exact absurd this (by show ¬ (0 = _); omega)
      · omega
    subst this
    exact hN _ (fin G hi)
theorem sq_for (I : Nat → Gm → Prop) [h : EvL wi G C ds] (c : C) (l : cb = 0 ∨ ds.length ≤ 256)
    (step : ∀ (i : Nat) (d : D) (G : Gm), ds[i]? = some d → I i G → ∀ De', LoopE De' De (I (i + 1)) (fun G => b G De) → wg d G fun G1 => bd G1 De')
    (z : I 0 G) (fin : ∀ G, I ds.length G → b G De) : wSq (wFor cb wi wg bd) b G De := h.ev c _ _ ⟨l, forW_n (De := { De with nx := fun G2 => b G2 De }) (N := fun G => b G De) I (fun _ h => h) ds (fun i d G hd hi De' L => step i d G hd hi De' ⟨L.ex, L.rt, L.rf, L.nx, L.ct, L.bk⟩) fin G z⟩
theorem la_for (I : Nat → Gm → Prop) [h : EvL wi G C ds] (c : C) (l : cb = 0 ∨ ds.length ≤ 256)
    (step : ∀ (i : Nat) (d : D) (G : Gm), ds[i]? = some d → I i G → ∀ De', LoopE De' De (I (i + 1)) De.nx → wg d G fun G1 => bd G1 De')
    (z : I 0 G) (fin : ∀ G, I ds.length G → De.nx G) : wFor cb wi wg bd G De := h.ev c _ _ ⟨l, forW_n (N := De.nx) I (fun _ h => h) ds step fin G z⟩
theorem sq_forM {m : Nat} (I : Nat → Gm → Prop) [h : EvL wi G C ds] (c : C) (l : cb = 0 ∨ ds.length ≤ m)
    (step : ∀ (i : Nat) (d : D) (G : Gm), ds[i]? = some d → I i G → ∀ De', LoopE De' De (I (i + 1)) (fun G => b G De) → wg d G fun G1 => bd G1 De')
    (z : I 0 G) (fin : ∀ G, I ds.length G → b G De) : wSq (wForM m cb wi wg bd) b G De := h.ev c _ _ ⟨l, forW_n (De := { De with nx := fun G2 => b G2 De }) (N := fun G => b G De) I (fun _ h => h) ds (fun i d G hd hi De' L => step i d G hd hi De' ⟨L.ex, L.rt, L.rf, L.nx, L.ct, L.bk⟩) fin G z⟩
theorem la_forM {m : Nat} (I : Nat → Gm → Prop) [h : EvL wi G C ds] (c : C) (l : cb = 0 ∨ ds.length ≤ m)
    (step : ∀ (i : Nat) (d : D) (G : Gm), ds[i]? = some d → I i G → ∀ De', LoopE De' De (I (i + 1)) De.nx → wg d G fun G1 => bd G1 De')
    (z : I 0 G) (fin : ∀ G, I ds.length G → De.nx G) : wForM m cb wi wg bd G De := h.ev c _ _ ⟨l, forW_n (N := De.nx) I (fun _ h => h) ds step fin G z⟩
/-- comprehensions -/
theorem lc_map (f : D → D) [h : EvL wi G C ds] [n : InG G vs G1] (c : C) (l : ds.length < sizeLine) (l2 : cb = 0 ∨ ds.length ≤ 256) (each : ∀ d ∈ ds, ∀ R : D → Prop, R (f d) → wg d G1 fun G2 => we G2 (fun _ => False) R) : EvL (wLc cb vs wi wg wTt we) G True (ds.map f) :=
  ⟨fun _ ed Q q => h.ev c ed _ ⟨l, l2, by rw [n.eq]; exact compW_map each q⟩⟩
theorem lc_filter (f : D → D) (p : D → Bool) [h : EvL wi G C ds] [n : InG G vs G1] (c : C) (l : ds.length < sizeLine) (l2 : cb = 0 ∨ ds.length ≤ 256) (each : ∀ d ∈ ds, ∀ (R : D → Prop) (Z : Prop), (p d = true → R (f d)) → (p d = false → Z) → wg d G1 fun G2 => wt G2 (fun _ => False) fun b => fork b (we G2 (fun _ => False) R) Z) : EvL (wLc cb vs wi wg wt we) G True ((ds.filter p).map f) :=
  ⟨fun _ ed Q q => h.ev c ed _ ⟨l, l2, by rw [n.eq]; exact compW_filter each q⟩⟩
end
end DL

namespace DL
open PySem PySem.Spec PyProof.Rows L2
/-! ### calls whose end is not one alone -/
section
variable {w wa wb we : WE} {wl wi : WL} {t wt : WT} {b a bd : WS} {wg : WG} {G G' G1 : Gm} {C : Prop} {d d2 : D} {ds es : List D} {De De' : DEnds} {i j cb : Nat} {k : Bool} {ed : Value → Prop} {vs : List Nat} {Q : D → Prop} {QL : List D → Prop}
theorem call_i {Wf : WF} [h : EvL wl G C ds] (c : C) (q : Wf ds ed Q) : wCall Wf wl G ed Q := h.ev c ed _ q
theorem callN_i {Wf : WFN} [h : EvL wl G C ds] (c : C) (q : Wf ds ed QL) : wCallN Wf wl G ed QL := h.ev c ed _ q
theorem callP_i {Wf : WF} {p : Addr} [h : EvL wl G C (.obj (.ref p) :: ds)] (c : C) (q : Wf ds ed Q) : wCallP p Wf wl G ed Q := h.ev c ed _ ⟨rfl, q⟩
theorem sq_setW (n : w G De.ex fun d => b (G.set i (.dat d)) De) : wSq (wSet i w) b G De := n
theorem sq_setOW (n : wl G De.ex fun ds => b (G.set i (.own (.lst ds))) De) : wSq (wSetO i wl) b G De := n
theorem la_setW (n : w G De.ex fun d => De.nx (G.set i (.dat d))) : wSet i w G De := n
theorem la_setOW (n : wl G De.ex fun ds => De.nx (G.set i (.own (.lst ds)))) : wSetO i wl G De := n
theorem sq_parW (n : wa G De.ex fun d => wb G De.ex fun d2 => b ((G.set j (.dat d2)).set i (.dat d)) De) : wSq (wPar i j wa wb) b G De := n
theorem sq_ifW (n : t G De.ex fun k => fork k (wSq a b G De) (wSq bd b G De)) : wSq (wIfS t a bd) b G De := n
theorem la_ifW (n : t G De.ex fun k => fork k (a G De) (bd G De)) : wIfS t a bd G De := n
theorem sq_dropW (n : w G De.ex fun _ => b G De) : wSq (wDrop w) b G De := n
theorem la_dropW (n : w G De.ex fun _ => De.nx G) : wDrop w G De := n
theorem la_retW (n : w (frzG G) De.ex De.rt) : wRet w G De := n
theorem sq_retW (n : w (frzG G) De.ex De.rt) : wSq (wRet w) b G De := n
theorem frz_go {Q : Prop} {W : WE} {R : D → Prop} [h : FrzG G G'] (n : W G' ed R) : W (frzG G) ed R := by rw [h.eq]; exact n
theorem frz_goL {W : WL} {R : List D → Prop} [h : FrzG G G'] (n : W G' ed R) : W (frzG G) ed R := by rw [h.eq]; exact n
theorem sq_asgTW (n : w G De.ex fun d => wg d G fun G2 => b G2 De) : wSq (wAsgT wg w) b G De := n
theorem tup_i (n : wl G ed fun ds => ds.length ≤ sizeLine ∧ Q (.tup ds)) : wTup wl G ed Q := n
theorem nil_i {R : List D → Prop} (n : R []) : wNil G ed R := n
theorem sq_forW (n : wl G De.ex fun ds => (cb = 0 ∨ ds.length ≤ 256) ∧ forW wg bd ds G { De with nx := fun G2 => b G2 De }) : wSq (wFor cb wl wg bd) b G De := n
theorem la_forW (n : wl G De.ex fun ds => (cb = 0 ∨ ds.length ≤ 256) ∧ forW wg bd ds G De) : wFor cb wl wg bd G De := n
theorem for_n (I : Nat → Gm → Prop) (step : ∀ (i : Nat) (d : D) (G : Gm), ds[i]? = some d → I i G → ∀ De', LoopE De' De (I (i + 1)) (fun G => b G De) → wg d G fun G1 => bd G1 De')
    (z : I 0 G) (fin : ∀ G, I ds.length G → b G De) : forW wg bd ds G { De with nx := fun G2 => b G2 De } :=
  forW_n (De := { De with nx := fun G2 => b G2 De }) (N := fun G => b G De) I (fun _ h => h) ds (fun i d G hd hi De' L => step i d G hd hi De' ⟨L.ex, L.rt, L.rf, L.nx, L.ct, L.bk⟩) fin G z
theorem for_l (I : Nat → Gm → Prop) (step : ∀ (i : Nat) (d : D) (G : Gm), ds[i]? = some d → I i G → ∀ De', LoopE De' De (I (i + 1)) De.nx → wg d G fun G1 => bd G1 De')
    (z : I 0 G) (fin : ∀ G, I ds.length G → De.nx G) : forW wg bd ds G De := forW_n (N := De.nx) I (fun _ h => h) ds step fin G z
theorem seq_i {R : List D → Prop} (n : w G ed fun d => onO (itemsD d) R) : wSeq w G ed R := n
theorem f_i (n : wl G ed fun ds => Q (.lst ds)) : wF wl G ed Q := n
/-- parts of expressions -/
theorem e2_i {f : D → D → (D → Prop) → Prop} (n : wa G ed fun x => wb G ed fun y => f x y Q) : w2 f wa wb G ed Q := n
theorem cb_i {f : List D → (D → Prop) → Prop} (n : wl G ed fun ds => f ds Q) : wCb f wl G ed Q := n
theorem cons_i {R : List D → Prop} (n : wa G ed fun d => wl G ed fun ds => R (d :: ds)) : wCons wa wl G ed R := n
theorem b_i {R : Bool → Prop} (n : w G ed fun d => onB d R) : wB w G ed R := n
theorem f2_i {f : D → D → (D → Prop) → Prop} {x y : D} [h : Ev2 f x y C d] (c : C) (q : Q d) : f x y Q := h.ev c Q q
theorem onB_i {R : Bool → Prop} (n : R k) : onB (.bl k) R := n
theorem lam_i {K : Fg} {cs : List Cw} {last : Str} [h : FrzG G G'] (n : we G' (fun cls => told K cls (fun t => Q (.str t)) cs) fun _ => Q (.str last)) : wLam K cs last we G ed Q := by
  show we (frzG G) _ _
  rw [h.eq]; exact n
theorem repr_i {p : PyData} {wt dp : Nat} [h : EvL wl G C [d]] (c : C) (hp : pyD d = some p) (g : Gd p wt dp) (hw : wt ≤ 1048576) (hd : dp ≤ 60) (q : Q (.str p.shown)) : wCb fRepr wl G ed Q := h.ev c ed _ (fRepr_of hp g hw hd q)
end
/-- what is shown, of one datum -/
theorem eve_repr {wl : WL} {G : Gm} {C : Prop} {d : D} {p : PyData} {wt dp : Nat} [h : EvL wl G C [d]] (hp : pyD d = some p) (g : Gd p wt dp) (hw : wt ≤ 1048576) (hd : dp ≤ 60) : EvE (wCb fRepr wl) G C (.str p.shown) := ⟨fun c ed Q q => h.ev c ed _ (fRepr_of hp g hw hd q)⟩
class PyOf (d : D) (p : outParam PyData) : Prop where eq : pyD d = some p
class PysOf (ds : List D) (ps : outParam (List PyData)) : Prop where eq : pyDs ds = some ps
instance pysof_n : PysOf [] [] := ⟨rfl⟩
instance pysof_c {d : D} {ds : List D} {p : PyData} {ps : List PyData} [h : PyOf d p] [k : PysOf ds ps] : PysOf (d :: ds) (p :: ps) := ⟨by rw [pyDs, h.eq, k.eq]⟩
instance pyof_n : PyOf .non .none := ⟨rfl⟩
instance pyof_b {b : Bool} : PyOf (.bl b) (.bool b) := ⟨rfl⟩
instance pyof_i {i : Int} : PyOf (.int i) (.int i) := ⟨rfl⟩
instance pyof_s {s : Str} : PyOf (.str s) (.str s) := ⟨rfl⟩
instance pyof_l {ds : List D} {ps : List PyData} [h : PysOf ds ps] : PyOf (.lst ds) (.list ps) := ⟨by rw [pyD, h.eq]; rfl⟩
instance pyof_t {ds : List D} {ps : List PyData} [h : PysOf ds ps] : PyOf (.tup ds) (.tuple ps) := ⟨by rw [pyD, h.eq]; rfl⟩
/-- == of data -/
instance ev2_eqD {g : Bool → Bool} {x y : D} {p q : PyData} [h : PyOf x p] [k : PyOf y q] : Ev2 (fEqD g) x y (SeqAt.shaped p = true ∧ SeqAt.shaped q = true) (.bl (g (PyData.eqv p q))) := ⟨fun c Q z => by
  unfold fEqD
  rw [h.eq]
  show onO (pyD y) _
  rw [k.eq]
  exact ⟨c.1, c.2, z⟩⟩
end DL

namespace T
open PySem PySem.Spec PyProof.Rows L2 DL
def topS (i : Nat) : Stmt := PySem.Challenge.pw_tearwords_k37_moves_of_sides.main.body.getD i (.Pass ⟨0, 0, 0, 0⟩)
local macro_rules | `(tactic| walk_at "rd") => `(tactic| simp only [startG, wSq, wIfS, wOr, wAnd, wNot, wB, wCb, wCbF, wCons, wNil, wRd, wC, wVar, wRet, wPass, wChain, wCall, wSet, wSetO, wDrop, wF, wLc, wSeq, wTt, wRng1, wRng2, int1, int2, w2, w2F, wIf, wAndV, wOrV, wNotV, wTru, truD, wAsgT, gT, gsC, gsN, gN, wRaise, wRaise1,
  dEnds, fIsi, fI0, fI, fLt, fIx, fIn, eqA, fIsN, isN, fLen, fAll, fAddA, sign1, flatD, itemsD, vaS, rdS, owS, onB, onI, onS, onO, frzG, inG, wipeG, unO, List.getElem?_cons_zero, List.getElem?_cons_succ, List.set_cons_zero, List.set_cons_succ, List.map_cons, List.map_nil, List.length_cons, List.length_nil, List.cons_append, List.nil_append, List.replicate_succ, List.replicate_zero,
  Nat.reduceSub, Nat.reduceAdd, fork_tt, fork_ff, id, Bool.not_true, Bool.not_false, true_and, and_true, true_or, isi_non_bool, isi_non_int, isi_non_str, isi_non_tuple, isi_bl_bool, isi_bl_int, isi_bl_str, isi_bl_tuple, isi_int_bool, isi_int_int, isi_int_str, isi_int_tuple, isi_str_bool, isi_str_int, isi_str_str, isi_str_tuple, isi_tup_bool, isi_tup_int, isi_tup_str, isi_tup_tuple, isi_lst_bool, isi_lst_int, isi_lst_str, isi_lst_tuple, isi_dic_bool, isi_dic_int, isi_dic_str, isi_dic_tuple])
section
variable {P : Program} {w : World} {K : Fg} {mg : Str → Option Value} {base : Heap}
abbrev kv_BOUNDS : List (Str × Int) := [("faded", 3), ("open", 3), ("closed", 3), ("doubled", 2)]
abbrev gc_MOST_LETTERS : D := .int 3
abbrev gc_MOST_STATES : D := .int 6
abbrev gc_SMALL_LETTERS : D := .str "abcdefghijklmnopqrstuvwxyz"

/-! ### data of the kinds that callers pass -/
inductive Pl : D → Prop
  | non : Pl .non
  | bl (b) : Pl (.bl b)
  | int (i) : Pl (.int i)
  | str (s : Str) : s.length ≤ 100000 → Pl (.str s)
  | lst (xs : List D) : xs.length ≤ 100000 → (∀ d ∈ xs, Pl d) → Pl (.lst xs)
  | tup (xs : List D) : xs.length ≤ 100000 → (∀ d ∈ xs, Pl d) → Pl (.tup xs)
  | dic (ks : List Key) (xs : List D) : Pl (.dic ks xs)
theorem small_line {n : Nat} (h : n ≤ 100000) : n ≤ sizeLine := by rw [sizeLine_eq]; omega
theorem small_lt {n : Nat} (h : n ≤ 100000) : n < sizeLine := by rw [sizeLine_eq]; omega
theorem chars_len (s : Str) : (chars s).length = s.length := by unfold chars; rw [List.length_map]; rfl
theorem all_map {α : Type} (f : α → Bool) (xs : List α) : (xs.map f).all id = xs.all f := by rw [List.all_map]; rfl
theorem any_map {α : Type} (f : α → Bool) (xs : List α) : (xs.map f).any id = xs.any f := by rw [List.any_map]; rfl
/-! ### is_whole -/
def isWhole : D → Int → Int → Bool
  | .int i, lo, hi => decide (lo ≤ i) && decide (i ≤ hi)
  | _, _, _ => false
def wf_is_whole : WF := fun ds ed Q => ∃ d lo hi, ds = [d, .int lo, .int hi] ∧ Pl d ∧ Q (.bl (isWhole d lo hi))
theorem len_is_whole {ds : List D} {ed : Value → Prop} {Q : D → Prop} (h : wf_is_whole ds ed Q) : ds.length = 3 := by
  obtain ⟨d, lo, hi, rfl, _⟩ := h
  rfl
abbrev N_is_whole : List Str := ["thing", "low", "high"]
theorem sc_is_whole : FnScope N_is_whole ["thing", "low", "high"] (defScope (topS 7)) := ⟨rfl, rfl, rfl, by decide +kernel, rfl, by decide +kernel, by decide +kernel⟩
theorem ok_is_whole {f : Addr} {fd : FuncData}  (B : Bl mg)     (F : Fun K "is_whole" "is_whole" (topS 7) f fd) (g : mg "is_whole" = some (.ref f)) (b : Binds K fd ["thing", "low", "high"] []) : DFn P w K mg base "is_whole" 1 3 (wf_is_whole) := by
  exact dfn_of (N := N_is_whole) F sc_is_whole g b rfl (fun ds ed Q h => len_is_whole h) (fun cdv A outer s H E hr =>
    (dss_cons (ds_if (DW.dt (dw_or (dt_val (de_isi (fun _ => rfl) (fun _ => B.isi) (db_cons (dr_pv (fun _ => pv 0)) (db_cons (DE.r (de_ty (fun _ => B.bool) bt_bool)) db_nil)))) (dw_or1 (dt_not (dt_val (de_isi (fun _ => rfl) (fun _ => B.isi) (db_cons (dr_pv (fun _ => pv 0)) (db_cons (DE.r (de_ty (fun _ => B.int) bt_int)) db_nil)))))))) (dss_one (ds_ret de_bl)) dss_nil)
    (dss_one (ds_ret (DX.de (dx_lele (dr_pv (fun _ => pv 1)) (dr_pv (fun _ => pv 0)) (dr_pv (fun _ => pv 2))))))))
    (fun ds ed Q h => by
      obtain ⟨d, lo, hi, rfl, hm, hq⟩ := h
      unfold N_is_whole
      cases hm with
      | int i =>
        walk_at "rd"
        by_cases h1 : lo ≤ i
        · simp only [h1, decide_true, fork_tt]
          simpa [isWhole, h1] using hq
        · simp only [h1, decide_false, fork_ff]
          simpa [isWhole, h1] using hq
      | _ => walk_at "rd"; exact hq)

/-! ### is_text -/
def isText (d : D) (sg : Str) (most : Int) : Bool := match d with
  | .str s => !decide (most < (s.length : Int)) && s.cps.toList.all fun c => decide (c ∈ sg.cps.toList)
  | _ => false
def wf_is_text : WF := fun ds ed Q => ∃ d sg most, ds = [d, .str sg, .int most] ∧ Pl d ∧ Q (.bl (isText d sg most))
theorem len_is_text {ds : List D} {ed : Value → Prop} {Q : D → Prop} (h : wf_is_text ds ed Q) : ds.length = 3 := by
  obtain ⟨d, lo, hi, rfl, _⟩ := h
  rfl
abbrev N_is_text : List Str := ["thing", "signs", "most", "sign"]
theorem sc_is_text : FnScope N_is_text ["thing", "signs", "most"] (defScope (topS 8)) := ⟨rfl, rfl, rfl, by decide +kernel, rfl, by decide +kernel, by decide +kernel⟩
theorem ok_is_text {f : Addr} {fd : FuncData}  (B : Bl mg)     (F : Fun K "is_text" "is_text" (topS 8) f fd) (g : mg "is_text" = some (.ref f)) (b : Binds K fd ["thing", "signs", "most"] []) : DFn P w K mg base "is_text" 1 3 (wf_is_text) := by
  exact dfn_of (N := N_is_text) F sc_is_text g b rfl (fun ds ed Q h => len_is_text h) (fun cdv A outer s H E hr =>
    (dss_cons (ds_if (DW.dt (dw_or (dt_not (dt_val (de_isi (fun _ => rfl) (fun _ => B.isi) (db_cons (dr_pv (fun _ => pv 0)) (db_cons (DE.r (de_ty (fun _ => B.str) bt_str)) db_nil))))) (dw_or1 (DX.dt (dx_gt (DE.r (de_len (fun _ => rfl) (fun _ => B.len) (db_cons (dr_pv (fun _ => pv 0)) db_nil))) (dr_pv (fun _ => pv 2))))))) (dss_one (ds_ret de_bl)) dss_nil)
    (dss_one (ds_ret (de_all (fun _ => rfl) (fun _ => rfl) (fun _ => B.all) (db_cons (DE.r (DF.de (df_lc (own := [("sign", 3)]) (fun _ => rfl) (fun _ => sc_is_text.nd) (di_seq (fun _ => rfl) (de_pv (fun _ => pv 0))) (dg_pg (fun _ => pg_name (i := 3) sc_is_text.nd rfl (by first | exact Or.inl rfl | exact Or.inr rfl))) (DX.de (dx_in (fun _ => rfl) (dr_pv (fun _ => pv 3)) (dr_pv (fun _ => pv 1)))) (fun _ => blkOk_by (N := N_is_text) (sc := defScope (topS 8)) (by decide +kernel))))) db_nil))))))
    (fun ds ed Q h => by
      obtain ⟨d, sg, most, rfl, hm, hq⟩ := h
      unfold N_is_text
      cases hm with
      | str s hs =>
        walk_at "rd"
        refine ⟨small_line hs, ?_⟩
        by_cases h1 : most < (s.length : Int)
        · simp only [h1, decide_true, fork_tt]
          simpa [isText, h1] using hq
        · simp only [h1, decide_false, fork_ff]
          refine ⟨by rw [chars_len]; exact small_lt hs, ?_⟩
          refine compW_map (f := fun d => match sign1 d with | some c => .bl (decide (c ∈ sg.cps.toList)) | none => .non) (fun d hd R hR => ?_) ⟨s.cps.toList.map fun c => decide (c ∈ sg.cps.toList), ?_, ?_⟩
          · obtain ⟨c, _, rfl⟩ := List.mem_map.mp hd
            walk_at "rd"
            exact hR
          · rw [List.nil_append, chars, List.map_map, List.map_map]
            rfl
          · rw [all_map]
            simpa [isText, h1] using hq
      | _ => walk_at "rd"; exact hq)

/-! ### is_ascending -/
def ascL (xs : List Nat) : Bool := (List.range (xs.length - 1)).all fun i => decide (xs.getD i 0 < xs.getD (i + 1) 0)
def ascI (xs : List Int) : Bool := (List.range (xs.length - 1)).all fun i => decide (xs.getD i 0 < xs.getD (i + 1) 0)
theorem toNat_pred (n : Nat) : ((n : Int) - 1).toNat = n - 1 := by omega
theorem rngD_mem {n : Nat} {d : D} (h : d ∈ rngD 0 n) : ∃ i, i < n ∧ d = .int (i : Nat) := by
  obtain ⟨i, hi, rfl⟩ := List.mem_map.mp h
  exact ⟨i, List.mem_range.mp hi, by simp⟩
theorem rngD_len (n : Nat) : (rngD 0 n).length = n := by unfold rngD; simp
theorem at_getD {α : Type} {xs : List α} {i : Nat} (z : α) (h : i < xs.length) : atI xs (i : Int) = some (xs.getD i z) := by
  refine atI_nat ?_
  rw [List.getElem?_eq_getElem h, List.getD_eq_getElem?_getD, List.getElem?_eq_getElem h]
  rfl
theorem at_getD1 {α : Type} {xs : List α} {i : Nat} (z : α) (h : i + 1 < xs.length) : atI xs ((i : Int) + 1) = some (xs.getD (i + 1) z) := at_getD (i := i + 1) z h
theorem lt_single (a b : Nat) : decide ([a] < [b]) = decide (a < b) := by
  refine decide_eq_decide.mpr ⟨fun h => ?_, fun h => .rel h⟩
  rw [List.cons_lt_cons_iff] at h
  rcases h with h | ⟨_, h⟩
  · exact h
  · exact absurd h (List.not_lt_nil _)
def wf_is_ascending : WF := fun ds ed Q => (∃ s, ds = [.str s] ∧ s.length ≤ 100000 ∧ Q (.bl (ascL s.cps.toList))) ∨ ∃ ns : List Int, ds = [.tup (ns.map .int)] ∧ ns.length ≤ 100000 ∧ Q (.bl (ascI ns))
theorem len_is_ascending {ds : List D} {ed : Value → Prop} {Q : D → Prop} (h : wf_is_ascending ds ed Q) : ds.length = 1 := by
  rcases h with ⟨s, rfl, _⟩ | ⟨s, rfl, _⟩ <;> rfl
abbrev N_is_ascending : List Str := ["parts", "at"]
theorem sc_is_ascending : FnScope N_is_ascending ["parts"] (defScope (topS 9)) := ⟨rfl, rfl, rfl, by decide +kernel, rfl, by decide +kernel, by decide +kernel⟩
theorem ok_is_ascending {f : Addr} {fd : FuncData}  (B : Bl mg)     (F : Fun K "is_ascending" "is_ascending" (topS 9) f fd) (g : mg "is_ascending" = some (.ref f)) (b : Binds K fd ["parts"] []) : DFn P w K mg base "is_ascending" 1 1 (wf_is_ascending) := by
  exact dfn_of (N := N_is_ascending) F sc_is_ascending g b rfl (fun ds ed Q h => len_is_ascending h) (fun cdv A outer s H E hr =>
    (dss_one (ds_ret (de_all (fun _ => rfl) (fun _ => rfl) (fun _ => B.all) (db_cons (DE.r (DF.de (df_lc (own := [("at", 1)]) (fun _ => rfl) (fun _ => sc_is_ascending.nd) (di_range1 (fun _ => B.range) (db_cons (DE.r (de_sub (DE.r (de_len (fun _ => rfl) (fun _ => B.len) (db_cons (dr_pv (fun _ => pv 0)) db_nil))) (DE.r de_int))) db_nil)) (dg_pg (fun _ => pg_name (i := 1) sc_is_ascending.nd rfl (by first | exact Or.inl rfl | exact Or.inr rfl))) (DX.de (dx_ltS (DE.r (de_ix (fun _ => rfl) (dr_pv (fun _ => pv 0)) (dr_pv (fun _ => pv 1)))) (DE.r (de_ix (fun _ => rfl) (dr_pv (fun _ => pv 0)) (DE.r (de_addA (dr_pv (fun _ => pv 1)) (DE.r de_int))))))) (fun _ => blkOk_by (N := N_is_ascending) (sc := defScope (topS 9)) (by decide +kernel))))) db_nil)))))
    (fun ds ed Q h => by
      unfold N_is_ascending
      rcases h with ⟨s, rfl, hs, hq⟩ | ⟨ns, rfl, hs, hq⟩
      · walk_at "rd"
        refine ⟨small_line hs, ?_⟩
        rw [toNat_pred]
        refine ⟨by omega, by omega, by rw [rngD_len]; exact small_lt (by omega), ?_⟩
        refine compW_map (f := fun d => match d with | .int i => .bl (decide (s.cps.toList.getD i.toNat 0 < s.cps.toList.getD (i.toNat + 1) 0)) | _ => .non) (fun d hd R hR => ?_) ⟨(List.range (s.length - 1)).map fun i => decide (s.cps.toList.getD i 0 < s.cps.toList.getD (i + 1) 0), ?_, ?_⟩
        · obtain ⟨i, hi, rfl⟩ := rngD_mem hd
          have hl : s.cps.toList.length = s.length := rfl
          walk_at "rd"
          refine ⟨small_line hs, ?_⟩
          rw [at_getD 0 (by omega)]
          walk_at "rd"
          refine ⟨small_line hs, ?_⟩
          rw [at_getD1 0 (by omega)]
          walk_at "rd"
          rw [lt_single]
          exact hR
        · rw [List.nil_append, rngD, List.map_map, List.map_map]
          refine congrArg (fun z => [D.lst z]) (List.map_congr_left fun i _ => ?_)
          show (match D.int (0 + (i : Nat)) with | .int i => D.bl (decide (s.cps.toList.getD i.toNat 0 < s.cps.toList.getD (i.toNat + 1) 0)) | _ => .non) = _
          simp
        · rw [all_map]
          exact hq
      · walk_at "rd"
        rw [List.length_map, toNat_pred]
        refine ⟨by omega, by omega, by rw [rngD_len]; exact small_lt (by omega), ?_⟩
        refine compW_map (f := fun d => match d with | .int i => .bl (decide (ns.getD i.toNat 0 < ns.getD (i.toNat + 1) 0)) | _ => .non) (fun d hd R hR => ?_) ⟨(List.range (ns.length - 1)).map fun i => decide (ns.getD i 0 < ns.getD (i + 1) 0), ?_, ?_⟩
        · obtain ⟨i, hi, rfl⟩ := rngD_mem hd
          have m1 : ∀ j, j < ns.length → (ns.map D.int).getD j .non = .int (ns.getD j 0) := fun j hj => by
            simp [List.getD_eq_getElem?_getD, List.getElem?_eq_getElem hj]
          walk_at "rd"
          rw [at_getD .non (by rw [List.length_map]; omega), m1 _ (by omega)]
          walk_at "rd"
          rw [at_getD1 .non (by rw [List.length_map]; omega), m1 _ (by omega)]
          walk_at "rd"
          exact hR
        · rw [List.nil_append, rngD, List.map_map, List.map_map]
          refine congrArg (fun z => [D.lst z]) (List.map_congr_left fun i _ => ?_)
          show (match D.int (0 + (i : Nat)) with | .int i => D.bl (decide (ns.getD i.toNat 0 < ns.getD (i.toNat + 1) 0)) | _ => .non) = _
          simp
        · rw [all_map]
          exact hq)

/-! ### need_word, need_count -/
/-! ### _are_letters .. is_machine -/
def areLetters (d : D) : Bool := isText d "abcdefghijklmnopqrstuvwxyz" 3 && match d with
  | .str s => decide (0 < (s.length : Int)) && ascL s.cps.toList
  | _ => false
def wf__are_letters : WF := fun ds ed Q => ∃ d, ds = [d] ∧ Pl d ∧ Q (.bl (areLetters d))
theorem len__are_letters {ds : List D} {ed : Value → Prop} {Q : D → Prop} (h : wf__are_letters ds ed Q) : ds.length = 1 := by
  obtain ⟨d, rfl, _⟩ := h
  rfl
abbrev N__are_letters : List Str := ["thing"]
theorem sc__are_letters : FnScope N__are_letters ["thing"] (defScope (topS 15)) := ⟨rfl, rfl, rfl, by decide +kernel, rfl, by decide +kernel, by decide +kernel⟩
theorem ok__are_letters {f : Addr} {fd : FuncData}  (B : Bl mg)  (C_MOST_LETTERS : GC mg "MOST_LETTERS" gc_MOST_LETTERS) (C_SMALL_LETTERS : GC mg "SMALL_LETTERS" gc_SMALL_LETTERS)  (F_is_ascending : DFn P w K mg base "is_ascending" 1 1 (wf_is_ascending)) (F_is_text : DFn P w K mg base "is_text" 1 3 (wf_is_text)) (F : Fun K "_are_letters" "_are_letters" (topS 15) f fd) (g : mg "_are_letters" = some (.ref f)) (b : Binds K fd ["thing"] []) : DFn P w K mg base "_are_letters" 2 1 (wf__are_letters) := by
  exact dfn_of (N := N__are_letters) F sc__are_letters g b rfl (fun ds ed Q h => len__are_letters h) (fun cdv A outer s H E hr =>
    (dss_cons (ds_if (dt_not (dt_val (de_call F_is_text (fun _ => ⟨rfl, rfl, rfl, rfl, rfl⟩) (fun _ => takes_of rfl rfl rfl rfl) (fun _ => hr) (da_cons (de_pv (fun _ => pv 0)) (da_cons (de_gc (fun _ => rfl) C_SMALL_LETTERS) (da_cons (de_gc (fun _ => rfl) C_MOST_LETTERS) da_nil)))))) (dss_one (ds_ret de_bl)) dss_nil)
    (dss_one (ds_ret (de_and (DX.de (dx_gt (DE.r (de_len (fun _ => rfl) (fun _ => B.len) (db_cons (dr_pv (fun _ => pv 0)) db_nil))) (DE.r de_int))) (de_one (de_call F_is_ascending (fun _ => ⟨rfl, rfl, rfl, rfl, rfl⟩) (fun _ => takes_of rfl rfl rfl rfl) (fun _ => hr) (da_cons (de_pv (fun _ => pv 0)) da_nil))))))))
    (fun ds ed Q h => by
      obtain ⟨d, rfl, hd, hq⟩ := h
      unfold N__are_letters
      walk_at "rd"
      refine ⟨d, _, 3, rfl, hd, ?_⟩
      by_cases hb : isText d "abcdefghijklmnopqrstuvwxyz" 3 = true
      · simp only [hb, Bool.not_true, fork_ff]
        cases hd with
        | str s hs =>
          walk_at "rd"
          refine ⟨small_line hs, ?_⟩
          by_cases h0 : 0 < (s.length : Int)
          · simp only [h0, decide_true, fork_tt]
            refine .inl ⟨s, rfl, hs, ?_⟩
            simpa only [areLetters, hb, h0, decide_true, Bool.true_and] using hq
          · simp only [h0, decide_false, fork_ff]
            simpa only [areLetters, hb, h0, decide_false, Bool.true_and, Bool.false_and] using hq
        | _ => exact absurd hb (by simp [isText])
      · have hb : isText d "abcdefghijklmnopqrstuvwxyz" 3 = false := by simpa using hb
        simp only [hb, Bool.not_false, fork_tt]
        simpa [areLetters, hb] using hq)

def isGoal (d : D) (many : Int) : Bool := match d with
  | .non => true
  | d => isWhole d 0 (many - 1)
def isState (d : D) (width many : Int) : Bool := match d with
  | .tup xs => decide ((xs.length : Int) = width) && xs.all fun g => isGoal g many
  | _ => false
def wf__is_state : WF := fun ds ed Q => ∃ d width many, ds = [d, .int width, .int many] ∧ Pl d ∧ Q (.bl (isState d width many))
theorem len__is_state {ds : List D} {ed : Value → Prop} {Q : D → Prop} (h : wf__is_state ds ed Q) : ds.length = 3 := by
  obtain ⟨d, a, b, rfl, _⟩ := h
  rfl
abbrev N__is_state : List Str := ["thing", "width", "many", "goal"]
theorem sc__is_state : FnScope N__is_state ["thing", "width", "many"] (defScope (topS 17)) := ⟨rfl, rfl, rfl, by decide +kernel, rfl, by decide +kernel, by decide +kernel⟩
theorem ok__is_state {f : Addr} {fd : FuncData}  (B : Bl mg)    (F_is_whole : DFn P w K mg base "is_whole" 1 3 (wf_is_whole)) (F : Fun K "_is_state" "_is_state" (topS 17) f fd) (g : mg "_is_state" = some (.ref f)) (b : Binds K fd ["thing", "width", "many"] []) : DFn P w K mg base "_is_state" 2 3 (wf__is_state) := by
  exact dfn_of (N := N__is_state) F sc__is_state g b rfl (fun ds ed Q h => len__is_state h) (fun cdv A outer s H E hr =>
    (dss_cons (ds_if (DW.dt (dw_or (dt_not (dt_val (de_isi (fun _ => rfl) (fun _ => B.isi) (db_cons (dr_pv (fun _ => pv 0)) (db_cons (DE.r (de_ty (fun _ => B.tuple) bt_tuple)) db_nil))))) (dw_or1 (DX.dt (dx_ne (DE.r (de_len (fun _ => rfl) (fun _ => B.len) (db_cons (dr_pv (fun _ => pv 0)) db_nil))) (dr_pv (fun _ => pv 1))))))) (dss_one (ds_ret de_bl)) dss_nil)
    (dss_one (ds_ret (de_all (fun _ => rfl) (fun _ => rfl) (fun _ => B.all) (db_cons (DE.r (DF.de (df_lc (own := [("goal", 3)]) (fun _ => rfl) (fun _ => sc__is_state.nd) (di_seq (fun _ => rfl) (de_pv (fun _ => pv 0))) (dg_pg (fun _ => pg_name (i := 3) sc__is_state.nd rfl (by first | exact Or.inl rfl | exact Or.inr rfl))) (de_or (DX.de (dx_isN (dr_pv (fun _ => pv 3)) (DE.r de_non))) (de_one (de_call F_is_whole (fun _ => ⟨rfl, rfl, rfl, rfl, rfl⟩) (fun _ => takes0) (fun _ => hr) (da_cons (de_pv (fun _ => pv 3)) (da_cons de_int (da_cons (de_sub (dr_pv (fun _ => pv 2)) (DE.r de_int)) da_nil)))))) (fun _ => blkOk_by (N := N__is_state) (sc := defScope (topS 17)) (by decide +kernel))))) db_nil))))))
    (fun ds ed Q h => by
      obtain ⟨d, width, many, rfl, hd, hq⟩ := h
      unfold N__is_state
      cases hd with
      | tup xs hs hx =>
        walk_at "rd"
        by_cases h1 : (xs.length : Int) = width
        · simp only [h1, decide_true, Bool.not_true, fork_ff]
          refine ⟨small_lt hs, ?_⟩
          refine compW_map (f := fun d => .bl (isGoal d many)) (fun d hd R hR => ?_) ⟨xs.map fun d => isGoal d many, ?_, ?_⟩
          · have pd := hx d hd
            cases pd with
            | non => walk_at "rd"; exact hR
            | int i => walk_at "rd"; exact ⟨_, _, _, rfl, .int i, hR⟩
            | bl b => walk_at "rd"; exact ⟨_, _, _, rfl, .bl b, hR⟩
            | str s h => walk_at "rd"; exact ⟨_, _, _, rfl, .str s h, hR⟩
            | lst s h k => walk_at "rd"; exact ⟨_, _, _, rfl, .lst s h k, hR⟩
            | tup s h k => walk_at "rd"; exact ⟨_, _, _, rfl, .tup s h k, hR⟩
            | dic s h => walk_at "rd"; exact ⟨_, _, _, rfl, .dic s h, hR⟩
          · rw [List.nil_append, List.map_map]; rfl
          · rw [all_map]
            simpa [isState, h1] using hq
        · simp only [h1, decide_false, Bool.not_false, fork_tt]
          simpa [isState, h1] using hq
      | _ => walk_at "rd"; exact hq)

def areStates (d : D) (width : Int) : Bool := match d with
  | .tup xs => decide ((1 : Int) ≤ xs.length) && decide ((xs.length : Int) ≤ 6) && xs.all fun g => isState g width xs.length
  | _ => false
def wf__are_states : WF := fun ds ed Q => ∃ d width, ds = [d, .int width] ∧ Pl d ∧ Q (.bl (areStates d width))
theorem len__are_states {ds : List D} {ed : Value → Prop} {Q : D → Prop} (h : wf__are_states ds ed Q) : ds.length = 2 := by
  obtain ⟨d, a, rfl, _⟩ := h
  rfl
abbrev N__are_states : List Str := ["thing", "width", "state"]
theorem sc__are_states : FnScope N__are_states ["thing", "width"] (defScope (topS 16)) := ⟨rfl, rfl, rfl, by decide +kernel, rfl, by decide +kernel, by decide +kernel⟩
theorem ok__are_states {f : Addr} {fd : FuncData}  (B : Bl mg)  (C_MOST_STATES : GC mg "MOST_STATES" gc_MOST_STATES)  (F__is_state : DFn P w K mg base "_is_state" 2 3 (wf__is_state)) (F : Fun K "_are_states" "_are_states" (topS 16) f fd) (g : mg "_are_states" = some (.ref f)) (b : Binds K fd ["thing", "width"] []) : DFn P w K mg base "_are_states" 3 2 (wf__are_states) := by
  exact dfn_of (N := N__are_states) F sc__are_states g b rfl (fun ds ed Q h => len__are_states h) (fun cdv A outer s H E hr =>
    (dss_cons (ds_if (DW.dt (dw_or (dt_not (dt_val (de_isi (fun _ => rfl) (fun _ => B.isi) (db_cons (dr_pv (fun _ => pv 0)) (db_cons (DE.r (de_ty (fun _ => B.tuple) bt_tuple)) db_nil))))) (dw_or1 (dt_not (DX.dt (dx_lele (DE.r de_int) (DE.r (de_len (fun _ => rfl) (fun _ => B.len) (db_cons (dr_pv (fun _ => pv 0)) db_nil))) (DE.r (de_gc (fun _ => rfl) C_MOST_STATES)))))))) (dss_one (ds_ret de_bl)) dss_nil)
    (dss_one (ds_ret (de_all (fun _ => rfl) (fun _ => rfl) (fun _ => B.all) (db_cons (DE.r (DF.de (df_lc (own := [("state", 2)]) (fun _ => rfl) (fun _ => sc__are_states.nd) (di_seq (fun _ => rfl) (de_pv (fun _ => pv 0))) (dg_pg (fun _ => pg_name (i := 2) sc__are_states.nd rfl (by first | exact Or.inl rfl | exact Or.inr rfl))) (de_call F__is_state (fun _ => ⟨rfl, rfl, rfl, rfl, rfl⟩) (fun _ => takes0) (fun _ => hr) (da_cons (de_pv (fun _ => pv 2)) (da_cons (de_pv (fun _ => pv 1)) (da_cons (de_len (fun _ => rfl) (fun _ => B.len) (db_cons (dr_pv (fun _ => pv 0)) db_nil)) da_nil)))) (fun _ => blkOk_by (N := N__are_states) (sc := defScope (topS 16)) (by decide +kernel))))) db_nil))))))
    (fun ds ed Q h => by
      obtain ⟨d, width, rfl, hd, hq⟩ := h
      unfold N__are_states
      cases hd with
      | tup xs hs hx =>
        walk_at "rd"
        by_cases h1 : (1 : Int) ≤ xs.length
        · simp only [h1, decide_true, fork_tt]
          by_cases h2 : (xs.length : Int) ≤ 6
          · simp only [h2, decide_true, Bool.not_true, fork_ff]
            refine ⟨small_lt hs, ?_⟩
            refine compW_map (f := fun d => .bl (isState d width xs.length)) (fun d hd R hR => ?_) ⟨xs.map fun d => isState d width xs.length, ?_, ?_⟩
            · walk_at "rd"
              exact ⟨_, _, _, rfl, hx d hd, hR⟩
            · rw [List.nil_append, List.map_map]; rfl
            · rw [all_map]
              simpa [areStates, h1, h2] using hq
          · simp only [h2, decide_false, Bool.not_false, fork_tt]
            simpa [areStates, h1, h2] using hq
        · simp only [h1, decide_false, fork_ff, Bool.not_false, fork_tt]
          simpa [areStates, h1] using hq
      | _ => walk_at "rd"; exact hq)

def intD : D → Int
  | .int i => i
  | _ => 0
def areEnds (d : D) (many : Int) : Bool := match d with
  | .tup xs => (xs.all fun g => isWhole g 0 (many - 1)) && ascI (xs.map intD)
  | _ => false
theorem whole_int {d : D} {a b : Int} (h : isWhole d a b = true) : d = .int (intD d) := by cases d <;> first | rfl | simp [isWhole] at h
theorem all_whole {xs : List D} {a b : Int} (h : (xs.all fun g => isWhole g a b) = true) : xs = (xs.map intD).map .int := by
  rw [List.map_map]
  refine Eq.symm ((List.map_congr_left fun d hd => ?_).trans (List.map_id _))
  exact (whole_int (List.all_eq_true.mp h d hd)).symm
def wf__are_ends : WF := fun ds ed Q => ∃ d many, ds = [d, .int many] ∧ Pl d ∧ Q (.bl (areEnds d many))
theorem len__are_ends {ds : List D} {ed : Value → Prop} {Q : D → Prop} (h : wf__are_ends ds ed Q) : ds.length = 2 := by
  obtain ⟨d, a, rfl, _⟩ := h
  rfl
abbrev N__are_ends : List Str := ["thing", "many", "end"]
theorem sc__are_ends : FnScope N__are_ends ["thing", "many"] (defScope (topS 18)) := ⟨rfl, rfl, rfl, by decide +kernel, rfl, by decide +kernel, by decide +kernel⟩
theorem ok__are_ends {f : Addr} {fd : FuncData}  (B : Bl mg)    (F_is_ascending : DFn P w K mg base "is_ascending" 1 1 (wf_is_ascending)) (F_is_whole : DFn P w K mg base "is_whole" 1 3 (wf_is_whole)) (F : Fun K "_are_ends" "_are_ends" (topS 18) f fd) (g : mg "_are_ends" = some (.ref f)) (b : Binds K fd ["thing", "many"] []) : DFn P w K mg base "_are_ends" 2 2 (wf__are_ends) := by
  exact dfn_of (N := N__are_ends) F sc__are_ends g b rfl (fun ds ed Q h => len__are_ends h) (fun cdv A outer s H E hr =>
    (dss_cons (ds_if (dt_not (dt_val (de_isi (fun _ => rfl) (fun _ => B.isi) (db_cons (dr_pv (fun _ => pv 0)) (db_cons (DE.r (de_ty (fun _ => B.tuple) bt_tuple)) db_nil))))) (dss_one (ds_ret de_bl)) dss_nil)
    (dss_one (ds_ret (de_and (de_all (fun _ => rfl) (fun _ => rfl) (fun _ => B.all) (db_cons (DE.r (DF.de (df_lc (own := [("end", 2)]) (fun _ => rfl) (fun _ => sc__are_ends.nd) (di_seq (fun _ => rfl) (de_pv (fun _ => pv 0))) (dg_pg (fun _ => pg_name (i := 2) sc__are_ends.nd rfl (by first | exact Or.inl rfl | exact Or.inr rfl))) (de_call F_is_whole (fun _ => ⟨rfl, rfl, rfl, rfl, rfl⟩) (fun _ => takes0) (fun _ => hr) (da_cons (de_pv (fun _ => pv 2)) (da_cons de_int (da_cons (de_sub (dr_pv (fun _ => pv 1)) (DE.r de_int)) da_nil)))) (fun _ => blkOk_by (N := N__are_ends) (sc := defScope (topS 18)) (by decide +kernel))))) db_nil)) (de_one (de_call F_is_ascending (fun _ => ⟨rfl, rfl, rfl, rfl, rfl⟩) (fun _ => takes_of rfl rfl rfl rfl) (fun _ => hr) (da_cons (de_pv (fun _ => pv 0)) da_nil))))))))
    (fun ds ed Q h => by
      obtain ⟨d, many, rfl, hd, hq⟩ := h
      unfold N__are_ends
      cases hd with
      | tup xs hs hx =>
        walk_at "rd"
        refine ⟨small_lt hs, ?_⟩
        refine compW_map (f := fun d => .bl (isWhole d 0 (many - 1))) (fun d hd R hR => ?_) ⟨xs.map fun d => isWhole d 0 (many - 1), ?_, ?_⟩
        · walk_at "rd"
          exact ⟨_, _, _, rfl, hx d hd, hR⟩
        · rw [List.nil_append, List.map_map]; rfl
        · simp only [all_map]
          by_cases hb : (xs.all fun g => isWhole g 0 (many - 1)) = true
          · rw [hb, fork_tt]
            refine .inr ⟨xs.map intD, by rw [← all_whole hb], by rw [List.length_map]; exact hs, ?_⟩
            simpa only [areEnds, hb, Bool.true_and] using hq
          · have hb : (xs.all fun g => isWhole g 0 (many - 1)) = false := by simpa only [Bool.not_eq_true] using hb
            rw [hb, fork_ff]
            simpa only [areEnds, hb, Bool.false_and] using hq
      | _ => walk_at "rd"; exact hq)

def lenO : D → Int
  | .str s => s.length
  | .tup xs => xs.length
  | _ => 0
def isMachine (d : D) : Bool := match d with
  | .tup [l, s, e] => areLetters l && (areStates s (lenO l) && areEnds e (lenO s))
  | _ => false
def wf_is_machine : WF := fun ds ed Q => ∃ d, ds = [d] ∧ Pl d ∧ Q (.bl (isMachine d))
theorem len_is_machine {ds : List D} {ed : Value → Prop} {Q : D → Prop} (h : wf_is_machine ds ed Q) : ds.length = 1 := by
  obtain ⟨d, rfl, _⟩ := h
  rfl
abbrev N_is_machine : List Str := ["thing", "letters", "states", "ends"]
theorem sc_is_machine : FnScope N_is_machine ["thing"] (defScope (topS 14)) := ⟨rfl, rfl, rfl, by decide +kernel, rfl, by decide +kernel, by decide +kernel⟩
theorem ok_is_machine {f : Addr} {fd : FuncData}  (B : Bl mg)    (F__are_ends : DFn P w K mg base "_are_ends" 2 2 (wf__are_ends)) (F__are_letters : DFn P w K mg base "_are_letters" 2 1 (wf__are_letters)) (F__are_states : DFn P w K mg base "_are_states" 3 2 (wf__are_states)) (F : Fun K "is_machine" "is_machine" (topS 14) f fd) (g : mg "is_machine" = some (.ref f)) (b : Binds K fd ["thing"] []) : DFn P w K mg base "is_machine" 4 1 (wf_is_machine) := by
  exact dfn_of (N := N_is_machine) F sc_is_machine g b rfl (fun ds ed Q h => len_is_machine h) (fun cdv A outer s H E hr =>
    (dss_cons (ds_if (DW.dt (dw_or (dt_not (dt_val (de_isi (fun _ => rfl) (fun _ => B.isi) (db_cons (dr_pv (fun _ => pv 0)) (db_cons (DE.r (de_ty (fun _ => B.tuple) bt_tuple)) db_nil))))) (dw_or1 (DX.dt (dx_ne (DE.r (de_len (fun _ => rfl) (fun _ => B.len) (db_cons (dr_pv (fun _ => pv 0)) db_nil))) (DE.r de_int)))))) (dss_one (ds_ret de_bl)) dss_nil)
    (dss_cons (ds_asgT (de_pv (fun _ => pv 0)) (dg_tup (n := 3) (fun _ => rfl) (fun _ => rfl) (dgs_cons (dg_pg (fun _ => pg_name (i := 1) sc_is_machine.nd rfl (.inl rfl))) (dgs_cons (dg_pg (fun _ => pg_name (i := 2) sc_is_machine.nd rfl (.inl rfl))) (dgs_cons (dg_pg (fun _ => pg_name (i := 3) sc_is_machine.nd rfl (.inl rfl))) dgs_nil)))))
    (dss_cons (ds_if (dt_not (dt_val (de_call F__are_letters (fun _ => ⟨rfl, rfl, rfl, rfl, rfl⟩) (fun _ => takes_of rfl rfl rfl rfl) (fun _ => hr) (da_cons (de_pv (fun _ => pv 1)) da_nil)))) (dss_one (ds_ret de_bl)) dss_nil)
    (dss_one (ds_ret (de_and (de_call F__are_states (fun _ => ⟨rfl, rfl, rfl, rfl, rfl⟩) (fun _ => takes_of rfl rfl rfl rfl) (fun _ => hr) (da_cons (de_pv (fun _ => pv 2)) (da_cons (de_len (fun _ => rfl) (fun _ => B.len) (db_cons (dr_pv (fun _ => pv 1)) db_nil)) da_nil))) (de_one (de_call F__are_ends (fun _ => ⟨rfl, rfl, rfl, rfl, rfl⟩) (fun _ => takes_of rfl rfl rfl rfl) (fun _ => hr) (da_cons (de_pv (fun _ => pv 3)) (da_cons (de_len (fun _ => rfl) (fun _ => B.len) (db_cons (dr_pv (fun _ => pv 2)) db_nil)) da_nil)))))))))))
    (fun ds ed Q h => by
      obtain ⟨d, rfl, hd, hq⟩ := h
      unfold N_is_machine
      cases hd with
      | tup xs hs hx =>
        walk_at "rd"
        match xs, hs, hx, hq with
        | [l, s, e], hs, hx, hq =>
          have pl := hx l (by simp)
          have ps := hx s (by simp)
          have pe := hx e (by simp)
          refine fork_f rfl ⟨rfl, rfl, ?_⟩
          refine ⟨l, rfl, pl, ?_⟩
          by_cases hb : areLetters l = true
          · simp only [hb, Bool.not_true, fork_ff]
            cases pl with
            | str z hz =>
              walk_at "rd"
              refine ⟨small_line hz, ?_⟩
              refine ⟨s, _, rfl, ps, ?_⟩
              by_cases hb2 : areStates s z.length = true
              · rw [hb2]
                walk_at "rd"
                cases ps with
                | tup ys h1 h2 =>
                  walk_at "rd"
                  refine ⟨e, _, rfl, pe, ?_⟩
                  simpa only [isMachine, hb, lenO, hb2, Bool.true_and] using hq
                | _ => exact absurd hb2 (by simp [areStates])
              · have hb2 : areStates s z.length = false := by simpa using hb2
                rw [hb2]
                walk_at "rd"
                simpa only [isMachine, hb, lenO, hb2, Bool.true_and, Bool.false_and] using hq
            | _ => exact absurd hb (by simp [areLetters])
          · have hb : areLetters l = false := by simpa using hb
            simp only [hb, Bool.not_false, fork_tt]
            simpa only [isMachine, hb, Bool.false_and] using hq
        | [], _, _, hq => exact fork_t (by simp) (by simpa [isMachine] using hq)
        | [_], _, _, hq => exact fork_t (by simp) (by simpa [isMachine] using hq)
        | [_, _], _, _, hq => exact fork_t (by simp) (by simpa [isMachine] using hq)
        | _ :: _ :: _ :: _ :: r, _, _, hq =>
          have e : ((r.length + 1 + 1 + 1 + 1 : Nat) : Int) ≠ 3 := by omega
          simp only [List.length_cons, e, decide_false, Bool.not_false, fork_tt]
          simpa [isMachine] using hq
      | _ => walk_at "rd"; exact hq)

def wf_need_machine (cNoMachine : Addr) : WF := fun ds ed Q => ∃ d, ds = [d] ∧ Pl d ∧ (if isMachine d = true then Q .non else ed (.ref cNoMachine))
theorem len_need_machine {cNoMachine : Addr} {ds : List D} {ed : Value → Prop} {Q : D → Prop} (h : wf_need_machine cNoMachine ds ed Q) : ds.length = 1 := by
  obtain ⟨d, rfl, _⟩ := h
  rfl
abbrev N_need_machine : List Str := ["machine"]
theorem sc_need_machine : FnScope N_need_machine ["machine"] (defScope (topS 19)) := ⟨rfl, rfl, rfl, by decide +kernel, rfl, by decide +kernel, by decide +kernel⟩
theorem ok_need_machine {f : Addr} {fd : FuncData}  (B : Bl mg)   {cNoMachine : Addr} (X_NoMachine : XFact K mg "NoMachine" cNoMachine) (F_is_machine : DFn P w K mg base "is_machine" 4 1 (wf_is_machine)) (F : Fun K "need_machine" "need_machine" (topS 19) f fd) (g : mg "need_machine" = some (.ref f)) (b : Binds K fd ["machine"] []) : DFn P w K mg base "need_machine" 5 1 (wf_need_machine cNoMachine) := by
  exact dfn_of (N := N_need_machine) F sc_need_machine g b rfl (fun ds ed Q h => len_need_machine h) (fun cdv A outer s H E hr =>
    (dss_one (ds_if (dt_not (dt_val (de_call F_is_machine (fun _ => ⟨rfl, rfl, rfl, rfl, rfl⟩) (fun _ => takes_of rfl rfl rfl rfl) (fun _ => hr) (da_cons (de_pv (fun _ => pv 0)) da_nil)))) (dss_one (ds_raise (fun _ => rfl) (fun _ => rfl) X_NoMachine (fun _ => rfl) (fun _ => takes_of rfl rfl rfl rfl))) dss_nil)))
    (fun ds ed Q h => by
      obtain ⟨d, rfl, hd, hq⟩ := h
      unfold N_need_machine
      walk_at "rd"
      refine ⟨d, rfl, hd, ?_⟩
      by_cases hb : isMachine d = true
      · rw [if_pos hb] at hq
        simp only [hb, Bool.not_true, fork_ff]
        exact hq
      · rw [if_neg hb] at hq
        have hb : isMachine d = false := by simpa using hb
        simp only [hb, Bool.not_false, fork_tt]
        exact hq)

end
end T

namespace T
open PySem PySem.Spec PyProof.Rows L2 DL
section
variable {P : Program} {w : World} {K : Fg} {mg : Str → Option Value} {base : Heap}
/-! ### the place of a sign in a text -/
theorem occ_done {x y : Str} {hi : Nat} {p : Nat} : ∀ (l : List Nat) (k : Nat), (forIn (m := Id) l ((#[p] : Array Nat), k) (StrLaws.occBody x y hi 1)).run.fst = #[p]
  | [], _ => rfl
  | i :: r, k => by
    have hn : ¬ ((((#[p] : Array Nat).size < 1 ∧ k ≤ i) ∧ i + y.length ≤ hi) ∧ Builtin.Str.subAt x y i = true) := fun c => absurd c.1.1.1 (by simp)
    simp only [List.forIn_cons, StrLaws.occBody, if_neg hn]
    exact occ_done r k
theorem occ_go {x : Str} {c p : Nat} (hp : x.cps.toList[p]? = some c) (hb : ∀ j, j < p → x.cps.toList[j]? ≠ some c) : ∀ (n s : Nat), s ≤ p → p < s + n → (forIn (m := Id) (List.range' s n) ((#[] : Array Nat), 0) (StrLaws.occBody x ⟨#[c]⟩ x.length 1)).run.fst = #[p]
  | 0, s, h1, h2 => by omega
  | n + 1, s, h1, h2 => by
    have lp : p < x.length := (List.getElem?_eq_some_iff.mp hp).1
    have l1 : Str.length ⟨#[c]⟩ = 1 := rfl
    rw [List.range'_succ]
    by_cases e : s = p
    · subst e
      have hy : (((((#[] : Array Nat).size < 1) ∧ 0 ≤ s) ∧ s + Str.length ⟨#[c]⟩ ≤ x.length) ∧ Builtin.Str.subAt x ⟨#[c]⟩ s = true) := ⟨⟨⟨by simp, by omega⟩, by rw [l1]; omega⟩, ((StrLaws.subAt_one x c s).mpr hp).2⟩
      simp only [List.forIn_cons, StrLaws.occBody, if_pos hy]
      exact occ_done _ _
    · have hn : ¬ (((((#[] : Array Nat).size < 1) ∧ 0 ≤ s) ∧ s + Str.length ⟨#[c]⟩ ≤ x.length) ∧ Builtin.Str.subAt x ⟨#[c]⟩ s = true) := fun z => hb s (by omega) ((StrLaws.subAt_one x c s).mp ⟨z.1.2, z.2⟩)
      simp only [List.forIn_cons, StrLaws.occBody, if_neg hn]
      exact occ_go hp hb n (s + 1) (by omega) (by omega)
theorem idx_before {c : Nat} : ∀ {ls : List Nat} {j : Nat}, j < ls.idxOf c → ls[j]? ≠ some c
  | [], _, h => fun z => nomatch z
  | n :: r, 0, h => fun e => by
    cases e
    rw [List.idxOf_cons] at h
    simp at h
  | n :: r, j + 1, h => fun z => by
    rw [List.idxOf_cons] at h
    cases e : n == c with
    | true => rw [e] at h; exact nomatch h
    | false =>
      rw [e] at h
      exact idx_before (ls := r) (j := j) (Nat.lt_of_succ_lt_succ h) z
theorem index_one {ls : List Nat} {c : Nat} (h : c ∈ ls) : Txt.index0 ⟨ls.toArray⟩ ⟨#[c]⟩ = some (ls.idxOf c) := by
  have hl : ls.idxOf c < ls.length := List.idxOf_lt_length_iff.mpr h
  have e : (Builtin.Str.occurrences ⟨ls.toArray⟩ ⟨#[c]⟩ 0 (Str.length ⟨ls.toArray⟩) 1) = [ls.idxOf c] := by
    rw [StrLaws.occ_eq]
    refine congrArg Array.toList (occ_go (x := ⟨ls.toArray⟩) (p := ls.idxOf c) ?_ (fun j hj => ?_) _ 0 (Nat.zero_le _) ?_)
    · show ls[ls.idxOf c]? = some c
      rw [List.getElem?_eq_getElem hl, List.getElem_idxOf hl]
    · show ls[j]? ≠ some c
      exact idx_before hj
    · show ls.idxOf c < 0 + (ls.length + 1 - 0)
      omega
  unfold Txt.index0
  rw [e]
  rfl
/-! ### machines -/
structure Mach where
  ls : List Nat
  rows : List (List (Option Nat))
  ends : List Nat
def goalD : Option Nat → D
  | none => .non
  | some k => .int (k : Nat)
def Mach.rowsD (M : Mach) : List D := M.rows.map fun r => .tup (r.map goalD)
def Mach.endsD (M : Mach) : List D := M.ends.map fun k => .int (k : Nat)
def Mach.d (M : Mach) : D := .tup [.str (txt M.ls), .tup M.rowsD, .tup M.endsD]
structure Mach.Ok (M : Mach) : Prop where
  ls : areLetters (.str (txt M.ls)) = true
  l0 : M.ls ≠ []
  l3 : M.ls.length ≤ 3
  r0 : 0 < M.rows.length
  r6 : M.rows.length ≤ 6
  wid : ∀ r ∈ M.rows, r.length = M.ls.length
  goal : ∀ r ∈ M.rows, ∀ k, some k ∈ r → k < M.rows.length
  en : ∀ k ∈ M.ends, k < M.rows.length
  asc : ascI (M.ends.map fun k => Int.ofNat k) = true
  e6 : M.ends.length ≤ 6
def Mach.step (M : Mach) (s c : Nat) : Option Nat := (M.rows.getD s []).getD (M.ls.idxOf c) none
def Mach.run (M : Mach) : Option Nat → List Nat → Option Nat
  | s, [] => s
  | none, _ :: _ => none
  | some s, c :: r => M.run (M.step s c) r
def Mach.In (M : Mach) (s : Option Nat) : Prop := ∀ k, s = some k → k < M.rows.length
theorem Mach.Ok.row {M : Mach} (ok : M.Ok) {s : Nat} (h : s < M.rows.length) : ∃ r, r ∈ M.rows ∧ M.rows.getD s [] = r ∧ M.rows[s]? = some r := ⟨M.rows[s], List.getElem_mem h, by rw [List.getD_eq_getElem?_getD, List.getElem?_eq_getElem h]; rfl, List.getElem?_eq_getElem h⟩
theorem Mach.Ok.at {M : Mach} (ok : M.Ok) {s c : Nat} (h : s < M.rows.length) (hc : c ∈ M.ls) : ∃ r, r ∈ M.rows ∧ M.rows[s]? = some r ∧ r[M.ls.idxOf c]? = some (M.step s c) ∧ M.step s c ∈ r := by
  obtain ⟨r, h1, h2, h3⟩ := ok.row h
  have hl : M.ls.idxOf c < r.length := by rw [ok.wid r h1]; exact List.idxOf_lt_length_iff.mpr hc
  have e : M.step s c = r[M.ls.idxOf c] := by
    unfold Mach.step
    rw [h2, List.getD_eq_getElem?_getD, List.getElem?_eq_getElem hl]
    rfl
  exact ⟨r, h1, h3, by rw [List.getElem?_eq_getElem hl, e], by rw [e]; exact List.getElem_mem hl⟩
theorem Mach.Ok.inn {M : Mach} (ok : M.Ok) {s c : Nat} (h : s < M.rows.length) (hc : c ∈ M.ls) : M.In (M.step s c) := fun k e => by
  obtain ⟨r, h1, _, _, h4⟩ := ok.at h hc
  exact ok.goal r h1 k (e ▸ h4)
theorem Mach.run_none {M : Mach} : ∀ w, M.run none w = none
  | [] => rfl
  | _ :: _ => rfl
theorem Mach.Ok.run_in {M : Mach} (ok : M.Ok) : ∀ {s : Option Nat} {w : List Nat}, M.In s → (∀ c ∈ w, c ∈ M.ls) → M.In (M.run s w)
  | s, [], h, _ => by cases s <;> exact h
  | none, c :: r, h, _ => by rw [Mach.run_none]; exact h
  | some s, c :: r, h, hw => Mach.Ok.run_in (s := M.step s c) (w := r) ok (ok.inn (h s rfl) (hw c List.mem_cons_self)) fun c' hc => hw c' (List.mem_cons_of_mem _ hc)
theorem goal_pl : ∀ s : Option Nat, Pl (goalD s)
  | none => .non
  | some k => .int _
theorem Mach.Ok.pl {M : Mach} (ok : M.Ok) : Pl M.d := by
  have hl : M.ls.length ≤ 100000 := Nat.le_trans ok.l3 (by decide)
  refine .tup _ (by show 3 ≤ 100000; decide) fun d hd => ?_
  rcases List.mem_cons.mp hd with rfl | hd
  · exact .str _ hl
  rcases List.mem_cons.mp hd with rfl | hd
  · refine .tup _ (by rw [Mach.rowsD, List.length_map]; exact Nat.le_trans ok.r6 (by decide)) fun d hd => ?_
    obtain ⟨r, hr, rfl⟩ := List.mem_map.mp hd
    refine .tup _ (by rw [List.length_map, ok.wid r hr]; exact hl) fun d hd => ?_
    obtain ⟨s, _, rfl⟩ := List.mem_map.mp hd
    exact goal_pl s
  rcases List.mem_cons.mp hd with rfl | hd
  · refine .tup _ (by rw [Mach.endsD, List.length_map]; exact Nat.le_trans ok.e6 (by decide)) fun d hd => ?_
    obtain ⟨k, _, rfl⟩ := List.mem_map.mp hd
    exact .int _
  · exact nomatch hd
theorem whole_natM {k n : Nat} (h : k < n) : isWhole (.int (k : Nat)) 0 ((n : Int) - 1) = true := by
  have h1 : (0 : Int) ≤ (k : Nat) := Int.natCast_nonneg k
  have h2 : ((k : Nat) : Int) ≤ (n : Int) - 1 := by omega
  simp only [isWhole, h1, h2, decide_true, Bool.and_self]
theorem Mach.Ok.is {M : Mach} (ok : M.Ok) : isMachine M.d = true := by
  show (areLetters (.str (txt M.ls)) && (areStates (.tup M.rowsD) (M.ls.length : Int) && areEnds (.tup M.endsD) (M.rowsD.length : Int))) = true
  have hr : M.rowsD.length = M.rows.length := List.length_map ..
  rw [ok.ls, Bool.true_and, hr, Bool.and_eq_true]
  constructor
  · have h1 : (1 : Int) ≤ M.rowsD.length := by have := ok.r0; omega
    have h2 : (M.rowsD.length : Int) ≤ 6 := by have := ok.r6; omega
    simp only [areStates, h1, h2, decide_true, Bool.true_and, List.all_eq_true]
    intro d hd
    obtain ⟨r, hr2, rfl⟩ := List.mem_map.mp hd
    have h3 : ((r.map goalD).length : Int) = M.ls.length := by rw [List.length_map, ok.wid r hr2]
    simp only [isState, h3, decide_true, Bool.true_and, List.all_eq_true]
    intro g hg
    obtain ⟨s, hs, rfl⟩ := List.mem_map.mp hg
    cases s with
    | none => rfl
    | some k => rw [hr]; exact whole_natM (ok.goal r hr2 k hs)
  · have e : M.endsD.map intD = M.ends.map fun k => Int.ofNat k := by rw [Mach.endsD, List.map_map]; rfl
    simp only [areEnds, Bool.and_eq_true, List.all_eq_true, e, ok.asc, and_true]
    intro d hd
    obtain ⟨k, hk, rfl⟩ := List.mem_map.mp hd
    exact whole_natM (ok.en k hk)
theorem in_nats (s : Option Nat) (es : List Nat) : inD (goalD s) (es.map fun k => D.int (k : Nat)) = match s with
    | none => false
    | some k => decide (k ∈ es) := by
  unfold inD
  rw [List.any_map]
  cases s with
  | none =>
    rw [List.any_eq_false]
    intro k _
    exact Bool.false_ne_true
  | some k =>
    rw [Bool.eq_iff_iff, List.any_eq_true, decide_eq_true_eq]
    constructor
    · rintro ⟨j, hj, e⟩
      have e : ((j : Nat) : Int) == ((k : Nat) : Int) := e
      have : j = k := Int.ofNat.inj (eq_of_beq e)
      exact this ▸ hj
    · intro h
      exact ⟨k, h, (by simp : (((k : Nat) : Int) == ((k : Nat) : Int)) = true)⟩
theorem flat_goal : ∀ s : Option Nat, flatD (goalD s) = true
  | none => rfl
  | some _ => rfl
theorem flat_ints (es : List Nat) : (es.map fun k => D.int (k : Nat)).all flatD = true := by
  rw [List.all_map, List.all_eq_true]
  intro _ _
  rfl
/-! ### state_behind -/
def wf_state_behind : WF := fun ds ed Q => ∃ (M : Mach) (s : Option Nat) (w : List Nat), M.Ok ∧ ds = [M.d, goalD s, .str (txt w)] ∧ M.In s ∧ (∀ c ∈ w, c ∈ M.ls) ∧ Q (goalD (M.run s w))
theorem len_state_behind {ds : List D} {ed : Value → Prop} {Q : D → Prop} (h : wf_state_behind ds ed Q) : ds.length = 3 := by
  obtain ⟨_, _, _, _, rfl, _⟩ := h
  rfl
abbrev N_state_behind : List Str := ["machine", "state", "word", "letters", "states", "_", "letter"]
theorem sc_state_behind : FnScope N_state_behind ["machine", "state", "word"] (defScope (topS 20)) := ⟨rfl, rfl, rfl, by decide +kernel, rfl, by decide +kernel, by decide +kernel⟩
theorem ok_state_behind {f : Addr} {fd : FuncData}  (B : Bl mg)     (F : Fun K "state_behind" "state_behind" (topS 20) f fd) (g : mg "state_behind" = some (.ref f)) (b : Binds K fd ["machine", "state", "word"] []) : DFn P w K mg base "state_behind" 1 3 (wf_state_behind) := by
  exact dfn_of (N := N_state_behind) F sc_state_behind g b rfl (fun ds ed Q h => len_state_behind h) (fun cdv A outer s H E hr =>
    (dss_cons (ds_asgT (de_pv (fun _ => pv 0)) (dg_tup (n := 3) (fun _ => rfl) (fun _ => rfl) (dgs_cons (dg_pg (fun _ => pg_name (i := 3) sc_state_behind.nd rfl (.inl rfl))) (dgs_cons (dg_pg (fun _ => pg_name (i := 4) sc_state_behind.nd rfl (.inl rfl))) (dgs_cons (dg_pg (fun _ => pg_name (i := 5) sc_state_behind.nd rfl (.inl rfl))) dgs_nil)))))
    (dss_cons (ds_for (fun _ => passes_of rfl) (fun _ => rfl) (di_seq (fun _ => rfl) (de_pv (fun _ => pv 2))) (dg_pg (fun _ => pg_name (i := 6) sc_state_behind.nd rfl (.inl rfl))) (dss_cons (ds_if (DX.dt (dx_isN (dr_pv (fun _ => pv 1)) (DE.r de_non))) (dss_one (ds_ret de_non)) dss_nil)
    (dss_one (ds_set (i := 1) (de_ix (fun _ => rfl) (DE.r (de_ix (fun _ => rfl) (dr_pv (fun _ => pv 4)) (dr_pv (fun _ => pv 1)))) (DE.r (de_index (fun _ => rfl) (fun _ => rfl) (fun _ => takes_of rfl rfl rfl rfl) (dr_pv (fun _ => pv 3)) (db_cons (dr_pv (fun _ => pv 6)) db_nil)))) (fun _ => sc_state_behind.nd)))))
    (dss_one (ds_ret (de_pv (fun _ => pv 1)))))))
    (fun ds ed Q h => by
      obtain ⟨M, s, w, ok, rfl, hs, hw, hq⟩ := h
      unfold N_state_behind
      conv => whnf
      refine ⟨rfl, rfl, ?_⟩
      conv => whnf
      refine ⟨.inl rfl, ?_⟩
      rw [chars_txt]
      refine forW_ind (fun r G => ∃ (s' : Option Nat) (w' : List Nat) (x : Slot), r = w'.map (fun c => .str ⟨#[c]⟩) ∧ (∀ c ∈ w', c ∈ M.ls) ∧ M.In s' ∧ M.run s' w' = M.run s w ∧ G = [.dat M.d, .dat (goalD s'), .dat (.str (txt w)), .dat (.str (txt M.ls)), .dat (.tup M.rowsD), .dat (.tup M.endsD), x]) ?_ ?_ _ _ ⟨s, w, .un, rfl, hw, hs, rfl, rfl⟩
      · rintro d r G ⟨s', w', x, e, hw', hs', hr, rfl⟩ next
        cases w' with
        | nil => exact nomatch e
        | cons c w' =>
          cases e
          cases s' with
          | none =>
            conv => whnf
            refine ⟨rfl, fork_t rfl ?_⟩
            rw [Mach.run_none] at hr
            rw [← hr] at hq
            exact hq
          | some k =>
            have hc := hw' c List.mem_cons_self
            obtain ⟨r, h1, h2, h3, h4⟩ := ok.at (hs' k rfl) hc
            have e1 : atI M.rowsD (k : Int) = some (.tup (r.map goalD)) := atI_nat (by rw [Mach.rowsD, List.getElem?_map, h2]; rfl)
            have e2 : atI (r.map goalD) ((M.ls.idxOf c : Nat) : Int) = some (goalD (M.step k c)) := atI_nat (by rw [List.getElem?_map, h3]; rfl)
            conv => whnf
            refine ⟨rfl, fork_f rfl ?_⟩
            refine onO_i e1 ⟨rfl, ?_⟩
            refine onO_i (index_one hc) ?_
            refine onO_i e2 ?_
            exact next _ ⟨M.step k c, w', .dat (.str ⟨#[c]⟩), rfl, fun c' h => hw' c' (List.mem_cons_of_mem _ h), ok.inn (hs' k rfl) hc, hr, rfl⟩
      · rintro G ⟨s', w', x, e, hw', hs', hr, rfl⟩
        cases w' with
        | nil =>
          rw [← hr] at hq
          exact hq
        | cons c w' => exact nomatch e)

/-! ### has_word -/
def Mach.has (M : Mach) (w : List Nat) : Bool := match M.run (some 0) w with
  | none => false
  | some k => decide (k ∈ M.ends)
end
end T

namespace T
open PySem PySem.Spec PyProof.Rows L2 DL
local macro_rules | `(tactic| walk_at "rd") => `(tactic| simp only [startG, wSq, wIfS, wOr, wAnd, wNot, wB, wCb, wCbF, wCons, wNil, wRd, wC, wVar, wRet, wPass, wChain, wCall, wSet, wSetO, wDrop, wF, wLc, wSeq, wTt, wRng1, wRng2, int1, int2, w2, w2F, wIf, wAndV, wOrV, wNotV, wTru, truD, wAsgT, gT, gsC, gsN, gN, wRaise, wRaise1,
  dEnds, fIsi, fI0, fI, fLt, fIx, fIn, eqA, fIsN, isN, fLen, fAll, fAddA, sign1, flatD, itemsD, vaS, rdS, owS, onB, onI, onS, onO, frzG, inG, wipeG, unO, List.getElem?_cons_zero, List.getElem?_cons_succ, List.set_cons_zero, List.set_cons_succ, List.map_cons, List.map_nil, List.length_cons, List.length_nil, List.cons_append, List.nil_append, List.replicate_succ, List.replicate_zero,
  Nat.reduceSub, Nat.reduceAdd, fork_tt, fork_ff, id, Bool.not_true, Bool.not_false, true_and, and_true, true_or, isi_non_bool, isi_non_int, isi_non_str, isi_non_tuple, isi_bl_bool, isi_bl_int, isi_bl_str, isi_bl_tuple, isi_int_bool, isi_int_int, isi_int_str, isi_int_tuple, isi_str_bool, isi_str_int, isi_str_str, isi_str_tuple, isi_tup_bool, isi_tup_int, isi_tup_str, isi_tup_tuple, isi_lst_bool, isi_lst_int, isi_lst_str, isi_lst_tuple, isi_dic_bool, isi_dic_int, isi_dic_str, isi_dic_tuple])
/-! ### rules -/
inductive Kd where
  | faded | «open» | closed | doubled
  deriving DecidableEq
def Kd.s : Kd → Str
  | .faded => "faded" | .open => "open" | .closed => "closed" | .doubled => "doubled"
def Kd.bound : Kd → Nat
  | .doubled => 2 | _ => 3
structure Rule where
  k : Kd
  lo : Nat
  hi : Nat
structure Rule.Ok (R : Rule) : Prop where
  le : R.lo ≤ R.hi
  bd : R.hi ≤ R.k.bound
theorem Rule.Ok.hi3 {R : Rule} (ok : R.Ok) : R.hi ≤ 3 := Nat.le_trans ok.bd (by cases R.k <;> decide)
def Rule.d (R : Rule) : D := .tup [.str R.k.s, .int (R.lo : Nat), .int (R.hi : Nat)]
section
variable {P : Program} {w : World} {K : Fg} {mg : Str → Option Value} {base : Heap}
theorem look_kd (k : Kd) : lookS kv_BOUNDS k.s = some (k.bound : Int) := by cases k <;> decide +kernel
theorem look_of {z : Str} {b : Int} (h : lookS kv_BOUNDS z = some b) : ∃ k : Kd, z = k.s ∧ b = k.bound := by
  unfold lookS at h
  by_cases h1 : "faded" = z
  · subst h1
    rw [show (kv_BOUNDS.find? fun p => p.1 == ("faded" : Str)) = some (("faded" : Str), (3 : Int)) by decide +kernel] at h
    cases h
    exact ⟨.faded, rfl, rfl⟩
  by_cases h2 : "open" = z
  · subst h2
    rw [show (kv_BOUNDS.find? fun p => p.1 == ("open" : Str)) = some (("open" : Str), (3 : Int)) by decide +kernel] at h
    cases h
    exact ⟨.open, rfl, rfl⟩
  by_cases h3 : "closed" = z
  · subst h3
    rw [show (kv_BOUNDS.find? fun p => p.1 == ("closed" : Str)) = some (("closed" : Str), (3 : Int)) by decide +kernel] at h
    cases h
    exact ⟨.closed, rfl, rfl⟩
  by_cases h4 : "doubled" = z
  · subst h4
    rw [show (kv_BOUNDS.find? fun p => p.1 == ("doubled" : Str)) = some (("doubled" : Str), (2 : Int)) by decide +kernel] at h
    cases h
    exact ⟨.doubled, rfl, rfl⟩
  have e : kv_BOUNDS.find? (fun p => p.1 == z) = none := by
    rw [List.find?_eq_none]
    intro p hp
    simp only [kv_BOUNDS, List.mem_cons, List.not_mem_nil, or_false] at hp
    rcases hp with rfl | rfl | rfl | rfl
    · simpa using h1
    · simpa using h2
    · simpa using h3
    · simpa using h4
  rw [e] at h
  exact nomatch h
def isRule3 (o : Option Int) (lo hi : D) : Bool := match o with
  | some b => isWhole hi 0 b && isWhole lo 0 (intD hi)
  | none => false
def isRuleL : List D → Bool
  | [k, lo, hi] => match k with
    | .str z => isRule3 (lookS kv_BOUNDS z) lo hi
    | _ => false
  | _ => false
def isRule : D → Bool
  | .tup xs => isRuleL xs
  | _ => false
theorem whole_nat {d : D} {b : Int} (h : isWhole d 0 b = true) : ∃ n : Nat, d = .int (n : Nat) ∧ (n : Int) ≤ b := by
  cases d with
  | int i =>
    unfold isWhole at h
    rw [Bool.and_eq_true] at h
    have h1 := of_decide_eq_true h.1
    have h2 := of_decide_eq_true h.2
    exact ⟨i.toNat, by rw [Int.toNat_of_nonneg h1], by omega⟩
  | _ => exact nomatch h
theorem rule_of {d : D} (h : isRule d = true) : ∃ R : Rule, R.Ok ∧ d = R.d := by
  cases d with
  | tup xs =>
    have h : isRuleL xs = true := h
    unfold isRuleL at h
    split at h
    · rename_i k lo hi
      split at h
      · rename_i k
        revert h
        intro h
        cases q : lookS kv_BOUNDS k with
        | none => rw [q] at h; exact nomatch h
        | some b =>
          rw [q] at h
          unfold isRule3 at h
          rw [Bool.and_eq_true] at h
          obtain ⟨n, rfl, h1⟩ := whole_nat h.1
          obtain ⟨m, rfl, h2⟩ := whole_nat h.2
          obtain ⟨kd, rfl, rfl⟩ := look_of q
          refine ⟨⟨kd, m, n⟩, ⟨?_, ?_⟩, rfl⟩
          · have : (m : Int) ≤ n := h2
            show m ≤ n
            omega
          · show n ≤ kd.bound
            omega
      · exact nomatch h
    · exact nomatch h
  | _ => exact nomatch h
theorem whole_i {n : Nat} {b : Int} (h : (n : Int) ≤ b) : isWhole (.int (n : Nat)) 0 b = true := by
  show (decide ((0 : Int) ≤ (n : Int)) && decide ((n : Int) ≤ b)) = true
  rw [decide_eq_true (by omega), decide_eq_true h]
  rfl
theorem Rule.Ok.is {R : Rule} (ok : R.Ok) : isRule R.d = true := by
  show isRule3 (lookS kv_BOUNDS R.k.s) _ _ = true
  rw [look_kd]
  have h1 : isWhole (.int (R.hi : Nat)) 0 (R.k.bound : Int) = true := whole_i (by have := ok.bd; omega)
  have h2 : isWhole (.int (R.lo : Nat)) 0 (R.hi : Int) = true := whole_i (by have := ok.le; omega)
  show (isWhole _ 0 _ && isWhole _ 0 (R.hi : Int)) = true
  rw [h1, h2]
  rfl
def wf_is_rule : WF := fun ds ed Q => ∃ d, ds = [d] ∧ Pl d ∧ Q (.bl (isRule d))
theorem len_is_rule {ds : List D} {ed : Value → Prop} {Q : D → Prop} (h : wf_is_rule ds ed Q) : ds.length = 1 := by
  obtain ⟨d, rfl, _⟩ := h
  rfl
abbrev N_is_rule : List Str := ["thing", "kind", "least", "most"]
theorem sc_is_rule : FnScope N_is_rule ["thing"] (defScope (topS 23)) := ⟨rfl, rfl, rfl, by decide +kernel, rfl, by decide +kernel, by decide +kernel⟩
theorem ok_is_rule {f : Addr} {fd : FuncData}  (B : Bl mg)  {dBOUNDS : Addr} (D_BOUNDS : DicF K w mg "BOUNDS" dBOUNDS kv_BOUNDS)  (F_is_whole : DFn P w K mg base "is_whole" 1 3 (wf_is_whole)) (F : Fun K "is_rule" "is_rule" (topS 23) f fd) (g : mg "is_rule" = some (.ref f)) (b : Binds K fd ["thing"] []) : DFn P w K mg base "is_rule" 2 1 (wf_is_rule) := by
  exact dfn_of (N := N_is_rule) F sc_is_rule g b rfl (fun ds ed Q h => len_is_rule h) (fun cdv A outer s H E hr =>
    (dss_cons (ds_if (DW.dt (dw_or (dt_not (dt_val (de_isi (fun _ => rfl) (fun _ => B.isi) (db_cons (dr_pv (fun _ => pv 0)) (db_cons (DE.r (de_ty (fun _ => B.tuple) bt_tuple)) db_nil))))) (dw_or1 (DX.dt (dx_ne (DE.r (de_len (fun _ => rfl) (fun _ => B.len) (db_cons (dr_pv (fun _ => pv 0)) db_nil))) (DE.r de_int)))))) (dss_one (ds_ret de_bl)) dss_nil)
    (dss_cons (ds_asgT (de_pv (fun _ => pv 0)) (dg_tup (n := 3) (fun _ => rfl) (fun _ => rfl) (dgs_cons (dg_pg (fun _ => pg_name (i := 1) sc_is_rule.nd rfl (.inl rfl))) (dgs_cons (dg_pg (fun _ => pg_name (i := 2) sc_is_rule.nd rfl (.inl rfl))) (dgs_cons (dg_pg (fun _ => pg_name (i := 3) sc_is_rule.nd rfl (.inl rfl))) dgs_nil)))))
    (dss_cons (ds_if (DW.dt (dw_or (dt_not (dt_val (de_isi (fun _ => rfl) (fun _ => B.isi) (db_cons (dr_pv (fun _ => pv 1)) (db_cons (DE.r (de_ty (fun _ => B.str) bt_str)) db_nil))))) (dw_or1 (DX.dt (dx_kdNotIn (fun _ => rfl) (fun _ => rfl) (fun _ => rfl) D_BOUNDS (dr_pv (fun _ => pv 1))))))) (dss_one (ds_ret de_bl)) dss_nil)
    (dss_one (ds_ret (de_and (de_call F_is_whole (fun _ => ⟨rfl, rfl, rfl, rfl, rfl⟩) (fun _ => takes_of rfl rfl rfl rfl) (fun _ => hr) (da_cons (de_pv (fun _ => pv 3)) (da_cons de_int (da_cons (de_kdIx (fun _ => rfl) (fun _ => rfl) (fun _ => rfl) D_BOUNDS (dr_pv (fun _ => pv 1))) da_nil)))) (de_one (de_call F_is_whole (fun _ => ⟨rfl, rfl, rfl, rfl, rfl⟩) (fun _ => takes_of rfl rfl rfl rfl) (fun _ => hr) (da_cons (de_pv (fun _ => pv 2)) (da_cons de_int (da_cons (de_pv (fun _ => pv 3)) da_nil))))))))))))
    (fun ds ed Q h => by
      obtain ⟨d, rfl, hd, hq⟩ := h
      unfold N_is_rule
      cases hd with
      | tup xs hs hx =>
        match xs, hs, hx, hq with
        | [k, lo, hi], hs, hx, hq =>
          have pk := hx k (by simp)
          have pl := hx lo (by simp)
          have ph := hx hi (by simp)
          conv => whnf
          refine fork_f rfl ?_
          conv => whnf
          refine fork_f rfl ⟨rfl, rfl, ?_⟩
          conv => whnf
          cases pk with
          | str z hz =>
            refine fork_f rfl ⟨rfl, ?_⟩
            cases q : lookS kv_BOUNDS z with
            | none =>
              rw [show isRule (.tup [.str z, lo, hi]) = false by show isRule3 (lookS kv_BOUNDS z) lo hi = _; rw [q]; rfl] at hq
              exact fork_t rfl hq
            | some b =>
              refine fork_f rfl ?_
              conv => whnf
              refine ⟨rfl, onO_i q ⟨hi, 0, b, rfl, ph, ?_⟩⟩
              have hq : Q (.bl (isWhole hi 0 b && isWhole lo 0 (intD hi))) := by
                rw [show isRule (.tup [.str z, lo, hi]) = (isWhole hi 0 b && isWhole lo 0 (intD hi)) by show isRule3 (lookS kv_BOUNDS z) lo hi = _; rw [q]; rfl] at hq
                exact hq
              conv => whnf
              by_cases h1 : isWhole hi 0 b = true
              · rw [h1, Bool.true_and] at hq
                obtain ⟨n, rfl, _⟩ := whole_nat h1
                exact fork_t h1 ⟨lo, 0, _, rfl, pl, hq⟩
              · have h1 : isWhole hi 0 b = false := by simpa using h1
                rw [h1, Bool.false_and] at hq
                exact fork_f h1 hq
          | _ => exact fork_t rfl (fork_t rfl hq)
        | [], _, _, hq => conv => whnf
                          refine fork_f rfl ?_
                          conv => whnf
                          exact fork_t rfl hq
        | [_], _, _, hq => conv => whnf
                           refine fork_f rfl ?_
                           conv => whnf
                           exact fork_t rfl hq
        | [_, _], _, _, hq => conv => whnf
                              refine fork_f rfl ?_
                              conv => whnf
                              exact fork_t rfl hq
        | _ :: _ :: _ :: _ :: r, _, _, hq =>
          have e : ¬ ((r.length + 1 + 1 + 1 + 1 : Nat) : Int) = 3 := by omega
          conv => whnf
          refine fork_f rfl ?_
          conv => whnf
          exact fork_t (by show (!decide (((r.length + 1 + 1 + 1 + 1 : Nat) : Int) = 3)) = true; rw [decide_eq_false e]; rfl) hq
      | _ => conv => whnf
             exact fork_t rfl (fork_t rfl hq))

def wf_need_rule (cNoRule : Addr) : WF := fun ds ed Q => ∃ d, ds = [d] ∧ Pl d ∧ (if isRule d = true then Q .non else ed (.ref cNoRule))
theorem len_need_rule {cNoRule : Addr} {ds : List D} {ed : Value → Prop} {Q : D → Prop} (h : wf_need_rule cNoRule ds ed Q) : ds.length = 1 := by
  obtain ⟨d, rfl, _⟩ := h
  rfl
abbrev N_need_rule : List Str := ["rule"]
theorem sc_need_rule : FnScope N_need_rule ["rule"] (defScope (topS 24)) := ⟨rfl, rfl, rfl, by decide +kernel, rfl, by decide +kernel, by decide +kernel⟩
theorem ok_need_rule {f : Addr} {fd : FuncData}  (B : Bl mg)   {cNoRule : Addr} (X_NoRule : XFact K mg "NoRule" cNoRule) (F_is_rule : DFn P w K mg base "is_rule" 2 1 (wf_is_rule)) (F : Fun K "need_rule" "need_rule" (topS 24) f fd) (g : mg "need_rule" = some (.ref f)) (b : Binds K fd ["rule"] []) : DFn P w K mg base "need_rule" 3 1 (wf_need_rule cNoRule) := by
  exact dfn_of (N := N_need_rule) F sc_need_rule g b rfl (fun ds ed Q h => len_need_rule h) (fun cdv A outer s H E hr =>
    (dss_one (ds_if (dt_not (dt_val (de_call F_is_rule (fun _ => ⟨rfl, rfl, rfl, rfl, rfl⟩) (fun _ => takes_of rfl rfl rfl rfl) (fun _ => hr) (da_cons (de_pv (fun _ => pv 0)) da_nil)))) (dss_one (ds_raise (fun _ => rfl) (fun _ => rfl) X_NoRule (fun _ => rfl) (fun _ => takes_of rfl rfl rfl rfl))) dss_nil)))
    (fun ds ed Q h => by
      obtain ⟨d, rfl, hd, hq⟩ := h
      unfold N_need_rule
      walk_at "rd"
      refine ⟨d, rfl, hd, ?_⟩
      by_cases hb : isRule d = true
      · rw [if_pos hb] at hq
        simp only [hb, Bool.not_true, fork_ff]
        exact hq
      · rw [if_neg hb] at hq
        have hb : isRule d = false := by simpa using hb
        simp only [hb, Bool.not_false, fork_tt]
        exact hq)

end
end T

namespace T
open PySem PySem.Spec PyProof.Rows L2 DL
section
variable {P : Program} {w : World} {K : Fg} {mg : Str → Option Value} {base : Heap}
/-! ### _stretches -/
def stretches (lo hi many : Nat) : List (Nat × Nat) := (List.range (hi + 1 - lo)).flatMap fun j => (List.range (many + 1 - (lo + j))).map fun a => (a, lo + j)
def stD (p : Nat × Nat) : D := .tup [.int (p.1 : Nat), .int (p.2 : Nat)]
/-- the stretches of one size -/
def stOf (many : Nat) : D → List D
  | .int z => (List.range (many + 1 - z.toNat)).map fun a => stD (a, z.toNat)
  | _ => []
theorem st_of (many lo j : Nat) : stOf many (.int ((lo : Int) + (j : Nat))) = (List.range (many + 1 - (lo + j))).map fun a => stD (a, lo + j) := by
  show (List.range (many + 1 - ((lo : Int) + (j : Nat)).toNat)).map _ = _
  rw [show ((lo : Int) + (j : Nat)).toNat = lo + j by omega]
theorem st_flat (lo hi many : Nat) : (rngD (lo : Nat) (hi + 1 - lo)).flatMap (stOf many) = (stretches lo hi many).map stD := by
  unfold rngD stretches
  rw [List.flatMap_map, List.map_flatMap]
  refine congrArg (fun f => List.flatMap f _) (funext fun j => ?_)
  rw [st_of, List.map_map]
  rfl
theorem stretches_len (lo hi many : Nat) : (stretches lo hi many).length ≤ (hi + 1 - lo) * (many + 1) := by
  unfold stretches
  generalize hi + 1 - lo = n
  induction n with
  | zero => exact Nat.zero_le _
  | succ n ih =>
    rw [List.range_succ, List.flatMap_append, List.length_append, Nat.succ_mul]
    refine Nat.add_le_add ih ?_
    rw [List.flatMap_cons, List.flatMap_nil, List.append_nil, List.length_map, List.length_range]
    omega
/-! ### _torn -/
def midOf (k : Kd) (s : List Nat) : List Nat := match k with
  | .faded => List.replicate s.length 63
  | .open => [42]
  | .closed => []
  | .doubled => s ++ s
def tornW (k : Kd) (w : List Nat) (a n : Nat) : List Nat := w.take a ++ midOf k ((w.drop a).take n) ++ w.drop (a + n)
def wf__torn : WF := fun ds ed Q => ∃ (k : Kd) (w : List Nat) (a n : Nat), ds = [.str k.s, .str (txt w), .int (a : Nat), .int (n : Nat)] ∧ a + n ≤ w.length ∧ n ≤ 3 ∧ w.length ≤ 1000 ∧ Q (.str (txt (tornW k w a n)))
theorem len__torn {ds : List D} {ed : Value → Prop} {Q : D → Prop} (h : wf__torn ds ed Q) : ds.length = 4 := by
  obtain ⟨_, _, _, _, rfl, _⟩ := h
  rfl
/-! ### in_order -/
abbrev wD (w : List Nat) : D := .str (txt w)
abbrev kW (w : List Nat) : Key := .inr (txt w)
theorem le_wD (a b : List Nat) : leD (wD a) (wD b) = leW a b := by
  have := congrFun (congrFun (PySem.W.dataLe_str (fun w : List Nat => txt w)) a) b
  exact this
theorem sort_wD (zs : List (List Nat)) : sortD (zs.map wD) = (zs.mergeSort leW).map wD := (List.map_mergeSort (f := wD) (fun a _ b _ => (le_wD a b).symm)).symm
theorem py_wD (zs : List (List Nat)) : pyDs (zs.map wD) = some (zs.map fun w => .str (txt w)) := pyDs_atoms wD (fun w => .str (txt w)) (fun _ => rfl) zs
theorem ok_wD (zs : List (List Nat)) : SortOk (zs.map fun w => .str (txt w)) := by
  refine ⟨PySem.W.AllAlike.of fun _ _ => by simp [PySem.W.alike], PySem.W.Sortable.others fun _ => ⟨by simp, by simp⟩, fun p hp => ?_⟩
  obtain ⟨w, _, rfl⟩ := List.mem_map.mp hp
  rw [PyData.depth]
  decide
theorem key_wD (zs : List (List Nat)) : (zs.map kW).map keyD = zs.map wD := by rw [List.map_map]; rfl
theorem kp_wD (zs : List (List Nat)) : (zs.map kW).map kP = zs.map fun w => .str (txt w) := by rw [List.map_map]; rfl
theorem len_le_wD (zs : List (List Nat)) : ((zs.map txt).mergeSort fun x y => decide ((x.length : Int) ≤ y.length)) = (zs.mergeSort leN).map txt := (List.map_mergeSort (f := txt) (fun _ _ _ _ => rfl)).symm
/-! ### all_readings, readings_of -/
def torns (R : Rule) (w : List Nat) : List (List Nat) := (stretches R.lo R.hi w.length).map fun p => tornW R.k w p.1 p.2
theorem stretch_in {lo hi n : Nat} {p : Nat × Nat} (h : p ∈ stretches lo hi n) : lo ≤ p.2 ∧ p.2 ≤ hi ∧ p.1 + p.2 ≤ n := by
  obtain ⟨j, hj, h⟩ := List.mem_flatMap.mp h
  obtain ⟨a, ha, rfl⟩ := List.mem_map.mp h
  have := List.mem_range.mp hj
  have := List.mem_range.mp ha
  exact ⟨by omega, by show lo + j ≤ hi; omega, by show a + (lo + j) ≤ n; omega⟩
theorem torn_len {k : Kd} {w : List Nat} {a n : Nat} (h : n ≤ 3) : (tornW k w a n).length ≤ w.length + 6 := by
  have l4 : ((w.drop a).take n).length ≤ 3 := by rw [List.length_take]; omega
  have lx : (w.take a).length + (w.drop (a + n)).length ≤ w.length := by rw [List.length_take, List.length_drop]; omega
  unfold tornW
  rw [List.length_append, List.length_append]
  have : (midOf k ((w.drop a).take n)).length ≤ 6 := by
    generalize (w.drop a).take n = y at l4
    cases k
    · show (List.replicate y.length 63).length ≤ 6
      rw [List.length_replicate]; omega
    · exact (by decide : 1 ≤ 6)
    · exact Nat.zero_le _
    · show (y ++ y).length ≤ 6
      rw [List.length_append]; omega
  omega
abbrev small : Str := "abcdefghijklmnopqrstuvwxyz"
theorem text_of {d : D} {sg : Str} {n : Nat} (h : isText d sg (n : Nat) = true) : ∃ w, d = wD w ∧ w.length ≤ n ∧ ∀ c ∈ w, c ∈ sg.cps.toList := by
  cases d with
  | str s =>
    unfold isText at h
    rw [Bool.and_eq_true] at h
    refine ⟨s.cps.toList, rfl, ?_, fun c hc => of_decide_eq_true (List.all_eq_true.mp h.2 c hc)⟩
    have h1 : ¬ ((n : Int) < (s.length : Int)) := by simpa using h.1
    show s.length ≤ n
    omega
  | _ => exact nomatch h
theorem text_is {w : List Nat} {sg : Str} {n : Nat} (hl : w.length ≤ n) (h : ∀ c ∈ w, c ∈ sg.cps.toList) : isText (wD w) sg (n : Nat) = true := by
  show (!decide ((n : Int) < ((txt w).length : Int)) && w.all fun c => decide (c ∈ sg.cps.toList)) = true
  rw [decide_eq_false (by show ¬ ((n : Int) < (w.length : Int)); omega), Bool.not_false, Bool.true_and, List.all_eq_true]
  exact fun c hc => decide_eq_true (h c hc)
theorem torns_len {R : Rule} (ok : R.Ok) {w z : List Nat} (hl : w.length ≤ 1000) (h : z ∈ torns R w) : z.length ≤ 1006 := by
  obtain ⟨p, hp, rfl⟩ := List.mem_map.mp h
  have := stretch_in hp
  have := torn_len (k := R.k) (w := w) (a := p.1) (n := p.2) (by have := ok.hi3; omega)
  omega
/-! ### tear -/
end
end T

namespace T
open PySem PySem.Spec PyProof.Rows L2 DL
local macro_rules | `(tactic| walk_at "rd") => `(tactic| simp only [startG, wSq, wIfS, wOr, wAnd, wNot, wB, wCb, wCbF, wCons, wNil, wRd, wC, wVar, wRet, wPass, wChain, wCall, wSet, wSetO, wDrop, wF, wLc, wSeq, wTt, wRng1, wRng2, int1, int2, w2, w2F, wIf, wAndV, wOrV, wNotV, wTru, truD, wAsgT, gT, gsC, gsN, gN, wRaise, wRaise1,
  dEnds, fIsi, fI0, fI, fLt, fIx, fIn, eqA, fIsN, isN, fLen, fAll, fAddA, sign1, flatD, itemsD, vaS, rdS, owS, onB, onI, onS, onO, frzG, inG, wipeG, unO, List.getElem?_cons_zero, List.getElem?_cons_succ, List.set_cons_zero, List.set_cons_succ, List.map_cons, List.map_nil, List.length_cons, List.length_nil, List.cons_append, List.nil_append, List.replicate_succ, List.replicate_zero,
  Nat.reduceSub, Nat.reduceAdd, fork_tt, fork_ff, id, Bool.not_true, Bool.not_false, true_and, and_true, true_or, isi_non_bool, isi_non_int, isi_non_str, isi_non_tuple, isi_bl_bool, isi_bl_int, isi_bl_str, isi_bl_tuple, isi_int_bool, isi_int_int, isi_int_str, isi_int_tuple, isi_str_bool, isi_str_int, isi_str_str, isi_str_tuple, isi_tup_bool, isi_tup_int, isi_tup_str, isi_tup_tuple, isi_lst_bool, isi_lst_int, isi_lst_str, isi_lst_tuple, isi_dic_bool, isi_dic_int, isi_dic_str, isi_dic_tuple])
section
variable {P : Program} {w : World} {K : Fg} {mg : Str → Option Value} {base : Heap}
/-! ### the law's draws -/
def wf__law_spread : WF := fun ds ed Q => ∃ cell k : Int, ds = [.int cell, .int k] ∧ 0 ≤ k ∧ k ≤ 1000000000 ∧ ∀ z : Int, Q (.int z)
theorem len__law_spread {ds : List D} {ed : Value → Prop} {Q : D → Prop} (h : wf__law_spread ds ed Q) : ds.length = 2 := by
  obtain ⟨a, b, rfl, _⟩ := h
  rfl
def primesD : List D := [2147483629, 2147483587, 2147483579, 2147483563, 2147483549, 2147483543, 2147483497, 2147483489, 2147483477, 2147483423, 2147483399, 2147483353, 2147483323].map .int
theorem prime_at {m : Int} {Q : D → Prop} (h : ∀ p : Int, 0 < p → p ≤ 2147483629 → Q (.int p)) : onO (atI primesD (m % 13)) Q := by
  have h0 : 0 ≤ m % 13 := Int.emod_nonneg _ (by decide)
  have h1 : m % 13 < 13 := Int.emod_lt_of_pos _ (by decide)
  generalize m % 13 = r at h0 h1
  obtain ⟨n, rfl⟩ := Int.eq_ofNat_of_zero_le h0
  have hn : n < 13 := by omega
  have key : ∀ n, n < 13 → ∃ p : Int, 0 < p ∧ p ≤ 2147483629 ∧ primesD[n]? = some (.int p) := by
    intro n hn
    match n, hn with
    | 0, _ => exact ⟨_, by decide, by decide, rfl⟩
    | 1, _ => exact ⟨2147483587, by decide, by decide, rfl⟩
    | 2, _ => exact ⟨2147483579, by decide, by decide, rfl⟩
    | 3, _ => exact ⟨2147483563, by decide, by decide, rfl⟩
    | 4, _ => exact ⟨2147483549, by decide, by decide, rfl⟩
    | 5, _ => exact ⟨2147483543, by decide, by decide, rfl⟩
    | 6, _ => exact ⟨2147483497, by decide, by decide, rfl⟩
    | 7, _ => exact ⟨2147483489, by decide, by decide, rfl⟩
    | 8, _ => exact ⟨2147483477, by decide, by decide, rfl⟩
    | 9, _ => exact ⟨2147483423, by decide, by decide, rfl⟩
    | 10, _ => exact ⟨2147483399, by decide, by decide, rfl⟩
    | 11, _ => exact ⟨2147483353, by decide, by decide, rfl⟩
    | 12, _ => exact ⟨2147483323, by decide, by decide, rfl⟩
  obtain ⟨p, h2, h3, h4⟩ := key n hn
  rw [show atI primesD ((n : Nat) : Int) = some (.int p) from atI_nat h4]
  exact h p h2 h3
theorem cpow {i j : Int} (h1 : 0 ≤ j) (h2 : j ≤ 1000) (h3 : -(2 ^ 63) < i) (h4 : i < 2 ^ 63) : CPow i j := ⟨h1, by omega, by omega⟩
theorem mod_lo (a : Int) {b : Int} (h : 0 < b) : 0 ≤ a % b := Int.emod_nonneg _ (by omega)
theorem mod_hi (a : Int) {b : Int} (h : 0 < b) : a % b < b := Int.emod_lt_of_pos _ h
theorem mul_le_of {a b c d : Int} (h1 : 0 ≤ a) (h2 : a ≤ c) (h3 : 0 ≤ b) (h4 : b ≤ d) : a * b ≤ c * d := Int.mul_le_mul h2 h4 h3 (by omega)
abbrev N__law_spread : List Str := ["cell", "k", "primes", "one", "two", "three"]
theorem sc__law_spread : FnScope N__law_spread ["cell", "k"] (defScope (topS 36)) := ⟨rfl, rfl, rfl, by decide +kernel, rfl, by decide +kernel, by decide +kernel⟩
theorem ok__law_spread {f : Addr} {fd : FuncData}  (B : Bl mg)     (F : Fun K "_law_spread" "_law_spread" (topS 36) f fd) (g : mg "_law_spread" = some (.ref f)) (b : Binds K fd ["cell", "k"] []) : DFn P w K mg base "_law_spread" 1 2 (wf__law_spread) := by
  exact dfn_of (N := N__law_spread) F sc__law_spread g b rfl (fun ds ed Q h => len__law_spread h) (fun cdv A outer s H E hr =>
    (dss_cons (ds_if (DX.dt (dx_ge (dr_pv (fun _ => pv 0)) (DE.r (de_pow (DE.r de_int) (DE.r de_int))))) (dss_one (ds_ret (de_pv (fun _ => pv 0)))) dss_nil)
    (dss_cons (ds_set (i := 2) (DF.de (df_lst (da_cons de_int (da_cons de_int (da_cons de_int (da_cons de_int (da_cons de_int (da_cons de_int (da_cons de_int (da_cons de_int da_nil)))))))))) (fun _ => sc__law_spread.nd))
    (dss_cons (ds_set (i := 2) (de_addA (dr_pv (fun _ => pv 2)) (DE.r (DF.de (df_lst (da_cons de_int (da_cons de_int (da_cons de_int (da_cons de_int (da_cons de_int da_nil))))))))) (fun _ => sc__law_spread.nd))
    (dss_cons (ds_set (i := 3) (de_mulA (DE.r (de_mod (DE.r (de_intOf (fun _ => B.int) (db_cons (dr_pv (fun _ => pv 0)) db_nil))) (DE.r de_int))) (DE.r (de_addA (DE.r (de_mulA (DE.r de_int) (dr_pv (fun _ => pv 1)))) (DE.r de_int)))) (fun _ => sc__law_spread.nd))
    (dss_cons (ds_set (i := 3) (de_mod (DE.r (de_intOf (fun _ => B.int) (db_cons (DE.r (de_pow (DE.r (de_addA (DE.r (de_addA (dr_pv (fun _ => pv 3)) (DE.r (de_mulA (dr_pv (fun _ => pv 1)) (DE.r de_int))))) (DE.r de_int))) (DE.r de_int))) db_nil))) (DE.r (de_ix (fun _ => rfl) (dr_pv (fun _ => pv 2)) (DE.r (de_mod (DE.r (de_intOf (fun _ => B.int) (db_cons (dr_pv (fun _ => pv 1)) db_nil))) (DE.r de_int)))))) (fun _ => sc__law_spread.nd))
    (dss_cons (ds_set (i := 4) (de_mod (DE.r (de_intOf (fun _ => B.int) (db_cons (DE.r (de_pow (DE.r (de_addA (DE.r (de_addA (DE.r (de_mulA (dr_pv (fun _ => pv 3)) (DE.r (de_addA (dr_pv (fun _ => pv 1)) (DE.r de_int))))) (DE.r (de_mod (DE.r (de_intOf (fun _ => B.int) (db_cons (dr_pv (fun _ => pv 0)) db_nil))) (DE.r de_int))))) (DE.r de_int))) (DE.r de_int))) db_nil))) (DE.r (de_ix (fun _ => rfl) (dr_pv (fun _ => pv 2)) (DE.r (de_mod (DE.r (de_intOf (fun _ => B.int) (db_cons (DE.r (de_addA (dr_pv (fun _ => pv 1)) (DE.r de_int))) db_nil))) (DE.r de_int)))))) (fun _ => sc__law_spread.nd))
    (dss_cons (ds_set (i := 5) (de_mod (DE.r (de_intOf (fun _ => B.int) (db_cons (DE.r (de_pow (DE.r (de_addA (DE.r (de_addA (dr_pv (fun _ => pv 4)) (DE.r (de_mod (DE.r (de_intOf (fun _ => B.int) (db_cons (dr_pv (fun _ => pv 3)) db_nil))) (DE.r de_int))))) (dr_pv (fun _ => pv 1)))) (DE.r de_int))) db_nil))) (DE.r (de_ix (fun _ => rfl) (dr_pv (fun _ => pv 2)) (DE.r (de_mod (DE.r (de_intOf (fun _ => B.int) (db_cons (DE.r (de_addA (dr_pv (fun _ => pv 1)) (DE.r de_int))) db_nil))) (DE.r de_int)))))) (fun _ => sc__law_spread.nd))
    (dss_one (ds_ret (de_addA (DE.r (de_mulA (DE.r (de_addA (DE.r (de_mulA (dr_pv (fun _ => pv 3)) (DE.r de_int))) (dr_pv (fun _ => pv 4)))) (DE.r de_int))) (dr_pv (fun _ => pv 5)))))))))))))
    (fun ds ed Q h => by
      obtain ⟨cell, k, rfl, h0, h1, hq⟩ := h
      unfold N__law_spread
      conv => whnf
      refine ⟨⟨by decide, by decide, by decide⟩, ?_⟩
      conv => whnf
      refine fork_i (fun _ => hq _) (fun _ => ?_)
      conv => whnf
      refine ⟨by decide +kernel, ?_⟩
      conv => whnf
      refine ⟨by decide +kernel, ?_⟩
      conv => whnf
      refine ⟨by decide +kernel, ?_⟩
      conv => whnf
      refine ⟨(by decide : (0 : Int) < 1000000007), ?_⟩
      have m0 := mod_lo cell (b := 1000000007) (by decide)
      have m1 := mod_hi cell (b := 1000000007) (by decide)
      conv => whnf
      refine ⟨.inl ⟨by decide, by decide⟩, ?_⟩
      conv => whnf
      refine ⟨.inl ⟨by omega, by omega⟩, ?_⟩
      have o1 : cell % 1000000007 * (2 * k + 69069) ≤ 1000000007 * 2000069069 := mul_le_of m0 (by omega) (by omega) (by omega)
      have o0 : 0 ≤ cell % 1000000007 * (2 * k + 69069) := Int.mul_nonneg m0 (by omega)
      conv => whnf
      refine ⟨.inr ⟨by decide, by decide⟩, ?_⟩
      conv => whnf
      refine ⟨cpow (by decide) (by decide) (by omega) (by omega), ?_⟩
      conv => whnf
      refine ⟨(by decide : (0 : Int) < 13), ?_⟩
      refine prime_at (m := k) (fun p p0 p1 => ?_)
      conv => whnf
      refine ⟨p0, ?_⟩
      have a0 := mod_lo ((cell % 1000000007 * (2 * k + 69069) + k * 40503 + 977) ^ (3 : Int).toNat) p0
      have a1 := mod_hi ((cell % 1000000007 * (2 * k + 69069) + k * 40503 + 977) ^ (3 : Int).toNat) p0
      conv => whnf
      generalize (cell % 1000000007 * (2 * k + 69069) + k * 40503 + 977) ^ (3 : Int).toNat % p = one at a0 a1 ⊢
      refine ⟨.inl ⟨by omega, by omega⟩, ?_⟩
      have b1 : one * (k + 3) ≤ 2147483629 * 1000000003 := mul_le_of a0 (by omega) (by omega) (by omega)
      have b0 : 0 ≤ one * (k + 3) := Int.mul_nonneg a0 (by omega)
      conv => whnf
      refine ⟨(by decide : (0 : Int) < 65537), ?_⟩
      have c0 := mod_lo cell (b := 65537) (by decide)
      have c1 := mod_hi cell (b := 65537) (by decide)
      conv => whnf
      refine ⟨cpow (by decide) (by decide) (by omega) (by omega), ?_⟩
      conv => whnf
      refine ⟨(by decide : (0 : Int) < 13), ?_⟩
      refine prime_at (m := k + 5) (fun q q0 q1 => ?_)
      conv => whnf
      refine ⟨q0, ?_⟩
      have d0 := mod_lo ((one * (k + 3) + cell % 65537 + 5) ^ (5 : Int).toNat) q0
      have d1 := mod_hi ((one * (k + 3) + cell % 65537 + 5) ^ (5 : Int).toNat) q0
      conv => whnf
      refine ⟨(by decide : (0 : Int) < 1009), ?_⟩
      have f0 := mod_lo one (b := 1009) (by decide)
      have f1 := mod_hi one (b := 1009) (by decide)
      conv => whnf
      generalize (one * (k + 3) + cell % 65537 + 5) ^ (5 : Int).toNat % q = two at d0 d1 ⊢
      refine ⟨cpow (by decide) (by decide) (by omega) (by omega), ?_⟩
      conv => whnf
      refine ⟨(by decide : (0 : Int) < 13), ?_⟩
      refine prime_at (m := k + 7) (fun r r0 r1 => ?_)
      conv => whnf
      refine ⟨r0, ?_⟩
      conv => whnf
      refine ⟨.inr ⟨by decide, by decide⟩, ?_⟩
      conv => whnf
      refine ⟨.inr ⟨by decide, by decide⟩, ?_⟩
      exact hq _)

/-! ### one of some -/
def wf__law_take : WF := fun ds ed Q => ∃ many : Int, ds = [.int many] ∧ 0 < many ∧ many < 1073741824 ∧ ∀ r : Int, 0 ≤ r → r < many → Q (.int r)
theorem len__law_take {ds : List D} {ed : Value → Prop} {Q : D → Prop} (h : wf__law_take ds ed Q) : ds.length = 1 := by
  obtain ⟨a, rfl, _⟩ := h
  rfl
def wf__law_one_of : WF := fun ds ed Q => ∃ d xs, ds = [d] ∧ itemsD d = some xs ∧ xs ≠ [] ∧ xs.length ≤ 100000 ∧ ∀ x ∈ xs, Q x
theorem len__law_one_of {ds : List D} {ed : Value → Prop} {Q : D → Prop} (h : wf__law_one_of ds ed Q) : ds.length = 1 := by
  obtain ⟨a, _, rfl, _⟩ := h
  rfl
theorem atI_some {α : Type} {xs : List α} {r : Int} (h0 : 0 ≤ r) (h1 : r < xs.length) : ∃ x ∈ xs, atI xs r = some x := by
  obtain ⟨n, rfl⟩ := Int.eq_ofNat_of_zero_le h0
  have hn : n < xs.length := by omega
  exact ⟨xs[n], List.getElem_mem hn, atI_nat (List.getElem?_eq_getElem hn)⟩
abbrev N__law_one_of : List Str := ["pen", "some"]
theorem sc__law_one_of : FnScope N__law_one_of ["pen", "some"] (defScope (topS 38)) := ⟨rfl, rfl, rfl, by decide +kernel, rfl, by decide +kernel, by decide +kernel⟩
theorem ok__law_one_of {f : Addr} {fd : FuncData}  (B : Bl mg)    (F__law_take : PFn P w K mg base "_law_take" 2 1 1 (wf__law_take)) (F : Fun K "_law_one_of" "_law_one_of" (topS 38) f fd) (g : mg "_law_one_of" = some (.ref f)) (b : Binds K fd ["pen", "some"] []) : PFn P w K mg base "_law_one_of" 3 1 1 (wf__law_one_of) := by
  exact pfn_of (N := N__law_one_of) F sc__law_one_of g b rfl (fun ds ed Q h => len__law_one_of h) (fun p cdv A outer s H E hr =>
    (dss_one (ds_ret (de_ix (fun _ => rfl) (dr_pv (fun _ => pv 1)) (DE.r (de_callP (p := p) F__law_take (fun _ => ⟨rfl, rfl, rfl, rfl, rfl⟩) (fun _ h => h) (fun _ => takes_of rfl rfl rfl rfl) (fun _ => hr) (da_cons (de_pv (fun _ => pv 0)) (da_cons (de_len (fun _ => rfl) (fun _ => B.len) (db_cons (dr_pv (fun _ => pv 1)) db_nil)) da_nil)))))))) (by decide)
    (fun p ds ed Q h => by
      obtain ⟨d, xs, rfl, hi, hne, hs, hq⟩ := h
      have hl : 0 < xs.length := by cases xs with
        | nil => exact absurd rfl hne
        | cons a r => simp
      unfold N__law_one_of
      cases d with
      | lst ys =>
        cases hi
        conv => whnf
        refine ⟨rfl, _, rfl, by omega, by omega, fun r r0 r1 => ?_⟩
        obtain ⟨x, hx, e⟩ := atI_some r0 r1
        show onO (atI xs r) Q
        rw [e]
        exact hq x hx
      | tup ys =>
        cases hi
        conv => whnf
        refine ⟨rfl, _, rfl, by omega, by omega, fun r r0 r1 => ?_⟩
        obtain ⟨x, hx, e⟩ := atI_some r0 r1
        show onO (atI xs r) Q
        rw [e]
        exact hq x hx
      | str z =>
        cases hi
        have el : (chars z).length = z.length := by unfold chars; rw [List.length_map]; rfl
        rw [el] at hs hl
        conv => whnf
        refine ⟨small_line hs, ?_⟩
        conv => whnf
        refine ⟨rfl, _, rfl, by omega, by omega, fun r r0 r1 => ?_⟩
        obtain ⟨x, hx, e⟩ := atI_some (xs := z.cps.toList) r0 r1
        refine ⟨small_line hs, ?_⟩
        show onO (atI z.cps.toList r) _
        rw [e]
        exact hq _ (List.mem_map.mpr ⟨x, hx, rfl⟩)
      | _ => exact nomatch hi)

abbrev N__law_take : List Str := ["pen", "many", "k", "cell", "found"]
theorem sc__law_take : FnScope N__law_take ["pen", "many"] (defScope ((topS 37))) := ⟨rfl, rfl, rfl, by decide +kernel, rfl, by decide +kernel, by decide +kernel⟩
theorem sql_of {H : Hp} {a : Addr} {xs : List V} (h : H a = some (.lst xs)) : SqL K H a xs := .inl (.inl h)
theorem cells_at {cells : List Int} {i : Int} (h0 : 0 ≤ i) (h1 : i < cells.length) : ∃ y : Int, atI (cells.map V.int) i = some (.int y) := by
  obtain ⟨n, rfl⟩ := Int.eq_ofNat_of_zero_le h0
  have hn : n < cells.length := by omega
  refine ⟨cells[n], atI_nat ?_⟩
  rw [List.getElem?_map, List.getElem?_eq_getElem hn]
  rfl
abbrev tTail (K : Fg) : TS := tSeq (tAsg (tOp (rI (fun _ j => 0 < j) fun i j => .int (i % j)) (tCB (fun xs H Q => (∃ i, xs = [.int i] ∧ Q (.int i) H) ∨ ∃ k, xs = [.bl k] ∧ Q (.int (if k then 1 else 0)) H) (tCons (tOp (rIxL K) (tVar 0) (tC (.int 2))) tNil)) (tVar 1)) (gName 4))
  (tSeq (tAsg (tOp (rI CDiv fun i j => .int (i / j)) (tOp (rIxL K) (tVar 0) (tC (.int 2))) (tVar 1)) (gSub (tVar 0) (tC (.int 2)) rSetL)) (tRet (tVar 4)))
theorem ext_pen {p c : Addr} {H H2 : Hp} {x y : HO} (ex : Ex (upd H p x) H2) : Ext (penP p c).is H (upd H2 p y) := fun a o na hh => by
  rw [upd_ne fun e => na (.inl e)]
  exact ex a o (by rw [upd_ne fun e => na (.inl e)]; exact hh)
theorem take_tail {De : Ends} {p c : Addr} {n : Nat} {H H1 : Hp} {many k1 z1 : Int} {cells : List Int} {s2 s3 s4 : Option V} {av : Av} {Qd : D → Prop} (m0 : 0 < many) (m1 : many < 1073741824) (pne : p ≠ c) (h2 : cells.length ≤ 12) (e : Ext (penP p c).is H H1) (h1 : H1 c = some (.lst (cells.map V.int))) (h3 : H1 p = some (.lst [.ref c, .int k1, .int z1]))
    (h4 : 0 ≤ k1) (h5 : k1 + n ≤ 1000000000) (hq : ∀ r : Int, 0 ≤ r → r < many → Qd (.int r)) (hQ : ∀ v H' d, Qd d → Ext (penP p c).is H H' → penOk p c n H' → Rp K av H' v d → De.rt v H') : tTail K De [some (.ref p), some (.int many), s2, s3, s4] H1 := by
  refine ⟨_, rfl, p, _, 2, .int z1, rfl, rfl, sql_of h3, rfl, .inl ⟨z1, rfl, _, rfl, z1, many, rfl, rfl, m0, ?_⟩⟩
  refine ⟨_, rfl, p, _, 2, .int z1, rfl, rfl, sql_of h3, rfl, _, rfl, z1, many, rfl, rfl, ⟨m0, m1⟩, _, rfl, p, _, 2, 2, rfl, rfl, h3, rfl, ?_⟩
  refine ⟨_, rfl, ?_⟩
  refine hQ _ _ (.int (z1 % many)) (hq _ (mod_lo _ m0) (mod_hi _ m0)) (fun a o na hh => ?_) ⟨pne, cells, k1, z1 / many, ?_, h2, upd_same, h4, h5⟩ (.int _)
  · rw [upd_ne fun z => na (.inl z)]
    exact e a o na hh
  · rw [upd_ne (Ne.symm pne)]
    exact h1
theorem ok__law_take {f : Addr} {fd : FuncData} (B : Bl mg) (FS : DFn P w K mg base "_law_spread" 1 2 wf__law_spread) (F : Fun K "_law_take" "_law_take" ((topS 37)) f fd) (g : mg "_law_take" = some (.ref f)) (b : Binds K fd ["pen", "many"] []) : PFn P w K mg base "_law_take" 2 1 1 wf__law_take := by
  obtain ⟨fS, fdS, psS, gS, kS, bS, okS⟩ := FS.ex
  refine ⟨fun ds ed Q h => len__law_take h, f, fd, ["pen", "many"], g, F.kp, b, ?_⟩
  refine F.okX (N := N__law_take) (k := 1) sc__law_take (fun vs H Q E h => h.1) fun cdv A outer s H vs Q E hr h => ?_
  obtain ⟨hl, p, c, n, av, rest, ds, ed, Qd, rfl, hok, hp, hc, ha, r, hwf, hE, hQ⟩ := h
  obtain ⟨many, rfl, m0, m1, hq⟩ := hwf
  cases r with
  | cons r rr =>
  cases rr
  cases r
  have nd := sc__law_take.nd
  obtain ⟨pne, cells, k, z, h1, h2, h3, h4, h5⟩ := hok
  refine ⟨_, pss_cons (ps_if (pt_cmpR op_lt (pe_ix ix_list (pv 0) pe_int (fun _ _ => rfl)) (pv 1) (nomark _))
      (pss_cons (ps_set (i := 2) nd rfl (.inl rfl) (pe_ix ix_list (pv 0) pe_int (fun _ _ => rfl)))
      (pss_cons (ps_set (i := 3) nd rfl (.inl rfl) pe_int)
      (pss_cons (ps_if (pt_cmpR op_lt (pv 2) (pe_callB call_len_seq (by rfl) B.len PySem.boot_len (pa_cons (pe_ix ix_list (pv 0) pe_int (fun _ _ => rfl)) pa_nil)) (nomark _))
        (pss_one (ps_set (i := 3) nd rfl (.inl rfl) (pe_ix ix_list (pe_ix ix_list (pv 0) pe_int (fun _ _ => rfl)) (pv 2) (fun _ _ => rfl))))
        (pss_one (ps_if (pt_cmpR op_gt (pe_callB call_len_seq (by rfl) B.len PySem.boot_len (pa_cons (pe_ix ix_list (pv 0) pe_int (fun _ _ => rfl)) pa_nil)) pe_int (nomark _))
          (pss_one (ps_set (i := 3) nd rfl (.inl rfl) (pe_op op_mod (pe_callTy call_int1 (by rfl) B.int bt_int (pa_cons (pe_ix ix_list (pe_ix ix_list (pv 0) pe_int (fun _ _ => rfl)) (pe_op op_mod (pe_callTy call_int1 (by rfl) B.int bt_int (pa_cons (pe_op op_add (pe_op op_mul (pv 2) pe_int) pe_int) pa_nil)) (pe_callB call_len_seq (by rfl) B.len PySem.boot_len (pa_cons (pe_ix ix_list (pv 0) pe_int (fun _ _ => rfl)) pa_nil))) (fun _ _ => rfl)) pa_nil)) (pe_op op_add (pe_op op_pow pe_int pe_int) (pv 2))))) pss_nil)))
      (pss_cons (ps_asg (pe_op op_add (pv 2) pe_int) (pg_sub (pv 0) pe_int set_list))
      (pss_one (ps_asg (pe_callS okS hr (by rfl) gS kS bS (fun σ => passAt (takes_of rfl rfl rfl rfl) σ) (pa_cons (pv 3) (pa_cons (pv 2) pa_nil))) (pg_sub (pv 0) pe_int set_list))))))) pss_nil)
    (pss_cons (ps_set (i := 4) nd rfl (.inl rfl) (pe_op op_mod (pe_callTy call_int1 (by rfl) B.int bt_int (pa_cons (pe_ix ix_list (pv 0) pe_int (fun _ _ => rfl)) pa_nil)) (pv 1)))
    (pss_cons (ps_asg (pe_op op_fdiv (pe_ix ix_list (pv 0) pe_int (fun _ _ => rfl)) (pv 1)) (pg_sub (pv 0) pe_int set_list))
    (pss_one (ps_ret (pv 4))))), ?_⟩
  refine ⟨_, rfl, p, _, 2, .int z, rfl, rfl, sql_of h3, rfl, _, rfl, z, many, rfl, rfl, _, rfl, ite2 (fun _ => ?_) (fun _ => ?_)⟩
  · -- the refill
    refine ⟨_, rfl, p, _, 1, .int k, rfl, rfl, sql_of h3, rfl, ?_⟩
    have hcl : SqL K H c (cells.map V.int) := sql_of h1
    refine ⟨_, rfl, _, rfl, p, _, 0, .ref c, rfl, rfl, sql_of h3, rfl, c, _, rfl, .inl hcl, k, _, rfl, rfl, _, rfl, ite2 (fun hlt => ?_) (fun _ => ?_)⟩
    · have hlt : k < (cells.map V.int).length := of_decide_eq_true hlt
      rw [List.length_map] at hlt
      obtain ⟨y, hy⟩ := cells_at h4 hlt
      refine ⟨_, rfl, p, _, 0, .ref c, rfl, rfl, sql_of h3, rfl, _, rfl, c, _, k, .int y, rfl, rfl, hcl, hy, ?_⟩
      refine ⟨_, rfl, k, 1, rfl, rfl, _, rfl, p, _, 1, 1, rfl, rfl, h3, rfl, ?_⟩
      refine ⟨_, rfl, _, rfl, rfl, fun _ => False, [.int y, .int k], fun _ => False, fun d => ∃ z, d = .int z, fun _ z => z.elim, .cons (.int _) (.cons (.int _) .nil), ⟨y, k, rfl, h4, by omega, fun z => ⟨z, rfl⟩⟩, fun _ _ z => z.elim, fun v H2 d hd ex rv => ?_⟩
      obtain ⟨z1, rfl⟩ := hd
      cases rv
      refine ⟨_, rfl, p, _, 2, 2, rfl, rfl, ex p _ upd_same, rfl, ?_⟩
      refine take_tail m0 m1 pne h2 (ext_pen ex) ?_ upd_same (k1 := k + 1) (by omega) (by omega) hq hQ
      · rw [upd_ne (Ne.symm pne)]
        exact ex c _ (by rw [upd_ne (Ne.symm pne)]; exact h1)
    · refine ⟨_, rfl, p, _, 0, .ref c, rfl, rfl, sql_of h3, rfl, c, _, rfl, .inl hcl, _, 0, rfl, rfl, _, rfl, ite2 (fun hlt => ?_) (fun _ => ?_)⟩
      · have hlt : (0 : Int) < (cells.map V.int).length := of_decide_eq_true hlt
        have hl2 := hlt
        rw [List.length_map] at hlt
        obtain ⟨y, hy⟩ := cells_at (cells := cells) (i := (k * 5 + 3) % ((cells.map V.int).length : Int)) (mod_lo _ hl2) (by have := mod_hi (k * 5 + 3) hl2; rw [List.length_map] at this ⊢; exact this)
        refine ⟨_, rfl, p, _, 0, .ref c, rfl, rfl, sql_of h3, rfl, ?_⟩
        have hpos : (0 : Int) < 10 ^ (17 : Int).toNat + k := by
          have : (0 : Int) < 10 ^ (17 : Int).toNat := by decide
          omega
        refine ⟨_, rfl, k, 5, rfl, rfl, .inr ⟨by decide, by decide⟩, k * 5, 3, rfl, rfl, .inl ⟨k * 5 + 3, rfl, _, rfl, p, _, 0, .ref c, rfl, rfl, sql_of h3, rfl, c, _, rfl, .inl hcl, k * 5 + 3, _, rfl, rfl, hl2, c, _, _, .int y, rfl, rfl, hcl, hy, .inl ⟨y, rfl, 10, 17, rfl, rfl, ⟨by decide, by decide, by decide⟩, _, rfl, _, k, rfl, rfl, y, _, rfl, rfl, hpos, ?_⟩⟩⟩
        refine ⟨_, rfl, k, 1, rfl, rfl, _, rfl, p, _, 1, 1, rfl, rfl, h3, rfl, ?_⟩
        refine ⟨_, rfl, _, rfl, rfl, fun _ => False, [.int (y % (10 ^ (17 : Int).toNat + k)), .int k], fun _ => False, fun d => ∃ z, d = .int z, fun _ z => z.elim, .cons (.int _) (.cons (.int _) .nil), ⟨(y % (10 ^ (17 : Int).toNat + k)), k, rfl, h4, by omega, fun z => ⟨z, rfl⟩⟩, fun _ _ z => z.elim, fun v H2 d hd ex rv => ?_⟩
        obtain ⟨z1, rfl⟩ := hd
        cases rv
        refine ⟨_, rfl, p, _, 2, 2, rfl, rfl, ex p _ upd_same, rfl, ?_⟩
        refine take_tail m0 m1 pne h2 (ext_pen ex) ?_ upd_same (k1 := k + 1) (by omega) (by omega) hq hQ
        · rw [upd_ne (Ne.symm pne)]
          exact ex c _ (by rw [upd_ne (Ne.symm pne)]; exact h1)
      · refine ⟨_, rfl, k, 1, rfl, rfl, _, rfl, p, _, 1, 1, rfl, rfl, h3, rfl, ?_⟩
        refine ⟨_, rfl, _, rfl, rfl, fun _ => False, [.int 0, .int k], fun _ => False, fun d => ∃ z, d = .int z, fun _ z => z.elim, .cons (.int _) (.cons (.int _) .nil), ⟨0, k, rfl, h4, by omega, fun z => ⟨z, rfl⟩⟩, fun _ _ z => z.elim, fun v H2 d hd ex rv => ?_⟩
        obtain ⟨z1, rfl⟩ := hd
        cases rv
        refine ⟨_, rfl, p, _, 2, 2, rfl, rfl, ex p _ upd_same, rfl, ?_⟩
        refine take_tail m0 m1 pne h2 (ext_pen ex) ?_ upd_same (k1 := k + 1) (by omega) (by omega) hq hQ
        · rw [upd_ne (Ne.symm pne)]
          exact ex c _ (by rw [upd_ne (Ne.symm pne)]; exact h1)
  · exact take_tail m0 m1 pne h2 (.refl _ _) h1 h3 h4 (by omega) hq hQ
/-! ### the pen is made -/
abbrev N__law_open : List Str := ["script", "cells", "k", "cell"]
theorem sc__law_open : FnScope N__law_open ["script"] (defScope ((topS 35))) := ⟨rfl, rfl, rfl, by decide +kernel, rfl, by decide +kernel, by decide +kernel⟩
def spOpen (K : Fg) : Sp := fun vs H Q _ => ∃ (a : Addr) (ns : List Int), vs = [.ref a] ∧ SqL K H a (ns.map V.int) ∧ ∀ H' p c, Ex H H' → H p = none → H c = none → penOk p c 1000000000 H' → Q (.ref p) H'
theorem sqt_of {H : Hp} {a : Addr} {xs : List V} (h : H a = some (.tup xs)) : SqT K H a xs := .inl (.inl h)
theorem cutV_map (ns : List Int) (lo hi : Option Int) : cutV (ns.map V.int) lo hi = (cut ns lo hi).map V.int := by
  unfold cutV cut
  rw [List.length_map, List.map_take, List.map_drop]
theorem sql_ex {H H' : Hp} {a : Addr} {xs : List V} (e : Ex H H') (h : SqL K H a xs) : SqL K H' a xs := by
  rcases h with (h | ⟨o, h⟩) | h
  · exact .inl (.inl (e _ _ h))
  · exact .inl (.inr ⟨o, e _ _ h⟩)
  · exact .inr h
theorem cut_len12 (ns : List Int) : (cut ns none (some 12)).length = min 12 ns.length := by
  unfold cut
  rw [List.length_take, List.length_drop, show HT.sIx ns.length 0 none = 0 from HT.sIx_none _ _, show HT.sIx ns.length ns.length (some 12) = min 12 ns.length from HT.sIx_nat ns.length ns.length 12]
  omega
theorem cut_len63 (ns : List Int) : (cut ns (some 12) (some 63)).length ≤ ns.length - 12 := by
  unfold cut
  rw [List.length_take, List.length_drop, show HT.sIx ns.length 0 (some 12) = min 12 ns.length from HT.sIx_nat ns.length 0 12]
  omega
theorem ok__law_open {f : Addr} {fd : FuncData} (B : Bl mg) (F : Fun K "_law_open" "_law_open" ((topS 35)) f fd) : FnOk P w K mg base (L2.CX P w) 1 f fd ["script"] (spOpen K) := by
  refine F.okX (N := N__law_open) (k := 0) sc__law_open (fun vs H Q E h => by obtain ⟨a, ns, rfl, _⟩ := h; rfl) fun cdv A outer s H vs Q E hr h => ?_
  obtain ⟨a, ns, rfl, hS, hQ⟩ := h
  have nd := sc__law_open.nd
  refine ⟨_, pss_cons (ps_set (i := 1) nd rfl (.inl rfl) (pe_callTy call_list_of (by rfl) B.list bt_list (pa_cons (pe_slice sl_list (pv 0) po_none (po_some pe_int)) pa_nil)))
    (pss_cons (ps_for (passes_of rfl) rfl (pi_enum (by rfl) B.enumerate (pa_cons (pe_slice sl_list (pv 0) (po_some pe_int) (po_some pe_int)) pa_nil)) (pg_tup rfl (pgs_cons (pg_name (i := 2) nd rfl (.inl rfl)) (pgs_cons (pg_name (i := 3) nd rfl (.inl rfl)) pgs_nil)))
      (pss_one (ps_asg (pe_op op_add (pe_ix ix_list (pv 1) (pe_op op_mod (pe_callTy call_int1 (by rfl) B.int bt_int (pa_cons (pv 2) pa_nil)) pe_int) (fun _ _ => rfl)) (pv 3)) (pg_sub (pv 1) (pe_op op_mod (pe_callTy call_int1 (by rfl) B.int bt_int (pa_cons (pv 2) pa_nil)) pe_int) set_list))))
    (pss_one (ps_ret (pe_lst (pa_cons (pv 1) (pa_cons pe_int (pa_cons pe_int pa_nil))))))), ?_⟩
  refine ⟨_, rfl, 12, rfl, a, _, rfl, hS, fun t0 n0 => ?_⟩
  refine ⟨t0, _, rfl, .inl (sql_of upd_same), fun l nl => ?_⟩
  have e1 : Ex H (upd H t0 (.lst (cutV (ns.map V.int) none (some 12)))) := ex_new n0
  have e2 : Ex H (upd (upd H t0 (.lst (cutV (ns.map V.int) none (some 12)))) l (.lst (cutV (ns.map V.int) none (some 12)))) := fun a o h => ex_new nl a o (e1 a o h)
  have nlH : H l = none := by
    cases q : H l with
    | none => rfl
    | some o => rw [e1 l o q] at nl; exact nomatch nl
  have el : (upd (upd H t0 (.lst (cutV (ns.map V.int) none (some 12)))) l (.lst (cutV (ns.map V.int) none (some 12)))) l = some (.lst ((cut ns none (some 12)).map V.int)) := by rw [upd_same, cutV_map]
  generalize upd (upd H t0 (.lst (cutV (ns.map V.int) none (some 12)))) l (.lst (cutV (ns.map V.int) none (some 12))) = H2 at e2 el ⊢
  refine ⟨_, rfl, 12, rfl, 63, rfl, a, _, rfl, sql_ex e2 hS, fun b nb => ?_⟩
  have lb : l ≠ b := ne_of_none el nb
  have e3 : Ex H (upd H2 b (.lst (cutV (ns.map V.int) (some 12) (some 63)))) := fun a o h => ex_new nb a o (e2 a o h)
  have el3 : (upd H2 b (.lst (cutV (ns.map V.int) (some 12) (some 63)))) l = some (.lst ((cut ns none (some 12)).map V.int)) := by rw [upd_ne lb]; exact el
  have eb3 : (upd H2 b (.lst (cutV (ns.map V.int) (some 12) (some 63)))) b = some (.lst ((cut ns (some 12) (some 63)).map V.int)) := by rw [upd_same, cutV_map]
  generalize upd H2 b (.lst (cutV (ns.map V.int) (some 12) (some 63))) = H3 at e3 el3 eb3 ⊢
  refine ⟨b, _, rfl, sql_of eb3, ?_⟩
  refine for_it walk_enum (fun i σ' H' => ∃ (y2 y3 : Option V) (cs : List Int), σ' = [some (.ref a), some (.ref l), y2, y3] ∧ Ex H H' ∧ (H' b = some (.lst ((cut ns (some 12) (some 63)).map V.int))) ∧ H' l = some (.lst (cs.map V.int)) ∧ cs.length = min 12 ns.length)
    ⟨none, none, _, rfl, e3, eb3, el3, cut_len12 ns⟩ (fun i σ' H' _ ⟨_, _, _, _, _, hb, _⟩ => sql_of hb) ?_ ?_
  · rintro i x σ' H' H4 hi ⟨y2, y3, cs, rfl, e', hb, hl, hlen⟩ ⟨T, u, v, rfl, nT, rfl, hu, hv⟩
    cases hu
    have hi' : i < ns.length - 12 := by
      have := cut_len63 ns
      rw [List.length_map] at hi
      omega
    obtain ⟨y, rfl⟩ : ∃ y : Int, v = .int y := by
      have hv : ((cut ns (some 12) (some 63)).map V.int)[i]? = some v := hv
      rw [List.getElem?_map] at hv
      cases q : (cut ns (some 12) (some 63))[i]? with
      | none => rw [q] at hv; exact nomatch hv
      | some y => rw [q] at hv; exact ⟨y, (Option.some.inj hv).symm⟩
    have lT : l ≠ T := ne_of_none hl nT
    have bT : b ≠ T := ne_of_none hb nT
    refine ⟨T, _, rfl, sqt_of upd_same, rfl, _, _, rfl, _, _, rfl, rfl, ?_⟩
    have hlT : (upd H' T (.tup [.int (i : Nat), .int y])) l = some (.lst (cs.map V.int)) := by rw [upd_ne lT]; exact hl
    have hbT : (upd H' T (.tup [.int (i : Nat), .int y])) b = some (.lst ((cut ns (some 12) (some 63)).map V.int)) := by rw [upd_ne bT]; exact hb
    have eT : Ex H (upd H' T (.tup [.int (i : Nat), .int y])) := fun a o h => ex_new nT a o (e' a o h)
    generalize upd H' T (.tup [.int (i : Nat), .int y]) = H5 at hlT hbT eT ⊢
    have m0 := mod_lo ((i : Nat) : Int) (b := 12) (by decide)
    have m1 := mod_hi ((i : Nat) : Int) (b := 12) (by decide)
    have c12 : cs.length = 12 := by omega
    obtain ⟨j, hj⟩ := Int.eq_ofNat_of_zero_le m0
    have hj12 : j < cs.length := by omega
    obtain ⟨z, hz⟩ := cells_at (cells := cs) (i := ((i : Nat) : Int) % 12) m0 (by rw [c12]; exact m1)
    refine ⟨_, rfl, _, rfl, .inl ⟨_, rfl, _, 12, rfl, rfl, (by decide : (0 : Int) < 12), l, _, _, .int z, rfl, rfl, sql_of hlT, hz, _, rfl, z, y, rfl, rfl, _, rfl, _, rfl, .inl ⟨_, rfl, _, 12, rfl, rfl, (by decide : (0 : Int) < 12), l, _, _, j, rfl, rfl, hlT, ?_, ?_⟩⟩⟩
    · unfold ixN
      rw [hj, List.length_map, if_pos (by omega), if_pos (by omega)]
      rfl
    · refine ⟨_, _, cs.set j (z + y), rfl, fun b' o h => ?_, ?_, ?_, by rw [List.length_set]; exact hlen⟩
      · rw [upd_ne (ne_of_none h nlH)]
        exact eT b' o h
      · rw [upd_ne (Ne.symm lb)]
        exact hbT
      · rw [upd_same, List.map_set]
  · rintro σ' H' ⟨y2, y3, cs, rfl, e', hb, hl, hlen⟩
    refine ⟨_, rfl, by show 3 ≤ sizeLine; decide +kernel, fun p np => ?_⟩
    have pH : H p = none := by
      cases q : H p with
      | none => rfl
      | some o => rw [e' p o q] at np; exact nomatch np
    refine hQ _ p l (fun a o h => ex_new np a o (e' a o h)) pH nlH ⟨fun z => ?_, cs, 0, 0, ?_, by omega, upd_same, by omega, by omega⟩
    · subst z
      rw [np] at hl
      exact nomatch hl
    · rw [upd_ne (ne_of_none hl np)]
      exact hl
end
end T

namespace T
open PySem PySem.Spec PyProof.Rows L2 DL
section
variable {P : Program} {w : World} {K : Fg} {mg : Str → Option Value} {base : Heap}
/-! ### the law's run -/
def wf__law_run : WF := fun ds ed Q => ∃ (M : Mach) (s : Option Nat) (w : List Nat), M.Ok ∧ ds = [M.d, goalD s, .str (txt w)] ∧ M.In s ∧ (∀ c ∈ w, c ∈ M.ls) ∧ Q (goalD (M.run s w))
theorem len__law_run {ds : List D} {ed : Value → Prop} {Q : D → Prop} (h : wf__law_run ds ed Q) : ds.length = 3 := by
  obtain ⟨_, _, _, _, rfl, _⟩ := h
  rfl
abbrev N__law_run : List Str := ["machine", "state", "word", "letter"]
theorem sc__law_run : FnScope N__law_run ["machine", "state", "word"] (defScope (topS 40)) := ⟨rfl, rfl, rfl, by decide +kernel, rfl, by decide +kernel, by decide +kernel⟩
theorem ok__law_run {f : Addr} {fd : FuncData}  (B : Bl mg)     (F : Fun K "_law_run" "_law_run" (topS 40) f fd) (g : mg "_law_run" = some (.ref f)) (b : Binds K fd ["machine", "state", "word"] []) : DFn P w K mg base "_law_run" 1 3 (wf__law_run) := by
  exact dfn_of (N := N__law_run) F sc__law_run g b rfl (fun ds ed Q h => len__law_run h) (fun cdv A outer s H E hr =>
    (dss_cons (ds_for (fun _ => passes_of rfl) (fun _ => rfl) (di_seq (fun _ => rfl) (de_pv (fun _ => pv 2))) (dg_pg (fun _ => pg_name (i := 3) sc__law_run.nd rfl (.inl rfl))) (dss_one (ds_set (i := 1) (de_if (DX.dt (dx_isN (dr_pv (fun _ => pv 1)) (DE.r de_non))) de_non (de_ix (fun _ => rfl) (DE.r (de_ix (fun _ => rfl) (DE.r (de_ix (fun _ => rfl) (dr_pv (fun _ => pv 0)) (DE.r de_int))) (dr_pv (fun _ => pv 1)))) (DE.r (de_index (fun _ => rfl) (fun _ => rfl) (fun _ => takes_of rfl rfl rfl rfl) (DE.r (de_ix (fun _ => rfl) (dr_pv (fun _ => pv 0)) (DE.r de_int))) (db_cons (dr_pv (fun _ => pv 3)) db_nil))))) (fun _ => sc__law_run.nd))))
    (dss_one (ds_ret (de_pv (fun _ => pv 1))))))
    (fun ds ed Q h => by
      obtain ⟨M, s, w, ok, rfl, hs, hw, hq⟩ := h
      unfold N__law_run
      conv => whnf
      refine ⟨.inl rfl, ?_⟩
      rw [chars_txt]
      refine forW_ind (fun r G => ∃ (s' : Option Nat) (w' : List Nat) (x : Slot), r = w'.map (fun c => .str ⟨#[c]⟩) ∧ (∀ c ∈ w', c ∈ M.ls) ∧ M.In s' ∧ M.run s' w' = M.run s w ∧ G = [.dat M.d, .dat (goalD s'), .dat (.str (txt w)), x]) ?_ ?_ _ _ ⟨s, w, .un, rfl, hw, hs, rfl, rfl⟩
      · rintro d r G ⟨s', w', x, e, hw', hs', hr, rfl⟩ next
        cases w' with
        | nil => exact nomatch e
        | cons c w' =>
          cases e
          have hw2 : ∀ c' ∈ w', c' ∈ M.ls := fun c' h => hw' c' (List.mem_cons_of_mem _ h)
          cases s' with
          | none =>
            refine ⟨rfl, fork_t rfl ?_⟩
            exact next _ ⟨none, w', _, rfl, hw2, hs', by rw [← hr, Mach.run_none, Mach.run_none], rfl⟩
          | some k =>
            have hc := hw' c List.mem_cons_self
            obtain ⟨r, h1, h2, h3, h4⟩ := ok.at (hs' k rfl) hc
            have e1 : atI M.rowsD (k : Int) = some (.tup (r.map goalD)) := atI_nat (by rw [Mach.rowsD, List.getElem?_map, h2]; rfl)
            have e2 : atI (r.map goalD) ((M.ls.idxOf c : Nat) : Int) = some (goalD (M.step k c)) := atI_nat (by rw [List.getElem?_map, h3]; rfl)
            refine ⟨rfl, fork_f rfl ?_⟩
            conv => whnf
            refine onO_i e1 ?_
            conv => whnf
            refine ⟨rfl, ?_⟩
            refine onO_i (index_one hc) ?_
            refine onO_i e2 ?_
            exact next _ ⟨M.step k c, w', .dat (.str ⟨#[c]⟩), rfl, hw2, ok.inn (hs' k rfl) hc, hr, rfl⟩
      · rintro G ⟨s', w', x, e, hw', hs', hr, rfl⟩
        cases w' with
        | nil =>
          rw [← hr] at hq
          exact hq
        | cons c w' => exact nomatch e)

def wf__law_has : WF := fun ds ed Q => ∃ (M : Mach) (w : List Nat), M.Ok ∧ ds = [M.d, .str (txt w)] ∧ (∀ c ∈ w, c ∈ M.ls) ∧ Q (.bl (M.has w))
theorem len__law_has {ds : List D} {ed : Value → Prop} {Q : D → Prop} (h : wf__law_has ds ed Q) : ds.length = 2 := by
  obtain ⟨_, _, _, rfl, _⟩ := h
  rfl
abbrev N__law_has : List Str := ["machine", "word"]
theorem sc__law_has : FnScope N__law_has ["machine", "word"] (defScope (topS 41)) := ⟨rfl, rfl, rfl, by decide +kernel, rfl, by decide +kernel, by decide +kernel⟩
theorem ok__law_has {f : Addr} {fd : FuncData}  (B : Bl mg)    (F__law_run : DFn P w K mg base "_law_run" 1 3 (wf__law_run)) (F : Fun K "_law_has" "_law_has" (topS 41) f fd) (g : mg "_law_has" = some (.ref f)) (b : Binds K fd ["machine", "word"] []) : DFn P w K mg base "_law_has" 2 2 (wf__law_has) := by
  exact dfn_of (N := N__law_has) F sc__law_has g b rfl (fun ds ed Q h => len__law_has h) (fun cdv A outer s H E hr =>
    (dss_one (ds_ret (DX.de (dx_in (fun _ => rfl) (DE.r (de_call F__law_run (fun _ => ⟨rfl, rfl, rfl, rfl, rfl⟩) (fun _ => takes_of rfl rfl rfl rfl) (fun _ => hr) (da_cons (de_pv (fun _ => pv 0)) (da_cons de_int (da_cons (de_pv (fun _ => pv 1)) da_nil))))) (DE.r (de_ix (fun _ => rfl) (dr_pv (fun _ => pv 0)) (DE.r de_int))))))))
    (fun ds ed Q h => by
      obtain ⟨M, w, ok, rfl, hw, hq⟩ := h
      unfold N__law_has
      conv => whnf
      refine ⟨M, some 0, w, ok, rfl, fun k e => by cases e; exact ok.r0, hw, ?_⟩
      conv => whnf
      refine ⟨flat_goal _, flat_ints _, ?_⟩
      have e := in_nats (M.run (some 0) w) M.ends
      unfold Mach.has at hq
      rw [show inD (goalD (M.run (some 0) w)) M.endsD = _ from e]
      exact hq)

end
end T

namespace T
open PySem PySem.Spec PyProof.Rows L2 DL
section
variable {P : Program} {w : World} {K : Fg} {mg : Str → Option Value} {base : Heap}
theorem toNat_lenM (n : Nat) : ((n : Int)).toNat = n := rfl
/-! ### a drawn machine -/
/-- what letters are drawn -/
structure Lets (l : List Nat) : Prop where
  a : areLetters (.str (txt l)) = true
  n : l ≠ []
  m : l.length ≤ 3
abbrev alphaS : Str := "abcdefghijklmnopqrstuvwxyz"
theorem drawn_ok : ∀ a : Nat, a < 24 → ∀ r : Nat, r < 3 → (areLetters (.str (cutS alphaS (some (a : Int)) (some ((a : Int) + 1 + (r : Int))))) && !(cutS alphaS (some (a : Int)) (some ((a : Int) + 1 + (r : Int)))).cps.toList.isEmpty && decide ((cutS alphaS (some (a : Int)) (some ((a : Int) + 1 + (r : Int)))).cps.toList.length ≤ 3)) = true := by decide +kernel
theorem lets_of (z : Str) (h : (areLetters (.str z) && !z.cps.toList.isEmpty && decide (z.cps.toList.length ≤ 3)) = true) : ∃ l, D.str z = .str (txt l) ∧ Lets l := by
  rw [Bool.and_eq_true, Bool.and_eq_true] at h
  obtain ⟨⟨h1, h2⟩, h3⟩ := h
  refine ⟨z.cps.toList, rfl, h1, ?_, of_decide_eq_true h3⟩
  intro e
  rw [e] at h2
  exact nomatch h2
def goalOf : D → Option Nat
  | .int i => some i.toNat
  | _ => none
theorem goal_of {n : Nat} {d : D} (h : RG n d) : d = goalD (goalOf d) ∧ ∀ k, goalOf d = some k → k < n := by
  rcases h with rfl | ⟨k, hk, rfl⟩
  · exact ⟨rfl, fun _ z => nomatch z⟩
  · refine ⟨rfl, fun j hj => ?_⟩
    have : k = j := Option.some.inj hj
    omega
theorem goals_of {n : Nat} {row : List D} (h : ∀ d ∈ row, RG n d) : row = (row.map goalOf).map goalD := by
  rw [List.map_map]
  exact ((List.map_congr_left fun d hd => (goal_of (h d hd)).1.symm).trans (List.map_id _)).symm
theorem asc_range {n : Nat} {es : List Nat} (h : es.Sublist (List.range n)) : ascI (es.map fun k => Int.ofNat k) = true := by
  have pw : es.Pairwise (· < ·) := List.Pairwise.sublist h (List.pairwise_lt_range)
  unfold ascI
  refine List.all_eq_true.mpr fun i hi => decide_eq_true ?_
  rw [List.length_map] at hi
  have hi := List.mem_range.mp hi
  have h1 : i < es.length := by omega
  have h2 : i + 1 < es.length := by omega
  have := List.pairwise_iff_getElem.mp pw i (i + 1) h1 h2 (by omega)
  simp only [List.getD_eq_getElem?_getD, List.getElem?_map, List.getElem?_eq_getElem h1, List.getElem?_eq_getElem h2, Option.map_some, Option.getD_some]
  exact Int.ofNat_lt.mpr this
theorem mk_machine {l : List Nat} (hl : Lets l) {n : Nat} (n1 : 1 ≤ n) (n6 : n ≤ 6) {rows : List (List D)} (rl : rows.length = n) (g : Good n l.length rows) {es : List Nat} (he : es.Sublist (List.range n)) :
    ∃ M : Mach, M.Ok ∧ M.rows.length = n ∧ M.d = .tup [.str (txt l), .tup (rows.map D.tup), .tup (es.map fun k => .int (k : Nat))] := by
  refine ⟨⟨l, rows.map fun r => r.map goalOf, es⟩, ⟨hl.a, hl.n, hl.m, by rw [List.length_map]; omega, by rw [List.length_map]; omega, fun r hr => ?_, fun r hr k hk => ?_, fun k hk => ?_, asc_range he, ?_⟩, by rw [List.length_map]; exact rl, ?_⟩
  · obtain ⟨r', hr', rfl⟩ := List.mem_map.mp hr
    rw [List.length_map]
    exact (g r' hr').1
  · obtain ⟨r', hr', rfl⟩ := List.mem_map.mp hr
    obtain ⟨d, hd, e⟩ := List.mem_map.mp hk
    show k < (rows.map _).length
    rw [List.length_map, rl]
    exact (goal_of ((g r' hr').2 d hd)).2 k e
  · show k < (rows.map _).length
    rw [List.length_map, rl]
    exact List.mem_range.mp (he.subset hk)
  · have := he.length_le
    rw [List.length_range] at this
    show es.length ≤ 6
    omega
  · show D.tup [.str (txt l), .tup ((rows.map fun r => r.map goalOf).map fun r => .tup (r.map goalD)), _] = _
    rw [List.map_map]
    have e : rows.map ((fun r => D.tup (r.map goalD)) ∘ fun r => r.map goalOf) = rows.map D.tup := List.map_congr_left fun r hr => by
      show D.tup ((r.map goalOf).map goalD) = D.tup r
      rw [← goals_of (g r hr).2]
    rw [e]
    rfl
theorem at_last {α : Type} {xs : List α} (h : xs ≠ []) : ∃ x, atI xs (-1) = some x := by
  have hl : 0 < xs.length := List.length_pos_iff.mpr h
  refine ⟨xs[xs.length - 1], ?_⟩
  unfold atI ixN
  rw [if_neg (by omega), if_pos (by omega)]
  show xs[(-1 + (xs.length : Int)).toNat]? = _
  rw [show (-1 + (xs.length : Int)).toNat = xs.length - 1 by omega]
  exact List.getElem?_eq_getElem _
theorem rng_non (k : Nat) : (List.replicate ((k : Nat) : Int).toNat [D.non]).flatten = List.replicate k D.non := by
  rw [toNat_lenM]
  induction k with
  | zero => rfl
  | succ k ih => rw [List.replicate_succ, List.flatten_cons, ih]; rfl
def toTup : D → D
  | .lst xs => .tup xs
  | d => d
theorem tup_rows (rows : List (List D)) : [] ++ (rows.map D.lst).map toTup = rows.map D.tup := by
  rw [List.nil_append, List.map_map]
  rfl
def wf__law_any_machine : WF := fun ds ed Q => ∃ many : Nat, ds = [.int (many : Nat)] ∧ 1 ≤ many ∧ many ≤ 6 ∧ ∀ M : Mach, M.Ok → M.rows.length ≤ many → Q M.d
theorem len__law_any_machine {ds : List D} {ed : Value → Prop} {Q : D → Prop} (h : wf__law_any_machine ds ed Q) : ds.length = 1 := by
  obtain ⟨_, rfl, _⟩ := h
  rfl
abbrev N__law_any_machine : List Str := ["pen", "many", "at", "drawn", "letters", "n", "way", "states", "turn", "ends", "k", "letter", "row"]
theorem sc__law_any_machine : FnScope N__law_any_machine ["pen", "many"] (defScope (topS 39)) := ⟨rfl, rfl, rfl, by decide +kernel, rfl, by decide +kernel, by decide +kernel⟩
theorem ok__law_any_machine {f : Addr} {fd : FuncData}  (B : Bl mg)    (F__law_one_of : PFn P w K mg base "_law_one_of" 3 1 1 (wf__law_one_of)) (F__law_take : PFn P w K mg base "_law_take" 2 1 1 (wf__law_take)) (F : Fun K "_law_any_machine" "_law_any_machine" (topS 39) f fd) (g : mg "_law_any_machine" = some (.ref f)) (b : Binds K fd ["pen", "many"] []) : PFn P w K mg base "_law_any_machine" 4 1 1000000 (wf__law_any_machine) := by
  exact pfn_of (N := N__law_any_machine) F sc__law_any_machine g b rfl (fun ds ed Q h => len__law_any_machine h) (fun p cdv A outer s H E hr =>
    (dss_cons (ds_set (i := 2) (de_callP (p := p) F__law_take (fun _ => ⟨rfl, rfl, rfl, rfl, rfl⟩) (fun _ h => h) (fun _ => takes_of rfl rfl rfl rfl) (fun _ => hr) (da_cons (de_pv (fun _ => pv 0)) (da_cons de_int da_nil))) (fun _ => sc__law_any_machine.nd))
    (dss_cons (ds_set (i := 3) (de_sl (fun _ => rfl) (DE.r de_str) (do_some (de_pv (fun _ => pv 2))) (do_some (de_addA (DE.r (de_addA (dr_pv (fun _ => pv 2)) (DE.r de_int))) (DE.r (de_callP (p := p) F__law_take (fun _ => ⟨rfl, rfl, rfl, rfl, rfl⟩) (fun _ h => h) (fun _ => takes_of rfl rfl rfl rfl) (fun _ => hr) (da_cons (de_pv (fun _ => pv 0)) (da_cons de_int da_nil))))))) (fun _ => sc__law_any_machine.nd))
    (dss_cons (ds_set (i := 4) (de_callP (p := p) F__law_one_of (fun _ => ⟨rfl, rfl, rfl, rfl, rfl⟩) (fun _ h => h) (fun _ => takes_of rfl rfl rfl rfl) (fun _ => hr) (da_cons (de_pv (fun _ => pv 0)) (da_cons (DF.de (df_lst (da_cons de_str (da_cons de_str (da_cons de_str (da_cons de_str (da_cons de_str (da_cons (de_pv (fun _ => pv 3)) da_nil)))))))) da_nil))) (fun _ => sc__law_any_machine.nd))
    (dss_cons (ds_asgT (de_tup (da_cons (de_addA (DE.r de_int) (DE.r (de_callP (p := p) F__law_take (fun _ => ⟨rfl, rfl, rfl, rfl, rfl⟩) (fun _ h => h) (fun _ => takes_of rfl rfl rfl rfl) (fun _ => hr) (da_cons (de_pv (fun _ => pv 0)) (da_cons (de_pv (fun _ => pv 1)) da_nil))))) (da_cons (de_callP (p := p) F__law_take (fun _ => ⟨rfl, rfl, rfl, rfl, rfl⟩) (fun _ h => h) (fun _ => takes_of rfl rfl rfl rfl) (fun _ => hr) (da_cons (de_pv (fun _ => pv 0)) (da_cons de_int da_nil))) da_nil))) (dg_tup (n := 2) (fun _ => rfl) (fun _ => rfl) (dgs_cons (dg_pg (fun _ => pg_name (i := 5) sc__law_any_machine.nd rfl (.inr rfl))) (dgs_cons (dg_pg (fun _ => pg_name (i := 6) sc__law_any_machine.nd rfl (.inr rfl))) dgs_nil))))
    (dss_cons (ds_if (DX.dt (dx_eq (dr_pv (fun _ => pv 6)) (DE.r de_int))) (dss_nest (i := 7) (setLc2_core (i := 7) (own := [("k", 10)]) (fun _ => rfl) (fun _ => sc__law_any_machine.nd) (di_range1 (fun _ => B.range) (db_cons (dr_pv (fun _ => pv 5)) db_nil)) (dg_pg (fun _ => pg_name (i := 10) sc__law_any_machine.nd rfl (by first | exact Or.inl rfl | exact Or.inr rfl))) (df_lc (own := [("letter", 11)]) (fun _ => rfl) (fun _ => sc__law_any_machine.nd) (di_seq (fun _ => rfl) (de_pv (fun _ => pv 4))) (dg_pg (fun _ => pg_name (i := 11) sc__law_any_machine.nd rfl (by first | exact Or.inl rfl | exact Or.inr rfl))) (de_if (DX.dt (dx_eq (dr_pv (fun _ => pv 11)) (DE.r (de_ix (fun _ => rfl) (dr_pv (fun _ => pv 4)) (DE.r (de_neg de_int)))))) (de_mod (DE.r (de_addA (DE.r (de_intOf (fun _ => B.int) (db_cons (dr_pv (fun _ => pv 10)) db_nil))) (DE.r de_int))) (dr_pv (fun _ => pv 5))) de_non) (fun _ => blkOk_by (by kernel_rfl))) (fun _ => blkOk_by (N := N__law_any_machine) (sc := defScope (topS 39)) (by decide +kernel))) (fun z =>
      (ds_for (fun _ => passes_of rfl) (fun _ => rfl) (di_range1 (fun _ => B.range) (db_cons (DE.r (de_callPT (p := p) F__law_take (fun _ => ⟨rfl, rfl, rfl, rfl, rfl⟩) (fun Q h => nest_has (fun P h => pen_has h) h) (fun _ => takes_of rfl rfl rfl rfl) (fun _ => hr) (da_cons (de_pv (fun _ => pv 0)) (da_cons de_int da_nil)))) db_nil)) (dg_pg (fun _ => pg_name (i := 8) sc__law_any_machine.nd rfl (.inl rfl))) (dss_one (ds_nset (i := 7) (fun _ => rfl) (fun Q h => nest_pen h) (fun _ => pv 7) (de_callPT (p := p) F__law_take (fun _ => ⟨rfl, rfl, rfl, rfl, rfl⟩) (fun Q h => nest_has (fun P h => pen_has h) h) (fun _ => takes_of rfl rfl rfl rfl) (fun _ => hr) (da_cons (de_pv (fun _ => pv 0)) (da_cons (de_pv (fun _ => pv 5)) da_nil))) (de_callPT (p := p) F__law_take (fun _ => ⟨rfl, rfl, rfl, rfl, rfl⟩) (fun Q h => nest_has (fun P h => pen_has h) h) (fun _ => takes_of rfl rfl rfl rfl) (fun _ => hr) (da_cons (de_pv (fun _ => pv 0)) (da_cons (de_pv (fun _ => pv 5)) da_nil))) (de_callPT (p := p) F__law_take (fun _ => ⟨rfl, rfl, rfl, rfl, rfl⟩) (fun Q h => nest_has (fun P h => pen_has h) h) (fun _ => takes_of rfl rfl rfl rfl) (fun _ => hr) (da_cons (de_pv (fun _ => pv 0)) (da_cons (de_len (fun _ => rfl) (fun _ => B.len) (db_cons (dr_pv (fun _ => pv 4)) db_nil)) da_nil)))))))
    (dss_one (ds_set (i := 9) (DF.de (df_lst (da_cons de_int da_nil))) (fun _ => sc__law_any_machine.nd)))) (dss_cons (ds_setO (i := 7) (df_lst da_nil) (fun _ => sc__law_any_machine.nd))
    (dss_cons (ds_for (fun _ => passes_of rfl) (fun _ => rfl) (di_range1 (fun _ => B.range) (db_cons (dr_pv (fun _ => pv 5)) db_nil)) (dg_pg (fun _ => pg_name (i := 10) sc__law_any_machine.nd rfl (.inl rfl))) (dss_one (ds_append (i := 7) (fun _ => rfl) (fun _ => pv 7) (DF.de (df_lc (own := [("letter", 11)]) (fun _ => rfl) (fun _ => sc__law_any_machine.nd) (di_seq (fun _ => rfl) (de_pv (fun _ => pv 4))) (dg_pg (fun _ => pg_name (i := 11) sc__law_any_machine.nd rfl (by first | exact Or.inl rfl | exact Or.inr rfl))) (de_callP (p := p) F__law_one_of (fun _ => ⟨rfl, rfl, rfl, rfl, rfl⟩) (fun _ h => h) (fun _ => takes0) (fun _ => hr) (da_cons (de_pv (fun _ => pv 0)) (da_cons (de_addA (DE.r (de_mulA (DE.r (DF.de (df_lst (da_cons de_non da_nil)))) (dr_pv (fun _ => pv 6)))) (DE.r (DF.de (df_listRg (fun _ => B.list) (fun _ => B.range) (de_pv (fun _ => pv 5)))))) da_nil))) (fun _ => blkOk_by (N := N__law_any_machine) (sc := defScope (topS 39)) (by decide +kernel)))))))
    (dss_one (ds_setLcIf (i := 9) (own := [("k", 10)]) (fun _ => rfl) (fun _ => sc__law_any_machine.nd) (di_range1 (fun _ => B.range) (db_cons (dr_pv (fun _ => pv 5)) db_nil)) (dg_pg (fun _ => pg_name (i := 10) sc__law_any_machine.nd rfl (by first | exact Or.inl rfl | exact Or.inr rfl))) (DX.dt (dx_eq (DE.r (de_callP (p := p) F__law_take (fun _ => ⟨rfl, rfl, rfl, rfl, rfl⟩) (fun _ h => h) (fun _ => takes0) (fun _ => hr) (da_cons (de_pv (fun _ => pv 0)) (da_cons de_int da_nil)))) (DE.r de_int))) (de_pv (fun _ => pv 10)) (fun _ => blkOk_by (N := N__law_any_machine) (sc := defScope (topS 39)) (by decide +kernel)))))))
    (dss_one (ds_ret (de_tup (da_cons (de_pv (fun _ => pv 4)) (da_cons (de_tupleOf (fun _ => rfl) (fun _ => B.tuple) (db_cons (DE.r (DF.de (df_lc (own := [("row", 12)]) (fun _ => rfl) (fun _ => sc__law_any_machine.nd) (di_seq (fun _ => rfl) (de_pv (fun _ => pv 7))) (dg_pg (fun _ => pg_name (i := 12) sc__law_any_machine.nd rfl (by first | exact Or.inl rfl | exact Or.inr rfl))) (de_tupleOf (fun _ => rfl) (fun _ => B.tuple) (db_cons (dr_pv (fun _ => pv 12)) db_nil)) (fun _ => blkOk_by (N := N__law_any_machine) (sc := defScope (topS 39)) (by decide +kernel))))) db_nil)) (da_cons (de_tupleOf (fun _ => rfl) (fun _ => B.tuple) (db_cons (dr_pv (fun _ => pv 9)) db_nil)) da_nil)))))))))))) (by decide)
    (fun p ds ed Q h => by
      obtain ⟨many, rfl, m1, m6, hq⟩ := h
      unfold N__law_any_machine
      conv => whnf
      refine ⟨rfl, 24, rfl, by decide, by decide, fun a0 h0 h1 => ?_⟩
      obtain ⟨a, rfl⟩ := Int.eq_ofNat_of_zero_le h0
      conv => whnf
      refine ⟨rfl, 3, rfl, by decide, by decide, fun r0 h2 h3 => ?_⟩
      obtain ⟨r, rfl⟩ := Int.eq_ofNat_of_zero_le h2
      conv => whnf
      refine ⟨by decide +kernel, ?_⟩
      conv => whnf
      refine ⟨by rw [sizeLine_eq]; show 6 ≤ 16777216; decide, ?_⟩
      conv => whnf
      refine ⟨rfl, _, _, rfl, rfl, (fun z => nomatch z), by show 6 ≤ 100000; decide, fun x hx => ?_⟩
      obtain ⟨l, rfl, hl⟩ : ∃ l, x = .str (txt l) ∧ Lets l := by
        rcases List.mem_cons.mp hx with rfl | hx
        · exact lets_of _ (by decide +kernel)
        rcases List.mem_cons.mp hx with rfl | hx
        · exact lets_of _ (by decide +kernel)
        rcases List.mem_cons.mp hx with rfl | hx
        · exact lets_of _ (by decide +kernel)
        rcases List.mem_cons.mp hx with rfl | hx
        · exact lets_of _ (by decide +kernel)
        rcases List.mem_cons.mp hx with rfl | hx
        · exact lets_of _ (by decide +kernel)
        rcases List.mem_cons.mp hx with rfl | hx
        · exact lets_of _ (drawn_ok a (by omega) r (by omega))
        exact nomatch hx
      clear hx
      conv => whnf
      refine ⟨rfl, (many : Nat), rfl, by omega, by omega, fun n0 h4 h5 => ?_⟩
      obtain ⟨n1, rfl⟩ := Int.eq_ofNat_of_zero_le h4
      conv => whnf
      refine ⟨rfl, 3, rfl, by decide, by decide, fun w0 h6 h7 => ?_⟩
      obtain ⟨wy, rfl⟩ := Int.eq_ofNat_of_zero_le h6
      have en : (1 : Int) + ((n1 : Nat) : Int) = ((1 + n1 : Nat) : Int) := by omega
      obtain ⟨n, hn⟩ : ∃ n, n = 1 + n1 := ⟨_, rfl⟩
      rw [en, ← hn]
      have b1 : 1 ≤ n := by omega
      have b2 : n ≤ many := by omega
      clear en h4 h5 h0 h1 h2 h3 h6
      conv => whnf
      refine ⟨by rw [sizeLine_eq]; show 2 ≤ 16777216; decide, rfl, rfl, ?_⟩
      suffices hs : ∀ (x2 x3 : D) (G : Gm), G = [.dat (.obj (.ref p)), .dat (.int (many : Nat)), .dat x2, .dat x3, .dat (.str (txt l)), .dat (.int (n : Nat)), .dat (.int (wy : Nat)), .un, .un, .un, .un, .un, .un] → DEnds.nx _ G from hs _ _ _ rfl
      rintro x2 x3 G rfl
      conv => whnf
      refine fork_i (fun hw => ?_) (fun hw => ?_)
      · conv => whnf
        refine ⟨rfl, (by decide : 7 < 13), ?_⟩
        conv => whnf
        refine ⟨by omega, by omega, by rw [rngD_len]; exact small_lt (by omega), .inl rfl, ?_⟩
        refine compW2_any (Pr := fun y => y.length = l.length ∧ ∀ d ∈ y, RG n d) (fun d hd R hR => ?_) (fun _ z => nomatch z) fun rows hrl hrows => ?_
        · obtain ⟨k, hk, rfl⟩ := rngD_mem hd
          conv => whnf
          have lc : (chars (txt l)).length = l.length := by rw [chars_txt, List.length_map]
          have l3 := hl.m
          refine ⟨by rw [lc]; exact small_lt (by omega), .inl rfl, ?_⟩
          refine compW_any (Pr := RG n) (fun d hd R hR => ?_) (fun _ z => nomatch z) fun out ho hp => hR out ⟨by rw [ho, lc]; simp, hp⟩
          rw [chars_txt] at hd
          obtain ⟨c, hc, rfl⟩ := List.mem_map.mp hd
          obtain ⟨x, ex⟩ := at_last hl.n
          conv => whnf
          refine ⟨small_line (show l.length ≤ 100000 by omega), onO_i ex ?_⟩
          conv => whnf
          refine fork_i (fun _ => ?_) (fun _ => ?_)
          · conv => whnf
            refine ⟨by omega, hR _ (.inr ⟨(k + 1) % n, Nat.mod_lt _ (by omega), ?_⟩)⟩
            show D.int ((((k : Nat) : Int) + 1) % ((n : Nat) : Int)) = D.int (((k + 1) % n : Nat) : Int)
            rw [Int.natCast_emod, Int.natCast_add]
            rfl
          · exact hR _ (.inl rfl)
        · refine ⟨n, l.length, hrows, fun o => ?_⟩
          conv => whnf
          refine ⟨rfl, 3, rfl, by decide, by decide, fun t0 t1 t2 => ?_⟩
          conv => whnf
          refine ⟨by omega, by omega, .inr (by rw [rngD_len]; omega), ?_⟩
          rw [rngD_len] at hrl
          have hrl : rows.length = n := by simpa using hrl
          refine forW_ind (fun r G => ∃ x8 : Slot, G = [.dat (.obj (.ref p)), .dat (.int (many : Nat)), .dat x2, .dat x3, .dat (.str (txt l)), .dat (.int (n : Nat)), .dat (.int (wy : Nat)), .dat (.obj (.ref o)), x8, .un, .un, .un, .un]) ?_ ?_ _ _ ⟨_, rfl⟩
          · rintro d r' G ⟨x8, rfl⟩ next
            conv => whnf
            refine ⟨rfl, ?_⟩
            refine ⟨rfl, n, rfl, by omega, by omega, fun v0 v1 v2 => ?_⟩
            conv => whnf
            obtain ⟨v, rfl⟩ := Int.eq_ofNat_of_zero_le v1
            have l3 := hl.m
            have l0 : 0 < l.length := List.length_pos_iff.mpr hl.n
            refine ⟨.inr ⟨v, by show v < n; omega, rfl⟩, ?_⟩
            conv => whnf
            refine ⟨rfl, n, rfl, by omega, by omega, fun i1 i2 i3 => ?_⟩
            conv => whnf
            refine ⟨i2, by show i1 < ((rows.length : Nat) : Int); omega, ?_⟩
            conv => whnf
            refine ⟨small_line (show l.length ≤ 100000 by omega), ?_⟩
            conv => whnf
            refine ⟨rfl, (l.length : Nat), rfl, by omega, by omega, fun j1 j2 j3 => ?_⟩
            conv => whnf
            refine ⟨j2, j3, ?_⟩
            exact next _ ⟨_, rfl⟩
          · rintro G ⟨x8, rfl⟩
            refine ⟨rfl, fun rows' l1 g => ?_⟩
            conv => whnf
            refine ⟨by rw [sizeLine_eq]; show 1 ≤ 16777216; decide, ?_⟩
            conv => whnf
            refine ⟨by rw [List.length_map]; exact small_lt (by omega), .inl rfl, ?_⟩
            refine compW_map (f := toTup) (fun d hd R hR => ?_) ?_
            · obtain ⟨row, hr, rfl⟩ := List.mem_map.mp hd
              exact hR
            rw [tup_rows]
            conv => whnf
            refine ⟨by rw [sizeLine_eq]; show 3 ≤ 16777216; decide, ?_⟩
            obtain ⟨M, h1, h2, h3⟩ := mk_machine hl b1 (by omega) (l1.trans hrl) g (es := [0]) (by
              refine List.singleton_sublist.mpr (List.mem_range.mpr (by omega)))
            have := hq M h1 (by omega)
            rw [h3] at this
            exact this
      · conv => whnf
        refine ⟨by rw [sizeLine_eq]; show 0 ≤ 16777216; decide, ?_⟩
        conv => whnf
        refine ⟨by omega, by omega, .inr (by rw [toNat_lenM, rngD_len]; omega), ?_⟩
        rw [toNat_lenM]
        have l3 := hl.m
        have lc : (chars (txt l)).length = l.length := by rw [chars_txt, List.length_map]
        refine forW_ind (fun r G => ∃ (acc : List (List D)) (x10 : Slot), acc.length + r.length = n ∧ Good n l.length acc ∧ G = [.dat (.obj (.ref p)), .dat (.int (many : Nat)), .dat x2, .dat x3, .dat (.str (txt l)), .dat (.int (n : Nat)), .dat (.int (wy : Nat)), .own (.lst (acc.map D.lst)), .un, .un, x10, .un, .un]) ?_ ?_ _ _ ⟨[], _, by rw [rngD_len]; simp, (fun _ z => nomatch z), rfl⟩
        · rintro d r' G ⟨acc, x10, hlen, g, rfl⟩ next
          rw [List.length_cons] at hlen
          conv => whnf
          refine ⟨by rw [List.length_map]; exact small_lt (by omega), ?_⟩
          conv => whnf
          refine ⟨by rw [lc]; exact small_lt (by omega), .inr (by rw [lc]; omega), ?_⟩
          refine compW_any (Pr := RG n) (fun d hd R hR => ?_) (fun _ z => nomatch z) fun out ho hp => ?_
          · conv => whnf
            refine ⟨by rw [sizeLine_eq]; show 1 ≤ 16777216; decide, ?_⟩
            conv => whnf
            refine ⟨by omega, by omega, by rw [sizeLine_eq]; show 1 * ((wy : Nat) : Int).toNat ≤ 16777216; omega, ?_⟩
            conv => whnf
            refine ⟨.of_le (by decide) (by omega) (by decide) (by omega), ?_⟩
            conv => whnf
            refine ⟨?_, ?_⟩
            · rw [rng_non, toNat_lenM, rngD_len, List.length_replicate, sizeLine_eq]
              omega
            conv => whnf
            refine ⟨rfl, _, _, rfl, rfl, fun z => ?_, ?_, fun x hx => hR x ?_⟩
            · have := congrArg List.length z
              rw [List.length_append, toNat_lenM, rngD_len] at this
              simp at this
              omega
            · rw [List.length_append, rng_non, List.length_replicate, toNat_lenM, rngD_len]
              omega
            · rw [rng_non, toNat_lenM] at hx
              rcases List.mem_append.mp hx with hx | hx
              · exact .inl (List.eq_of_mem_replicate hx)
              · obtain ⟨k, hk, rfl⟩ := rngD_mem hx
                exact .inr ⟨k, hk, rfl⟩
          · refine next _ ⟨acc ++ [out], .dat d, by rw [List.length_append]; simp; omega, fun row hr => ?_, ?_⟩
            · rcases List.mem_append.mp hr with hr | hr
              · exact g row hr
              · rw [List.mem_singleton.mp hr]
                exact ⟨by rw [ho, lc]; simp, hp⟩
            · rw [List.map_append]
              rfl
        · rintro G ⟨acc, x10, hlen, g, rfl⟩
          have hlen : acc.length = n := by simpa using hlen
          conv => whnf
          refine ⟨by omega, by omega, by rw [toNat_lenM, rngD_len]; exact small_lt (by omega), .inr (by rw [toNat_lenM, rngD_len]; omega), ?_⟩
          rw [toNat_lenM]
          refine compW_sub (fun d hd R Z hR hZ => ?_) fun out ho => ?_
          · conv => whnf
            refine ⟨rfl, 2, rfl, by decide, by decide, fun t t1 t2 => ?_⟩
            conv => whnf
            exact fork_i (fun _ => hR) fun _ => hZ
          obtain ⟨es, he, rfl⟩ : ∃ es : List Nat, es.Sublist (List.range n) ∧ out = es.map fun k => .int (k : Nat) := by
            have e : rngD 0 n = (List.range n).map fun k => D.int (k : Nat) := by
              unfold rngD
              exact List.map_congr_left fun k _ => by simp
            rw [e] at ho
            obtain ⟨es, h1, h2⟩ := List.sublist_map_iff.mp ho
            exact ⟨es, h1, h2⟩
          rw [List.nil_append]
          conv => whnf
          refine ⟨by rw [List.length_map]; exact small_lt (by omega), .inl rfl, ?_⟩
          refine compW_map (f := toTup) (fun d hd R hR => ?_) ?_
          · obtain ⟨row, hr, rfl⟩ := List.mem_map.mp hd
            exact hR
          rw [tup_rows]
          conv => whnf
          refine ⟨by rw [sizeLine_eq]; show 3 ≤ 16777216; decide, ?_⟩
          obtain ⟨M, h1, h2, h3⟩ := mk_machine hl b1 (by omega) hlen g he
          have := hq M h1 (by omega)
          rw [h3] at this
          exact this)

end
end T

namespace T
open PySem PySem.Spec PyProof.Rows L2 DL
section
variable {P : Program} {w : World} {K : Fg} {mg : Str → Option Value} {base : Heap}
/-! ### the law's own tears -/
abbrev sg (x : List Nat) : List D := x.map fun c => .str ⟨#[c]⟩
theorem sg_app (x y : List Nat) : sg x ++ sg y = sg (x ++ y) := (List.map_append ..).symm
theorem sg_rep (c : Nat) : ∀ n : Nat, (List.replicate n [D.str ⟨#[c]⟩]).flatten = sg (List.replicate n c)
  | 0 => rfl
  | n + 1 => by
    rw [List.replicate_succ, List.flatten_cons, sg_rep c n, List.replicate_succ]
    rfl
theorem sg_join {Q : D → Prop} {x : List Nat} (hl : x.length ≤ 5000) (h : Q (wD x)) : fJoin (.str "") [.lst (sg x)] Q := by
  refine ⟨"", x.map fun c => ⟨#[c]⟩, rfl, by rw [List.map_map]; rfl, ?_, ?_⟩
  · rw [List.map_map, List.length_map, sum_ones]
    show x.length + x.length * 0 ≤ 16777216
    omega
  · rw [join_signs]
    exact h
def wf__law_torn : WF := wf__torn
theorem len__law_torn {ds : List D} {ed : Value → Prop} {Q : D → Prop} (h : wf__law_torn ds ed Q) : ds.length = 4 := len__torn h
abbrev N__law_torn : List Str := ["kind", "word", "at", "size", "signs"]
theorem sc__law_torn : FnScope N__law_torn ["kind", "word", "at", "size"] (defScope (topS 45)) := ⟨rfl, rfl, rfl, by decide +kernel, rfl, by decide +kernel, by decide +kernel⟩
theorem ok__law_torn {f : Addr} {fd : FuncData}  (B : Bl mg)     (F : Fun K "_law_torn" "_law_torn" (topS 45) f fd) (g : mg "_law_torn" = some (.ref f)) (b : Binds K fd ["kind", "word", "at", "size"] []) : DFn P w K mg base "_law_torn" 1 4 (wf__law_torn) := by
  exact dfn_of (N := N__law_torn) F sc__law_torn g b rfl (fun ds ed Q h => len__law_torn h) (fun cdv A outer s H E hr =>
    (dss_cons (ds_setO (i := 4) (df_listA (fun _ => rfl) (fun _ => rfl) (fun _ => B.list) (db_cons (DE.r (de_sl (fun _ => rfl) (dr_pv (fun _ => pv 1)) do_none (do_some (de_pv (fun _ => pv 2))))) db_nil)) (fun _ => sc__law_torn.nd))
    (dss_cons (ds_if (DX.dt (dx_eq (dr_pv (fun _ => pv 0)) (DE.r de_str))) (dss_one (ds_setO (i := 4) (df_cat (dr_pv (fun _ => pv 4)) (DE.r (de_mulA (DE.r (DF.de (df_lst (da_cons de_str da_nil)))) (dr_pv (fun _ => pv 3))))) (fun _ => sc__law_torn.nd))) dss_nil)
    (dss_cons (ds_if (DX.dt (dx_eq (dr_pv (fun _ => pv 0)) (DE.r de_str))) (dss_one (ds_append (i := 4) (fun _ => rfl) (fun _ => pv 4) de_str)) dss_nil)
    (dss_cons (ds_if (DX.dt (dx_eq (dr_pv (fun _ => pv 0)) (DE.r de_str))) (dss_one (ds_setO (i := 4) (df_cat (dr_pv (fun _ => pv 4)) (DE.r (de_mulA (DE.r (DF.de (df_listA (fun _ => rfl) (fun _ => rfl) (fun _ => B.list) (db_cons (DE.r (de_sl (fun _ => rfl) (dr_pv (fun _ => pv 1)) (do_some (de_pv (fun _ => pv 2))) (do_some (de_addA (dr_pv (fun _ => pv 2)) (dr_pv (fun _ => pv 3)))))) db_nil)))) (DE.r de_int)))) (fun _ => sc__law_torn.nd))) dss_nil)
    (dss_one (ds_ret (de_addA (DE.r (de_join (fun _ => rfl) (DE.r de_str) (db_cons (dr_pv (fun _ => pv 4)) db_nil))) (DE.r (de_sl (fun _ => rfl) (dr_pv (fun _ => pv 1)) (do_some (de_addA (dr_pv (fun _ => pv 2)) (dr_pv (fun _ => pv 3)))) do_none))))))))))
    (fun ds ed Q h => by
      obtain ⟨k, wd, a, n, rfl, h1, h2, h3, hq⟩ := h
      unfold N__law_torn
      have hs : wd.length ≤ sizeLine := by rw [sizeLine_eq]; omega
      have e1 : (a : Int) + (n : Int) = ((a + n : Nat) : Int) := rfl
      have l1 : (wd.take a).length ≤ 1000 := by rw [List.length_take]; omega
      have l2 : ((wd.drop a).take n).length ≤ 3 := by rw [List.length_take]; omega
      have l3 : (wd.drop (a + n)).length ≤ 1000 := by rw [List.length_drop]; omega
      have l4 : ((wd.drop a).take n).length = n := by rw [List.length_take, List.length_drop]; omega
      have sz : ∀ i, i ≤ 3000 → i ≤ sizeLine := fun i h => by rw [sizeLine_eq]; omega
      have fin : ∀ x : List Nat, x.length ≤ 1100 → Q (wD (x ++ wd.drop (a + n))) → fJoin (.str "") [.lst (sg x)] fun y => (txt wd).length ≤ sizeLine ∧ fAddA y (.str (cutS (txt wd) (some ((a : Int) + (n : Int))) none)) Q := fun x hx hq => by
        refine sg_join (by omega) ⟨hs, ?_⟩
        rw [e1, cut_from]
        refine ⟨sz _ (by show x.length + (wd.drop (a + n)).length ≤ 3000; omega), ?_⟩
        rw [txt_cat]
        exact hq
      conv => whnf
      refine ⟨hs, ?_⟩
      rw [cut_to]
      conv => whnf
      refine ⟨sz _ (by show (wd.take a).length ≤ 3000; omega), ?_⟩
      rw [chars_txt]
      unfold tornW at hq
      rw [show (List.map (fun c => D.str { cps := #[c] }) (wd.take a)) = sg (wd.take a) from rfl]
      generalize wd.take a = x at hq l1 ⊢
      cases k with
      | faded =>
        refine fork_t rfl ?_
        conv => whnf
        refine ⟨sz _ (by show 1 ≤ 3000; decide), ?_⟩
        conv => whnf
        refine ⟨by omega, by omega, sz _ (by show 1 * ((n : Nat) : Int).toNat ≤ 3000; omega), ?_⟩
        rw [Int.toNat_natCast, show (Str.ofString "?") = (⟨#[63]⟩ : Str) from rfl, sg_rep]
        refine ⟨sz _ (by rw [List.length_map, List.length_map, List.length_replicate]; omega), ?_⟩
        rw [sg_app]
        conv => whnf
        refine fork_f rfl ?_
        conv => whnf
        refine fork_f rfl ?_
        conv => whnf
        rw [show midOf .faded ((wd.drop a).take n) = List.replicate n 63 by show List.replicate ((wd.drop a).take n).length 63 = _; rw [l4]] at hq
        exact ⟨rfl, fin _ (by rw [List.length_append, List.length_replicate]; omega) hq⟩
      | «open» =>
        refine fork_f rfl ?_
        conv => whnf
        refine fork_t rfl ?_
        conv => whnf
        refine ⟨by rw [List.length_map, sizeLine_eq]; omega, ?_⟩
        conv => whnf
        refine fork_f rfl ?_
        conv => whnf
        have last := fin (x ++ [42]) (by rw [List.length_append]; simp; omega) hq
        rw [← sg_app] at last
        exact ⟨rfl, last⟩
      | closed =>
        refine fork_f rfl ?_
        conv => whnf
        refine fork_f rfl ?_
        conv => whnf
        refine fork_f rfl ?_
        conv => whnf
        rw [show midOf .closed ((wd.drop a).take n) = [] from rfl, List.append_nil] at hq
        exact ⟨rfl, fin _ (by omega) hq⟩
      | doubled =>
        refine fork_f rfl ?_
        conv => whnf
        refine fork_f rfl ?_
        conv => whnf
        refine fork_t rfl ?_
        conv => whnf
        refine ⟨hs, ?_⟩
        rw [e1, cut_mid, show a + n - a = n by omega]
        conv => whnf
        refine ⟨sz _ (by show ((wd.drop a).take n).length ≤ 3000; omega), ?_⟩
        rw [chars_txt, show (List.map (fun c => D.str { cps := #[c] }) ((wd.drop a).take n)) = sg ((wd.drop a).take n) from rfl]
        rw [show midOf .doubled ((wd.drop a).take n) = (wd.drop a).take n ++ (wd.drop a).take n from rfl] at hq
        generalize (wd.drop a).take n = y at l2 hq ⊢
        conv => whnf
        refine ⟨by decide, by decide, sz _ (by rw [List.length_map]; show y.length * 2 ≤ 3000; omega), ?_⟩
        rw [show (List.replicate (2 : Int).toNat (sg y)).flatten = sg (y ++ y) by show sg y ++ (sg y ++ []) = _; rw [List.append_nil, sg_app]]
        refine ⟨sz _ (by rw [List.length_map, List.length_map, List.length_append]; omega), ?_⟩
        rw [sg_app]
        conv => whnf
        exact ⟨rfl, fin _ (by rw [List.length_append, List.length_append]; omega) hq⟩)

def tD2 (w : List Nat) : D := .tup [.int (w.length : Nat), wD w]
def pairOf : D → D
  | .str z => .tup [.int (z.length : Nat), .str z]
  | _ => .non
abbrev tP2 (w : List Nat) : PyData := .tuple [.int (w.length : Nat), .str (txt w)]
instance (x y : List Nat) : Decidable (Slt x y) := inferInstanceAs (Decidable (_ ∨ _))
def leS2 (a b : List Nat) : Bool := !decide (Slt b a)
theorem dataLt_tP2 (a b : List Nat) : PySem.W.dataLt (tP2 a) (tP2 b) = decide (Slt a b) := by
  rw [PySem.W.dataLt_pair (by simp [PySem.W.alike]) (by simp [PySem.W.alike]), PySem.W.dataLt_int, PySem.W.dataLt_str]
  by_cases e : a.length = b.length
  · rw [if_pos (by show ((a.length : Int) == (b.length : Int)) = true; simp [e])]
    by_cases e2 : a = b
    · rw [if_pos (by show (txt a == txt b) = true; rw [e2]; exact beq_self_eq_true _)]
      subst e2
      exact (decide_eq_false (slt_irrefl a)).symm
    · rw [if_neg (by show ¬ (txt a == txt b) = true; exact fun h => e2 (txt_inj (eq_of_beq h)))]
      refine decide_eq_decide.mpr ⟨fun h => .inr ⟨e, h⟩, fun h => h.elim (fun h => by omega) fun h => h.2⟩
  · rw [if_neg (by show ¬ ((a.length : Int) == (b.length : Int)) = true; exact fun h => e (Int.ofNat.inj (eq_of_beq h)))]
    refine decide_eq_decide.mpr ⟨fun h => .inl (by omega), fun h => h.elim (fun h => by omega) fun h => absurd h.1 e⟩
theorem le_tD2 (a b : List Nat) : leD (tD2 a) (tD2 b) = leS2 a b := by
  show (!PySem.W.dataLt (tP2 b) (tP2 a)) = _
  rw [dataLt_tP2]
  rfl
theorem sort_tD2 (zs : List (List Nat)) : sortD (zs.map tD2) = (zs.mergeSort leS2).map tD2 := (List.map_mergeSort (f := tD2) (fun a _ b _ => (le_tD2 a b).symm)).symm
theorem py_tD2 (zs : List (List Nat)) : pyDs (zs.map tD2) = some (zs.map tP2) := pyDs_atoms tD2 tP2 (fun _ => rfl) zs
theorem ok_tD2 (zs : List (List Nat)) : SortOk (zs.map tP2) := by
  refine ⟨PySem.W.AllAlike.of fun _ _ => by simp [PySem.W.alike, PySem.W.alikeAll], PySem.W.Sortable.tuples fun _ => ⟨_, _, rfl⟩, fun p hp => ?_⟩
  obtain ⟨w, _, rfl⟩ := List.mem_map.mp hp
  simp [PyData.depth, PyData.depthAll]
theorem s2_total (x y : List Nat) : (leS2 x y || leS2 y x) = true := by
  unfold leS2
  by_cases h : Slt y x
  · rw [decide_eq_true h, decide_eq_false fun k => slt_asymm h k]; rfl
  · rw [decide_eq_false h]; rfl
theorem s2_trans (x y z : List Nat) (a : leS2 x y = true) (b : leS2 y z = true) : leS2 x z = true := by
  unfold leS2 at *
  have a : ¬ Slt y x := by simpa using a
  have b : ¬ Slt z y := by simpa using b
  have c : ¬ Slt z x := fun h => by
    rcases slt_total x y with k | k | k
    · exact b (slt_trans h k)
    · subst k; exact b h
    · exact a k
  simpa using c
theorem sort_S2 (zs : List (List Nat)) : (zs.mergeSort leS2).Pairwise fun a b => ¬ Slt b a := (List.pairwise_mergeSort s2_trans s2_total zs).imp fun h => by
  unfold leS2 at h
  simpa using h
theorem py_lst {α : Type} (f : α → D) (g : α → PyData) (h : ∀ x, pyD (f x) = some (g x)) (xs : List α) : pyD (.lst (xs.map f)) = some (.list (xs.map g)) := by
  rw [pyD, pyDs_atoms f g h]
  rfl
theorem strs_ok : ∀ {zs : List (List Nat)}, (∀ z ∈ zs, ∀ c ∈ z, c < 128) → PyData.canLayAll0 (zs.map fun w => .str (txt w)) = true ∧ PyData.depthAll (zs.map fun w => .str (txt w)) = 0
  | [], h => ⟨rfl, rfl⟩
  | z :: zs, h => by
    obtain ⟨h1, h2⟩ := strs_ok (zs := zs) fun z' m => h z' (List.mem_cons_of_mem _ m)
    have hz := h z List.mem_cons_self
    have e : PyData.strOk (txt z) = true := by
      simp only [PyData.strOk, txt, List.all_toArray, List.all_eq_true, decide_eq_true_eq]
      intro c hc
      have := hz c hc
      omega
    constructor
    · rw [List.map_cons, PyData.canLayAll0, h1, PyData.canLay0, e]; rfl
    · rw [List.map_cons, PyData.depthAll, h2, PyData.depth]; rfl
theorem strs_shaped {zs : List (List Nat)} (h : ∀ z ∈ zs, ∀ c ∈ z, c < 128) : SeqAt.shaped (.list (zs.map fun w => .str (txt w))) = true := by
  obtain ⟨h1, h2⟩ := strs_ok h
  unfold SeqAt.shaped
  rw [PyData.canLay0, PyData.depth, h1, h2]
  rfl
theorem nil_or_snoc {α : Type} (xs : List α) : xs = [] ∨ ∃ ys y, xs = ys ++ [y] := by
  rcases List.eq_nil_or_concat xs with h | ⟨ys, y, h⟩
  · exact .inl h
  · exact .inr ⟨ys, y, by rw [h, List.concat_eq_append]⟩
theorem eqv_nil (xs : List PyData) : PyData.eqv (.list xs) (.list []) = xs.isEmpty := by cases xs <;> rfl
def wf__law_sorted : WF := fun ds ed Q => ∃ zs : List (List Nat), ds = [.lst (zs.map wD)] ∧ zs.length ≤ 5000 ∧ (∀ z ∈ zs, z.length ≤ 5000) ∧ (∀ z ∈ zs, ∀ c ∈ z, c < 128) ∧ Q (.lst ((canon zs).map wD))
theorem len__law_sorted {ds : List D} {ed : Value → Prop} {Q : D → Prop} (h : wf__law_sorted ds ed Q) : ds.length = 1 := by
  obtain ⟨_, rfl, _⟩ := h
  rfl
abbrev N__law_sorted : List Str := ["words", "found", "size", "word"]
theorem sc__law_sorted : FnScope N__law_sorted ["words"] (defScope (topS 43)) := ⟨rfl, rfl, rfl, by decide +kernel, rfl, by decide +kernel, by decide +kernel⟩
theorem ok__law_sorted {f : Addr} {fd : FuncData}  (B : Bl mg)     (F : Fun K "_law_sorted" "_law_sorted" (topS 43) f fd) (g : mg "_law_sorted" = some (.ref f)) (b : Binds K fd ["words"] []) : DFn P w K mg base "_law_sorted" 1 1 (wf__law_sorted) := by
  exact dfn_of (N := N__law_sorted) F sc__law_sorted g b rfl (fun ds ed Q h => len__law_sorted h) (fun cdv A outer s H E hr =>
    (dss_cons (ds_setO (i := 1) (df_lst da_nil) (fun _ => sc__law_sorted.nd))
    (dss_cons (ds_for (fun _ => passes_of rfl) (fun _ => rfl) (di_seq (fun _ => rfl) (DF.de (df_sort (fun _ => rfl) (fun _ => rfl) (fun _ => hr) (fun _ => B.sorted) (db_cons (DE.r (DF.de (df_lc (own := [("word", 3)]) (fun _ => rfl) (fun _ => sc__law_sorted.nd) (di_seq (fun _ => rfl) (de_pv (fun _ => pv 0))) (dg_pg (fun _ => pg_name (i := 3) sc__law_sorted.nd rfl (by first | exact Or.inl rfl | exact Or.inr rfl))) (de_tup (da_cons (de_len (fun _ => rfl) (fun _ => B.len) (db_cons (dr_pv (fun _ => pv 3)) db_nil)) (da_cons (de_pv (fun _ => pv 3)) da_nil))) (fun _ => blkOk_by (N := N__law_sorted) (sc := defScope (topS 43)) (by decide +kernel))))) db_nil)))) (dg_tup (n := 2) (fun _ => rfl) (fun _ => rfl) (dgs_cons (dg_pg (fun _ => pg_name (i := 2) sc__law_sorted.nd rfl (.inl rfl))) (dgs_cons (dg_pg (fun _ => pg_name (i := 3) sc__law_sorted.nd rfl (.inl rfl))) dgs_nil))) (dss_one (ds_if (DW.dt (dw_or (DX.dt (dx_eqD (fun _ => rfl) (fun _ => hr) (dr_pv (fun _ => pv 1)) (DE.r (DF.de (df_lst da_nil))))) (dw_or1 (DX.dt (dx_ne (DE.r (de_ix (fun _ => rfl) (dr_pv (fun _ => pv 1)) (DE.r (de_neg de_int)))) (dr_pv (fun _ => pv 3))))))) (dss_one (ds_append (i := 1) (fun _ => rfl) (fun _ => pv 1) (de_pv (fun _ => pv 3)))) dss_nil)))
    (dss_one (ds_ret (de_pv (fun _ => pv 1)))))))
    (fun ds ed Q h => by
      obtain ⟨zs, rfl, h1, h2, h3, hq⟩ := h
      unfold N__law_sorted
      conv => whnf
      refine ⟨by show 0 ≤ sizeLine; rw [sizeLine_eq]; decide, ?_⟩
      conv => whnf
      refine ⟨by rw [List.length_map, sizeLine_eq]; omega, .inl rfl, ?_⟩
      refine compW_map (f := pairOf) (fun d hd R hR => ?_) ?_
      · obtain ⟨z, hz, rfl⟩ := List.mem_map.mp hd
        conv => whnf
        have := h2 z hz
        refine ⟨by show z.length ≤ sizeLine; rw [sizeLine_eq]; omega, by rw [sizeLine_eq]; show 2 ≤ 16777216; decide, hR⟩
      · rw [List.nil_append, List.map_map, show (pairOf ∘ wD) = tD2 from rfl]
        conv => whnf
        refine onO_i (py_tD2 zs) ⟨ok_tD2 zs, ?_⟩
        rw [sort_tD2]
        have srt := sort_S2 zs
        refine ⟨.inl rfl, ?_⟩
        have mem : ∀ w, w ∈ zs.mergeSort leS2 ↔ w ∈ zs := fun w => List.mem_mergeSort
        generalize zs.mergeSort leS2 = S at srt mem ⊢
        refine forW_ind (fun r G => ∃ (pre rest acc : List (List Nat)) (x2 x3 : Slot), S = pre ++ rest ∧ r = rest.map tD2 ∧ acc.Pairwise Slt ∧ (∀ w, w ∈ acc ↔ w ∈ pre) ∧ G = [.dat (.lst (zs.map wD)), .own (.lst (acc.map wD)), x2, x3]) ?_ ?_ _ _ ⟨[], S, [], .un, .un, rfl, rfl, .nil, (fun w => Iff.rfl), rfl⟩
        · rintro d r G ⟨pre, rest, acc, x2, x3, rfl, e, pw, hm, rfl⟩ next
          cases rest with
          | nil => exact nomatch e
          | cons z rest =>
            cases e
            have ha : ∀ w ∈ acc, w ∈ zs := fun w hw => (mem w).mp (List.mem_append_left _ ((hm w).mp hw))
            have nz : ∀ w ∈ acc, ¬ Slt z w := fun w hw => (List.pairwise_append.mp srt).2.2 w ((hm w).mp hw) z List.mem_cons_self
            have al : acc.length ≤ 5000 := by
              have nd : acc.Nodup := List.Pairwise.imp (fun {a b} (s : Slt a b) (e : a = b) => slt_irrefl b (by rw [e] at s; exact s)) pw
              exact Nat.le_trans (nd.length_le_of_subset ha) h1
            have push : (∀ w ∈ acc, Slt w z) → ∃ (pre' rest' acc' : List (List Nat)) (x2 x3 : Slot), pre ++ z :: rest = pre' ++ rest' ∧ rest.map tD2 = rest'.map tD2 ∧ acc'.Pairwise Slt ∧ (∀ w, w ∈ acc' ↔ w ∈ pre') ∧ [Slot.dat (.lst (zs.map wD)), .own (.lst (acc.map wD ++ [wD z])), .dat (.int (z.length : Nat)), .dat (wD z)] = [.dat (.lst (zs.map wD)), .own (.lst (acc'.map wD)), x2, x3] := fun lt => by
              refine ⟨pre ++ [z], rest, acc ++ [z], _, _, by rw [List.append_assoc]; rfl, rfl, ?_, fun w => ?_, by rw [List.map_append]; rfl⟩
              · exact List.pairwise_append.mpr ⟨pw, List.pairwise_singleton _ _, fun w hw b hb => by rw [List.mem_singleton.mp hb]; exact lt w hw⟩
              · rw [List.mem_append, List.mem_append, hm w]
            have bd : (acc.map wD).length < sizeLine := by rw [List.length_map, sizeLine_eq]; omega
            refine ⟨rfl, rfl, ?_⟩
            conv => whnf
            refine ⟨by show 0 ≤ sizeLine; rw [sizeLine_eq]; decide, ?_⟩
            refine onO_i (py_lst wD (fun w => .str (txt w)) (fun _ => rfl) acc) (onO_i (a := PyData.list []) rfl ⟨?_, rfl, ?_⟩)
            · refine strs_shaped fun w hw => h3 w (ha w hw)
            · rw [eqv_nil]
              rcases nil_or_snoc acc with rfl | ⟨acc0, l, rfl⟩
              · refine fork_t rfl (fork_t rfl ?_)
                conv => whnf
                exact ⟨bd, next _ (push fun w hw => nomatch hw)⟩
              · refine fork_f (by rw [List.map_append]; cases acc0.map _ <;> rfl) ?_
                conv => whnf
                have la : atI ((acc0 ++ [l]).map wD) (-1) = some (wD l) := by rw [List.map_append]; exact atI_last (acc0.map wD) (wD l)
                refine onO_i la ?_
                conv => whnf
                by_cases e : l = z
                · subst e
                  refine fork_f (by show (!decide (txt l = txt l)) = false; rw [decide_eq_true rfl]; rfl) ?_
                  refine next _ ⟨pre ++ [l], rest, acc0 ++ [l], _, _, by rw [List.append_assoc]; rfl, rfl, pw, fun w => ?_, rfl⟩
                  rw [List.mem_append (s := pre), ← hm w]
                  refine ⟨.inl, fun h => h.elim id fun h => by rw [List.mem_singleton.mp h]; simp⟩
                · refine fork_t (by show (!decide (txt l = txt z)) = true; rw [decide_eq_false fun h => e (txt_inj h)]; rfl) ?_
                  conv => whnf
                  refine ⟨bd, next _ (push fun w hw => ?_)⟩
                  have lz : Slt l z := (slt_total l z).elim id fun h => h.elim (fun h => absurd h e) fun h => absurd h (nz l (by simp))
                  rcases List.mem_append.mp hw with hw | hw
                  · exact slt_trans ((List.pairwise_append.mp pw).2.2 w hw l (by simp)) lz
                  · rw [List.mem_singleton.mp hw]; exact lz
        · rintro G ⟨pre, rest, acc, x2, x3, rfl, e, pw, hm, rfl⟩
          cases rest with
          | cons z rest => exact nomatch e
          | nil =>
            have e : acc = canon zs := canon_of pw fun w => (hm w).trans (by rw [← mem w, List.append_nil])
            subst e
            conv => whnf
            exact hq)

theorem rng_len (lo : Int) (n : Nat) : (rngD lo n).length = n := by unfold rngD; simp
theorem rng_drop {lo : Int} {n j : Nat} {d : D} {r : List D} (h : d :: r = (rngD lo n).drop j) : j + 1 ≤ n ∧ d = .int (lo + (j : Nat)) ∧ r = (rngD lo n).drop (j + 1) := by
  have lt : j < n := by
    rcases Nat.lt_or_ge j n with q | q
    · exact q
    · rw [List.drop_of_length_le (by rw [rng_len]; exact q)] at h
      exact nomatch h
  have l2 : j < (rngD lo n).length := by rw [rng_len]; exact lt
  rw [List.drop_eq_getElem_cons l2] at h
  obtain ⟨h1, h2⟩ := List.cons.inj h
  refine ⟨lt, ?_, h2⟩
  have e : (rngD lo n)[j]? = some (.int (lo + (j : Nat))) := by
    unfold rngD
    rw [List.getElem?_map, List.getElem?_range lt]
    rfl
  rw [List.getElem?_eq_getElem l2, ← h1] at e
  exact Option.some.inj e
def tornsAt (R : Rule) (w : List Nat) (j i : Nat) : List (List Nat) := (List.range i).map fun a => tornW R.k w a (R.lo + j)
def tornsTo (R : Rule) (w : List Nat) (j : Nat) : List (List Nat) := (List.range j).flatMap fun i => tornsAt R w i (w.length + 1 - (R.lo + i))
theorem tornsAt_len (R : Rule) (w : List Nat) (j i : Nat) : (tornsAt R w j i).length = i := by unfold tornsAt; rw [List.length_map, List.length_range]
theorem tornsTo_succ (R : Rule) (w : List Nat) (j : Nat) : tornsTo R w (j + 1) = tornsTo R w j ++ tornsAt R w j (w.length + 1 - (R.lo + j)) := by
  unfold tornsTo
  rw [List.range_succ, List.flatMap_append, List.flatMap_cons, List.flatMap_nil, List.append_nil]
theorem tornsTo_all (R : Rule) (w : List Nat) : tornsTo R w (R.hi + 1 - R.lo) = torns R w := by
  unfold tornsTo torns stretches tornsAt
  rw [List.map_flatMap]
  refine congrArg (fun f => List.flatMap f _) (funext fun j => ?_)
  rw [List.map_map]
  rfl
theorem tornsTo_len' {R : Rule} (ok : R.Ok) {w : List Nat} (hl : w.length ≤ 1000) : ∀ j, j ≤ R.hi + 1 - R.lo → (tornsTo R w j).length ≤ j * 1001
  | 0, _ => Nat.zero_le _
  | j + 1, h => by
    have := tornsTo_len' ok hl j (by omega)
    rw [tornsTo_succ, List.length_append, tornsAt_len, Nat.succ_mul]
    omega
theorem tornsTo_len {R : Rule} (ok : R.Ok) {w : List Nat} (hl : w.length ≤ 1000) {j : Nat} (h : j + 1 ≤ R.hi + 1 - R.lo) : (tornsTo R w j).length ≤ 4 * 1001 := by
  have h1 := tornsTo_len' ok hl j (by omega)
  have := ok.hi3
  have : j * 1001 ≤ 4 * 1001 := Nat.mul_le_mul_right _ (by omega)
  omega
theorem torn_sign {k : Kd} {w : List Nat} {a n : Nat} (hs : ∀ c ∈ w, c < 128) : ∀ c ∈ tornW k w a n, c < 128 := by
  intro c hc
  have hy : ∀ c ∈ (w.drop a).take n, c < 128 := fun c h => hs c (List.mem_of_mem_drop (List.mem_of_mem_take h))
  unfold tornW at hc
  rcases List.mem_append.mp hc with hc | hc
  · rcases List.mem_append.mp hc with hc | hc
    · exact hs c (List.mem_of_mem_take hc)
    · generalize (w.drop a).take n = y at hy hc
      cases k
      · have hc : c ∈ List.replicate y.length 63 := hc
        rw [(List.mem_replicate.mp hc).2]; decide
      · have hc : c ∈ [42] := hc
        rw [List.mem_singleton.mp hc]; decide
      · exact nomatch hc
      · have hc : c ∈ y ++ y := hc
        exact (List.mem_append.mp hc).elim (hy c) (hy c)
  · exact hs c (List.mem_of_mem_drop hc)
theorem torns_sign {R : Rule} {w z : List Nat} (hs : ∀ c ∈ w, c < 128) (h : z ∈ torns R w) : ∀ c ∈ z, c < 128 := by
  obtain ⟨p, _, rfl⟩ := List.mem_map.mp h
  exact torn_sign hs
def wf__law_readings : WF := fun ds ed Q => ∃ (R : Rule) (w : List Nat), R.Ok ∧ ds = [R.d, wD w] ∧ w.length ≤ 1000 ∧ (∀ c ∈ w, c < 128) ∧ Q (.lst ((canon (torns R w)).map wD))
theorem len__law_readings {ds : List D} {ed : Value → Prop} {Q : D → Prop} (h : wf__law_readings ds ed Q) : ds.length = 2 := by
  obtain ⟨_, _, _, rfl, _⟩ := h
  rfl
abbrev N__law_readings : List Str := ["rule", "word", "found", "size", "at"]
theorem sc__law_readings : FnScope N__law_readings ["rule", "word"] (defScope (topS 46)) := ⟨rfl, rfl, rfl, by decide +kernel, rfl, by decide +kernel, by decide +kernel⟩
theorem ok__law_readings {f : Addr} {fd : FuncData}  (B : Bl mg)    (F__law_sorted : DFn P w K mg base "_law_sorted" 1 1 (wf__law_sorted)) (F__law_torn : DFn P w K mg base "_law_torn" 1 4 (wf__law_torn)) (F : Fun K "_law_readings" "_law_readings" (topS 46) f fd) (g : mg "_law_readings" = some (.ref f)) (b : Binds K fd ["rule", "word"] []) : DFn P w K mg base "_law_readings" 2 2 (wf__law_readings) := by
  exact dfn_of (N := N__law_readings) F sc__law_readings g b rfl (fun ds ed Q h => len__law_readings h) (fun cdv A outer s H E hr =>
    (dss_cons (ds_setO (i := 2) (df_lst da_nil) (fun _ => sc__law_readings.nd))
    (dss_cons (ds_for (fun _ => passes_of rfl) (fun _ => rfl) (di_range2 (fun _ => B.range) (db_cons (DE.r (de_ix (fun _ => rfl) (dr_pv (fun _ => pv 0)) (DE.r de_int))) (db_cons (DE.r (de_addA (DE.r (de_ix (fun _ => rfl) (dr_pv (fun _ => pv 0)) (DE.r de_int))) (DE.r de_int))) db_nil))) (dg_pg (fun _ => pg_name (i := 3) sc__law_readings.nd rfl (.inl rfl))) (dss_one (ds_for (fun _ => passes_of rfl) (fun _ => rfl) (di_range1 (fun _ => B.range) (db_cons (DE.r (de_addA (DE.r (de_sub (DE.r (de_len (fun _ => rfl) (fun _ => B.len) (db_cons (dr_pv (fun _ => pv 1)) db_nil))) (dr_pv (fun _ => pv 3)))) (DE.r de_int))) db_nil)) (dg_pg (fun _ => pg_name (i := 4) sc__law_readings.nd rfl (.inl rfl))) (dss_one (ds_append (i := 2) (fun _ => rfl) (fun _ => pv 2) (de_call F__law_torn (fun _ => ⟨rfl, rfl, rfl, rfl, rfl⟩) (fun _ => takes_of rfl rfl rfl rfl) (fun _ => hr) (da_cons (de_ix (fun _ => rfl) (dr_pv (fun _ => pv 0)) (DE.r de_int)) (da_cons (de_pv (fun _ => pv 1)) (da_cons (de_pv (fun _ => pv 4)) (da_cons (de_pv (fun _ => pv 3)) da_nil))))))))))
    (dss_one (ds_ret (de_call F__law_sorted (fun _ => ⟨rfl, rfl, rfl, rfl, rfl⟩) (fun _ => takes_of rfl rfl rfl rfl) (fun _ => hr) (da_cons (de_pv (fun _ => pv 2)) da_nil)))))))
    (fun ds ed Q h => by
      obtain ⟨R, wd, ok, rfl, hl, hs, hq⟩ := h
      unfold N__law_readings
      have hi3 := ok.hi3
      have le := ok.le
      conv => whnf
      refine ⟨by show 0 ≤ sizeLine; rw [sizeLine_eq]; decide, ?_⟩
      conv => whnf
      refine ⟨⟨by omega, by omega, by omega, by omega⟩, ?_⟩
      rw [show (((R.hi : Nat) : Int) + 1 - ((R.lo : Nat) : Int)).toNat = R.hi + 1 - R.lo by omega]
      refine ⟨.inl rfl, ?_⟩
      refine forW_ind (fun r G => ∃ (j : Nat) (x3 x4 : Slot), j ≤ R.hi + 1 - R.lo ∧ r = (rngD (R.lo : Nat) (R.hi + 1 - R.lo)).drop j ∧ G = [.dat R.d, .dat (wD wd), .own (.lst ((tornsTo R wd j).map wD)), x3, x4]) ?_ ?_ _ _ ⟨0, .un, .un, Nat.zero_le _, rfl, rfl⟩
      · rintro d r G ⟨j, x3, x4, hj, e, rfl⟩ next
        obtain ⟨hj, rfl, rfl⟩ := rng_drop e
        have bl : (tornsTo R wd j).length ≤ 4 * 1001 := tornsTo_len ok hl hj
        conv => whnf
        refine ⟨by show wd.length ≤ sizeLine; rw [sizeLine_eq]; omega, ?_⟩
        conv => whnf
        refine ⟨by show -(2 ^ 62) ≤ ((wd.length : Nat) : Int) - ((R.lo : Int) + (j : Nat)) + 1; omega, by show ((wd.length : Nat) : Int) - ((R.lo : Int) + (j : Nat)) + 1 < 2 ^ 62; omega, ?_⟩
        rw [show (((txt wd).length : Int) - ((R.lo : Int) + (j : Nat)) + 1).toNat = wd.length + 1 - (R.lo + j) by show (((wd.length : Nat) : Int) - ((R.lo : Int) + (j : Nat)) + 1).toNat = _; omega]
        refine ⟨.inl rfl, ?_⟩
        refine forW_ind (fun r G => ∃ (i : Nat) (x4 : Slot), i ≤ wd.length + 1 - (R.lo + j) ∧ r = (rngD 0 (wd.length + 1 - (R.lo + j))).drop i ∧ G = [.dat R.d, .dat (wD wd), .own (.lst ((tornsTo R wd j ++ tornsAt R wd j i).map wD)), .dat (.int ((R.lo : Int) + (j : Nat))), x4]) ?_ ?_ _ _ ⟨0, x4, Nat.zero_le _, rfl, congrArg (fun z : List (List Nat) => ([.dat R.d, .dat (wD wd), .own (.lst (z.map wD)), .dat (.int ((R.lo : Int) + (j : Nat))), x4] : Gm)) (List.append_nil (tornsTo R wd j)).symm⟩
        · rintro d r G ⟨i, x4, hi, e, rfl⟩ next2
          obtain ⟨hi, rfl, rfl⟩ := rng_drop (lo := 0) e
          conv => whnf
          refine ⟨?_, ?_⟩
          · rw [List.length_map, List.length_append, tornsAt_len, sizeLine_eq]
            omega
          · conv => whnf
            refine ⟨R.k, wd, i, R.lo + j, ?_, by omega, by omega, hl, ?_⟩
            · rw [show ((R.lo : Int) + (j : Nat)) = ((R.lo + j : Nat) : Int) from rfl, Int.zero_add]
            · refine next2 _ ⟨i + 1, .dat (.int ((0 : Int) + (i : Nat))), hi, rfl, ?_⟩
              have : (tornsTo R wd j ++ tornsAt R wd j i).map wD ++ [wD (tornW R.k wd i (R.lo + j))] = (tornsTo R wd j ++ tornsAt R wd j (i + 1)).map wD := by
                unfold tornsAt
                rw [List.range_succ, List.map_append, List.map_append, List.map_append, List.map_append, List.append_assoc]
                rfl
              rw [← this]
              rfl
        · rintro G ⟨i, x4, hi, e, rfl⟩
          have : i = wd.length + 1 - (R.lo + j) := by
            have := congrArg List.length e
            rw [List.length_drop, rng_len, List.length_nil] at this
            omega
          subst this
          refine next _ ⟨j + 1, .dat (.int ((R.lo : Int) + (j : Nat))), x4, hj, rfl, ?_⟩
          rw [tornsTo_succ]
      · rintro G ⟨j, x3, x4, hj, e, rfl⟩
        have : j = R.hi + 1 - R.lo := by
          have := congrArg List.length e
          rw [List.length_drop, rng_len, List.length_nil] at this
          omega
        subst this
        rw [tornsTo_all]
        conv => whnf
        refine ⟨torns R wd, rfl, ?_, fun z hz => ?_, fun z hz => torns_sign hs hz, hq⟩
        · rw [← tornsTo_all]
          have := tornsTo_len' ok hl (R.hi + 1 - R.lo) (Nat.le_refl _)
          omega
        · have := torns_len ok hl hz
          omega)

def wf__law_any_rule : WF := fun ds ed Q => ds = [] ∧ ∀ R : Rule, R.Ok → Q R.d
theorem len__law_any_rule {ds : List D} {ed : Value → Prop} {Q : D → Prop} (h : wf__law_any_rule ds ed Q) : ds.length = 0 := by
  obtain ⟨rfl, _⟩ := h
  rfl
abbrev N__law_any_rule : List Str := ["pen", "kind", "bound", "most"]
theorem sc__law_any_rule : FnScope N__law_any_rule ["pen"] (defScope (topS 44)) := ⟨rfl, rfl, rfl, by decide +kernel, rfl, by decide +kernel, by decide +kernel⟩
theorem ok__law_any_rule {f : Addr} {fd : FuncData}  (B : Bl mg)    (F__law_one_of : PFn P w K mg base "_law_one_of" 3 1 1 (wf__law_one_of)) (F__law_take : PFn P w K mg base "_law_take" 2 1 1 (wf__law_take)) (F : Fun K "_law_any_rule" "_law_any_rule" (topS 44) f fd) (g : mg "_law_any_rule" = some (.ref f)) (b : Binds K fd ["pen"] []) : PFn P w K mg base "_law_any_rule" 4 0 6 (wf__law_any_rule) := by
  exact pfn_of (N := N__law_any_rule) F sc__law_any_rule g b rfl (fun ds ed Q h => len__law_any_rule h) (fun p cdv A outer s H E hr =>
    (dss_cons (ds_set (i := 1) (de_callP (p := p) F__law_one_of (fun _ => ⟨rfl, rfl, rfl, rfl, rfl⟩) (fun _ h => h) (fun _ => takes_of rfl rfl rfl rfl) (fun _ => hr) (da_cons (de_pv (fun _ => pv 0)) (da_cons (DF.de (df_lst (da_cons de_str (da_cons de_str (da_cons de_str (da_cons de_str da_nil)))))) da_nil))) (fun _ => sc__law_any_rule.nd))
    (dss_cons (ds_set (i := 2) (de_if (DX.dt (dx_eq (dr_pv (fun _ => pv 1)) (DE.r de_str))) de_int (de_callP (p := p) F__law_one_of (fun _ => ⟨rfl, rfl, rfl, rfl, rfl⟩) (fun _ h => h) (fun _ => takes_of rfl rfl rfl rfl) (fun _ => hr) (da_cons (de_pv (fun _ => pv 0)) (da_cons (DF.de (df_lst (da_cons de_int (da_cons de_int (da_cons de_int (da_cons de_int da_nil)))))) da_nil)))) (fun _ => sc__law_any_rule.nd))
    (dss_cons (ds_set (i := 3) (de_callP (p := p) F__law_one_of (fun _ => ⟨rfl, rfl, rfl, rfl, rfl⟩) (fun _ h => h) (fun _ => takes_of rfl rfl rfl rfl) (fun _ => hr) (da_cons (de_pv (fun _ => pv 0)) (da_cons (DF.de (df_lst (da_cons (de_pv (fun _ => pv 2)) (da_cons (de_pv (fun _ => pv 2)) (da_cons (de_callP (p := p) F__law_take (fun _ => ⟨rfl, rfl, rfl, rfl, rfl⟩) (fun _ h => h) (fun _ => takes_of rfl rfl rfl rfl) (fun _ => hr) (da_cons (de_pv (fun _ => pv 0)) (da_cons (de_addA (dr_pv (fun _ => pv 2)) (DE.r de_int)) da_nil))) da_nil))))) da_nil))) (fun _ => sc__law_any_rule.nd))
    (dss_one (ds_ret (de_tup (da_cons (de_pv (fun _ => pv 1)) (da_cons (de_callP (p := p) F__law_one_of (fun _ => ⟨rfl, rfl, rfl, rfl, rfl⟩) (fun _ h => h) (fun _ => takes_of rfl rfl rfl rfl) (fun _ => hr) (da_cons (de_pv (fun _ => pv 0)) (da_cons (DF.de (df_lst (da_cons de_int (da_cons (de_pv (fun _ => pv 3)) (da_cons (de_callP (p := p) F__law_take (fun _ => ⟨rfl, rfl, rfl, rfl, rfl⟩) (fun _ h => h) (fun _ => takes_of rfl rfl rfl rfl) (fun _ => hr) (da_cons (de_pv (fun _ => pv 0)) (da_cons (de_addA (dr_pv (fun _ => pv 3)) (DE.r de_int)) da_nil))) da_nil))))) da_nil))) (da_cons (de_pv (fun _ => pv 3)) da_nil)))))))))) (by decide)
    (fun p ds ed Q h => by
      obtain ⟨rfl, hq⟩ := h
      unfold N__law_any_rule
      have sz : ∀ i, i ≤ 3000 → i ≤ sizeLine := fun i h => by rw [sizeLine_eq]; omega
      conv => whnf
      refine ⟨sz _ (by show 4 ≤ 3000; decide), rfl, _, _, rfl, rfl, (fun z => nomatch z), by show 4 ≤ 100000; decide, fun x hx => ?_⟩
      obtain ⟨k, rfl⟩ : ∃ k : Kd, x = .str k.s := by
        rcases List.mem_cons.mp hx with rfl | hx
        · exact ⟨.faded, rfl⟩
        rcases List.mem_cons.mp hx with rfl | hx
        · exact ⟨.open, rfl⟩
        rcases List.mem_cons.mp hx with rfl | hx
        · exact ⟨.closed, rfl⟩
        rw [List.mem_singleton.mp hx]
        exact ⟨.doubled, rfl⟩
      have tail : ∀ bd : Nat, bd ≤ k.bound → wSq (wSet 3 (wCallP p wf__law_one_of (wCons (wVar 0) (wCons (wF (wSz (wCons (wVar 2) (wCons (wVar 2) (wCons (wCallP p wf__law_take (wCons (wVar 0) (wCons (w2 fAddA (wRd 2) (wC (D.int 1))) wNil))) wNil))))) wNil)))) (wRet (wTup (wCons (wVar 1) (wCons (wCallP p wf__law_one_of (wCons (wVar 0) (wCons (wF (wSz (wCons (wC (D.int 0)) (wCons (wVar 3) (wCons (wCallP p wf__law_take (wCons (wVar 0) (wCons (w2 fAddA (wRd 3) (wC (D.int 1))) wNil))) wNil))))) wNil))) (wCons (wVar 3) wNil))))) [.dat (.obj (.ref p)), .dat (.str k.s), .dat (.int (bd : Nat)), .un] (dEnds ed Q) := fun bd hbd => by
        have hb3 : bd ≤ 3 := Nat.le_trans hbd (by cases k <;> decide)
        conv => whnf
        refine ⟨rfl, _, rfl, by omega, by omega, fun m m0 m1 => ?_⟩
        conv => whnf
        refine ⟨sz _ (by show 3 ≤ 3000; decide), rfl, _, _, rfl, rfl, (fun z => nomatch z), by show 3 ≤ 100000; decide, fun x hx => ?_⟩
        obtain ⟨hi, rfl, hh⟩ : ∃ hi : Nat, x = .int (hi : Nat) ∧ hi ≤ bd := by
          rcases List.mem_cons.mp hx with rfl | hx
          · exact ⟨bd, rfl, Nat.le_refl _⟩
          rcases List.mem_cons.mp hx with rfl | hx
          · exact ⟨bd, rfl, Nat.le_refl _⟩
          rw [List.mem_singleton.mp hx]
          exact ⟨m.toNat, by rw [Int.toNat_of_nonneg m0], by omega⟩
        conv => whnf
        refine ⟨rfl, _, rfl, by omega, by omega, fun l l0 l1 => ?_⟩
        conv => whnf
        refine ⟨sz _ (by show 3 ≤ 3000; decide), rfl, _, _, rfl, rfl, (fun z => nomatch z), by show 3 ≤ 100000; decide, fun x hx => ?_⟩
        obtain ⟨lo, rfl, hlo⟩ : ∃ lo : Nat, x = .int (lo : Nat) ∧ lo ≤ hi := by
          rcases List.mem_cons.mp hx with rfl | hx
          · exact ⟨0, rfl, Nat.zero_le _⟩
          rcases List.mem_cons.mp hx with rfl | hx
          · exact ⟨hi, rfl, Nat.le_refl _⟩
          rw [List.mem_singleton.mp hx]
          exact ⟨l.toNat, by rw [Int.toNat_of_nonneg l0], by omega⟩
        conv => whnf
        exact ⟨sz _ (by show 3 ≤ 3000; decide), hq ⟨k, lo, hi⟩ ⟨hlo, Nat.le_trans hh hbd⟩⟩
      conv => whnf
      by_cases hk : k = .doubled
      · subst hk
        refine fork_t rfl ?_
        exact tail 2 (by decide)
      · refine fork_f (by show decide (k.s = Str.ofString "doubled") = false; revert hk; cases k <;> first | (intro _; rfl) | (intro h; exact absurd rfl h)) ?_
        have b3 : k.bound = 3 := by revert hk; cases k <;> first | (intro _; rfl) | (intro h; exact absurd rfl h)
        conv => whnf
        refine ⟨sz _ (by show 4 ≤ 3000; decide), rfl, _, _, rfl, rfl, (fun z => nomatch z), by show 4 ≤ 100000; decide, fun x hx => ?_⟩
        obtain ⟨bd, rfl, hb⟩ : ∃ bd : Nat, x = .int (bd : Nat) ∧ bd ≤ 3 := by
          rcases List.mem_cons.mp hx with rfl | hx
          · exact ⟨1, rfl, by decide⟩
          rcases List.mem_cons.mp hx with rfl | hx
          · exact ⟨2, rfl, by decide⟩
          rcases List.mem_cons.mp hx with rfl | hx
          · exact ⟨2, rfl, by decide⟩
          rw [List.mem_singleton.mp hx]
          exact ⟨3, rfl, by decide⟩
        exact tail bd (by omega))

end
end T

namespace T
open PySem PySem.Spec PyProof.Rows L2 DL
section
variable {P : Program} {w : World} {K : Fg} {mg : Str → Option Value} {base : Heap}
/-! ### texts of letters -/
def lv (ls : List Nat) : Nat → List (List Nat)
  | 0 => [[]]
  | n + 1 => (lv ls n).flatMap fun t => ls.map fun c => t ++ [c]
def strsN (ls : List Nat) (lo : Nat) : Nat → List (List Nat)
  | 0 => []
  | n + 1 => strsN ls lo n ++ if lo ≤ n then lv ls n else []
def strsA (ls : List Nat) (lo hi : Nat) : List (List Nat) := strsN ls lo (hi + 1)
theorem lv_len (ls : List Nat) : ∀ n, ∀ t ∈ lv ls n, t.length = n
  | 0, t, h => by rw [List.mem_singleton.mp h]; rfl
  | n + 1, t, h => by
    obtain ⟨u, hu, h⟩ := List.mem_flatMap.mp h
    obtain ⟨c, _, rfl⟩ := List.mem_map.mp h
    rw [List.length_append, lv_len ls n u hu]
    rfl
theorem lv_in (ls : List Nat) : ∀ n, ∀ t ∈ lv ls n, ∀ c ∈ t, c ∈ ls
  | 0, t, h => by rw [List.mem_singleton.mp h]; exact fun _ z => nomatch z
  | n + 1, t, h => by
    obtain ⟨u, hu, h⟩ := List.mem_flatMap.mp h
    obtain ⟨c, hc, rfl⟩ := List.mem_map.mp h
    intro c' hc'
    rcases List.mem_append.mp hc' with h' | h'
    · exact lv_in ls n u hu c' h'
    · rw [List.mem_singleton.mp h']; exact hc
theorem lv_many {ls : List Nat} (h : ls.length ≤ 3) : ∀ n, (lv ls n).length ≤ 3 ^ n
  | 0 => Nat.le_refl _
  | n + 1 => by
    show ((lv ls n).flatMap _).length ≤ _
    rw [List.length_flatMap]
    have : ∀ xs : List (List Nat), (xs.map fun t => (ls.map fun c => t ++ [c]).length).sum ≤ 3 * xs.length := fun xs => by
      induction xs with
      | nil => exact Nat.le_refl _
      | cons x xs ih =>
        rw [List.map_cons, List.sum_cons, List.length_cons, List.length_map]
        omega
    have h2 := this (lv ls n)
    have h3 := lv_many h n
    rw [Nat.pow_succ]
    omega
theorem strsN_mem {ls : List Nat} {lo : Nat} {t : List Nat} : ∀ {n : Nat}, t ∈ strsN ls lo n → ∃ k, lo ≤ k ∧ k < n ∧ t ∈ lv ls k
  | 0, h => nomatch h
  | n + 1, h => by
    rcases List.mem_append.mp h with h | h
    · obtain ⟨k, h1, h2, h3⟩ := strsN_mem h
      exact ⟨k, h1, by omega, h3⟩
    · split at h
      · exact ⟨n, by omega, by omega, h⟩
      · exact nomatch h
theorem strsN_len {ls : List Nat} {lo : Nat} (h : ls.length ≤ 3) : ∀ {n : Nat}, n ≤ 4 → (strsN ls lo n).length ≤ 27 * n
  | 0, _ => Nat.le_refl _
  | n + 1, hn => by
    have h1 := strsN_len h (lo := lo) (n := n) (by omega)
    have h2 := lv_many h n
    have h3 : 3 ^ n ≤ 3 ^ 3 := Nat.pow_le_pow_right (by decide) (by omega)
    show (strsN ls lo n ++ _).length ≤ _
    rw [List.length_append]
    split
    · have : (3 : Nat) ^ 3 = 27 := by decide
      omega
    · show _ + 0 ≤ _
      omega
def rngF (k m : Nat) : List D := (List.range' k m).map fun j => .int (j : Nat)
theorem rng_from (n : Nat) : rngD 0 n = rngF 0 n := by
  unfold rngD rngF
  rw [List.range_eq_range', List.map_congr_left]
  intro j _
  rw [Int.zero_add]
theorem rngF_cons {d : D} {r : List D} {k m : Nat} (h : d :: r = rngF k m) : ∃ m', m = m' + 1 ∧ d = .int (k : Nat) ∧ r = rngF (k + 1) m' := by
  cases m with
  | zero => exact nomatch h
  | succ m =>
    unfold rngF at h
    rw [List.range'_succ, List.map_cons] at h
    obtain ⟨h1, h2⟩ := List.cons.inj h
    exact ⟨m, rfl, h1, h2⟩
theorem rngF_nil {k m : Nat} (h : [] = rngF k m) : m = 0 := by
  cases m with
  | zero => rfl
  | succ m => unfold rngF at h; rw [List.range'_succ, List.map_cons] at h; exact nomatch h
def addOne (ls : List Nat) : D → List D
  | .str s => ls.map fun c => wD (s.cps.toList ++ [c])
  | _ => []
def preOf (t : List Nat) : D → D
  | .str s => wD (t ++ s.cps.toList)
  | _ => .non
def aSt (ls : List Nat) (lo hi k e : Nat) (x5 x6 x7 : Slot) : Gm := [.dat (.str (txt ls)), .dat (.int (lo : Nat)), .dat (.int (hi : Nat)), .dat (.lst ((lv ls e).map wD)), .own (.lst ((strsN ls lo k).map wD)), x5, x6, x7]
def wf_strings_of : WF := fun ds ed Q => ∃ (ls : List Nat) (lo hi : Nat), ds = [.str (txt ls), .int (lo : Nat), .int (hi : Nat)] ∧ ls.length ≤ 3 ∧ hi ≤ 3 ∧ Q (.lst ((strsA ls lo hi).map wD))
theorem len_strings_of {ds : List D} {ed : Value → Prop} {Q : D → Prop} (h : wf_strings_of ds ed Q) : ds.length = 3 := by
  obtain ⟨_, _, _, rfl, _⟩ := h
  rfl
abbrev N_strings_of : List Str := ["letters", "least", "most", "equally_long", "found", "size", "text", "letter"]
theorem sc_strings_of : FnScope N_strings_of ["letters", "least", "most"] (defScope (topS 10)) := ⟨rfl, rfl, rfl, by decide +kernel, rfl, by decide +kernel, by decide +kernel⟩
theorem ok_strings_of {f : Addr} {fd : FuncData}  (B : Bl mg)     (F : Fun K "strings_of" "strings_of" (topS 10) f fd) (g : mg "strings_of" = some (.ref f)) (b : Binds K fd ["letters", "least", "most"] []) : DFn P w K mg base "strings_of" 1 3 (wf_strings_of) := by
  exact dfn_of (N := N_strings_of) F sc_strings_of g b rfl (fun ds ed Q h => len_strings_of h) (fun cdv A outer s H E hr =>
    (dss_cons (ds_set (i := 3) (DF.de (df_lst (da_cons de_str da_nil))) (fun _ => sc_strings_of.nd))
    (dss_cons (ds_setO (i := 4) (df_lst da_nil) (fun _ => sc_strings_of.nd))
    (dss_cons (ds_for (fun _ => passes_of rfl) (fun _ => rfl) (di_range1 (fun _ => B.range) (db_cons (DE.r (de_addA (dr_pv (fun _ => pv 2)) (DE.r de_int))) db_nil)) (dg_pg (fun _ => pg_name (i := 5) sc_strings_of.nd rfl (.inl rfl))) (dss_cons (ds_if (DX.dt (dx_gt (dr_pv (fun _ => pv 5)) (DE.r de_int))) (dss_one (ds_setLc2f (i := 3) (own := [("text", 6), ("letter", 7)]) [7] (fun _ => rfl) (fun _ => sc_strings_of.nd) (di_seq (fun _ => rfl) (de_pv (fun _ => pv 3))) (dg_pg (fun _ => pg_name (i := 6) sc_strings_of.nd rfl (by first | exact Or.inl rfl | exact Or.inr rfl))) (di_seq (fun _ => rfl) (de_pv (fun _ => pv 0))) (dg_pg (fun _ => pg_name (i := 7) sc_strings_of.nd rfl (by first | exact Or.inl rfl | exact Or.inr rfl))) (de_addA (dr_pv (fun _ => pv 6)) (dr_pv (fun _ => pv 7))) (fun _ => blkOk_by (N := N_strings_of) (sc := defScope (topS 10)) (by decide +kernel)))) dss_nil)
    (dss_one (ds_if (DX.dt (dx_ge (dr_pv (fun _ => pv 5)) (dr_pv (fun _ => pv 1)))) (dss_one (ds_extend (i := 4) (fun _ => rfl) (fun _ => pv 4) (de_pv (fun _ => pv 3)))) dss_nil))))
    (dss_one (ds_ret (de_pv (fun _ => pv 4))))))))
    (fun ds ed Q h => by
      obtain ⟨ls, lo, hi, rfl, l3, h3, hq⟩ := h
      unfold N_strings_of
      have sz : ∀ i, i ≤ 3000 → i ≤ sizeLine := fun i h => by rw [sizeLine_eq]; omega
      conv => whnf
      refine ⟨sz _ (by show 1 ≤ 3000; decide), ?_⟩
      conv => whnf
      refine ⟨sz _ (by show 0 ≤ 3000; decide), ?_⟩
      conv => whnf
      refine ⟨by omega, by omega, ?_⟩
      rw [show ((hi : Int) + 1).toNat = hi + 1 from rfl, rng_from]
      refine ⟨.inl rfl, ?_⟩
      refine forW_ind (fun r G => ∃ k m, r = rngF k m ∧ k + m = hi + 1 ∧ ∃ x5 x6 x7 : Slot, G = aSt ls lo hi k (k - 1) x5 x6 x7) ?_ ?_ _ _ ⟨0, hi + 1, rfl, by omega, _, _, _, rfl⟩
      · rintro d r G ⟨k, m, hr, hm, x5, x6, x7, rfl⟩ next
        obtain ⟨m', rfl, rfl, rfl⟩ := rngF_cons hr
        have many := lv_many l3
        have ml : ∀ n, n ≤ 3 → (lv ls n).length ≤ 27 := fun n hn => Nat.le_trans (many n) (Nat.le_trans (Nat.pow_le_pow_right (by decide) hn) (by decide))
        have sl := strsN_len (ls := ls) (lo := lo) l3 (n := k) (by omega)
        have lk := ml k (by omega)
        have more : ∀ y5 y6 y7 : Slot, lo ≤ k → [Slot.dat (.str (txt ls)), .dat (.int (lo : Nat)), .dat (.int (hi : Nat)), .dat (.lst ((lv ls k).map wD)), .own (.lst ((strsN ls lo k).map wD ++ (lv ls k).map wD)), y5, y6, y7] = aSt ls lo hi (k + 1) k y5 y6 y7 := fun y5 y6 y7 h => by
          unfold aSt
          rw [show strsN ls lo (k + 1) = strsN ls lo k ++ lv ls k by show _ ++ (if lo ≤ k then _ else _) = _; rw [if_pos h], List.map_append]
        have less : ∀ y5 y6 y7 : Slot, ¬ lo ≤ k → aSt ls lo hi k k y5 y6 y7 = aSt ls lo hi (k + 1) k y5 y6 y7 := fun y5 y6 y7 h => by
          unfold aSt
          rw [show strsN ls lo (k + 1) = strsN ls lo k by show _ ++ (if lo ≤ k then _ else _) = _; rw [if_neg h, List.append_nil]]
        conv => whnf
        refine fork_i (fun h0 => ?_) fun h0 => ?_
        have h0 : (0 : Int) < (k : Int) := of_decide_eq_true h0
        obtain ⟨k', rfl⟩ : ∃ k', k = k' + 1 := ⟨k - 1, by omega⟩
        have lk' := ml k' (by omega)
        have fl : ([] : List D) ++ ((lv ls k').map wD).flatMap (addOne ls) = (lv ls (k' + 1)).map wD := by
          show ((lv ls k').map wD).flatMap _ = ((lv ls k').flatMap fun t => ls.map fun c => t ++ [c]).map wD
          rw [List.flatMap_map, List.map_flatMap]
          congr 1
          funext t
          rw [List.map_map]
          rfl
        conv => whnf
        refine compLL_map (f := addOne ls) 300 ?_ (fun d hd acc S hB hS => ?_) ?_
        · have := congrArg List.length fl
          rw [List.nil_append, List.length_map] at this
          rw [show k' + 1 - 1 = k' from rfl, this]
          show 0 + _ ≤ 300
          omega
        · obtain ⟨t, ht, rfl⟩ := List.mem_map.mp hd
          have tl := lv_len ls k' t ht
          conv => whnf
          rw [show (addOne ls (wD t)).length = ls.length from List.length_map ..] at hB
          have cl : (chars (txt ls)).length = ls.length := by rw [chars_txt, List.length_map]
          refine ⟨sz _ (by rw [cl]; omega), ?_⟩
          rw [chars_txt]
          rw [show addOne ls (wD t) = (ls.map fun c => D.str ⟨#[c]⟩).map (preOf t) by rw [List.map_map]; rfl] at hS
          refine compW_map (f := preOf t) (fun d hd Z hZ => ?_) hS
          obtain ⟨c, hc, rfl⟩ := List.mem_map.mp hd
          conv => whnf
          refine ⟨sz _ (by show t.length + 1 ≤ 3000; omega), ?_⟩
          rw [show (⟨#[c]⟩ : Str) = txt [c] from rfl, txt_cat]
          exact hZ
        rw [show k' + 1 - 1 = k' from rfl, fl]
        rotate_left
        have h0 : ¬ (0 : Int) < (k : Int) := of_decide_eq_false h0
        obtain rfl : k = 0 := by omega
        all_goals
          conv => whnf
          refine fork_i (fun h1 => ?_) fun h1 => ?_
          · have h1 := of_decide_eq_true h1
            conv => whnf
            refine ⟨sz _ (by rw [List.length_map, List.length_map]; first | omega | (show _ + (lv ls 0).length ≤ 3000; omega)), ?_⟩
            exact next _ ⟨_, m', rfl, by omega, _, _, _, more _ _ _ (by omega)⟩
          · have h1 := of_decide_eq_false h1
            conv => whnf
            exact next _ ⟨_, m', rfl, by omega, _, _, _, less _ _ _ (by omega)⟩
      · rintro G ⟨k, m, hr, hm, x5, x6, x7, rfl⟩
        obtain rfl := rngF_nil hr
        obtain rfl : k = hi + 1 := by omega
        exact hq)

end
end T

namespace T
open PySem PySem.Spec PyProof.Rows L2 DL
section
variable {P : Program} {w : World} {K : Fg} {mg : Str → Option Value} {base : Heap}
/-! ### moves of sides: the mathematics -/
abbrev Way := List Nat × Nat
def Mach.ways (M : Mach) (s lo hi : Nat) : List Way := (strsA M.ls lo hi).filterMap fun t => (M.run (some s) t).map fun g => (t, g)
def wayD (x : Way) : D := .tup [wD x.1, .int (x.2 : Nat)]
inductive Ph
  | whole | torn | fading | once | twice
  deriving DecidableEq
def Ph.s : Ph → Str
  | .whole => "whole" | .torn => "torn" | .fading => "fading" | .once => "once" | .twice => "twice"
structure Sd where
  ph : Ph
  st : Nat
  held : List Nat
def Sd.d (S : Sd) : D := .tup [.str S.ph.s, .int (S.st : Nat), wD S.held]
structure Mv where
  sign : List Nat
  text : List Nat
  to : Sd
def Mv.d (m : Mv) : D := .tup [wD m.sign, wD m.text, m.to.d]
def Mach.into (M : Mach) (k : Kd) (s : Nat) (held : List Nat) : List Mv := (M.ways s 1 1).map fun x => if k = .faded then ⟨[63], x.1, ⟨.fading, x.2, held ++ [63]⟩⟩ else ⟨x.1, x.1, ⟨.once, x.2, held ++ x.1⟩⟩
def Mach.mvWhole (M : Mach) (R : Rule) (s : Nat) : List Mv := ((M.ways s 1 1).map fun x => (⟨x.1, x.1, ⟨.whole, x.2, []⟩⟩ : Mv)) ++
  if R.k = .open ∨ R.k = .closed then (M.ways s R.lo R.hi).map fun x => ⟨if R.k = .open then [42] else [], x.1, ⟨.torn, x.2, []⟩⟩
  else (if 0 < R.hi then M.into R.k s [] else []) ++ if R.lo = 0 then [⟨[], [], ⟨.torn, s, []⟩⟩] else []
def Mach.mvIn (M : Mach) (R : Rule) (s : Nat) (held : List Nat) : List Mv := (if held.length < R.hi then M.into R.k s held else []) ++
  if R.lo ≤ held.length then [⟨[], [], if R.k = .faded then ⟨.torn, s, []⟩ else ⟨.twice, s, held⟩⟩] else []
theorem ways_mem {M : Mach} {s lo hi : Nat} {x : Way} (h : x ∈ M.ways s lo hi) : x.1 ∈ strsA M.ls lo hi ∧ M.run (some s) x.1 = some x.2 := by
  obtain ⟨t, ht, e⟩ := List.mem_filterMap.mp h
  cases hr : M.run (some s) t with
  | none => rw [hr] at e; exact nomatch e
  | some g => rw [hr] at e; cases e; exact ⟨ht, hr⟩
theorem strsA_mem {ls : List Nat} {lo hi : Nat} {t : List Nat} (h : t ∈ strsA ls lo hi) : lo ≤ t.length ∧ t.length ≤ hi ∧ ∀ c ∈ t, c ∈ ls := by
  obtain ⟨k, h1, h2, h3⟩ := strsN_mem h
  have := lv_len ls k t h3
  exact ⟨by omega, by omega, lv_in ls k t h3⟩
theorem strsA_len {ls : List Nat} {lo hi : Nat} (h : ls.length ≤ 3) (h3 : hi ≤ 3) : (strsA ls lo hi).length ≤ 108 := Nat.le_trans (strsN_len h (by omega)) (by omega)
theorem ways_len {M : Mach} (ok : M.Ok) {s lo hi : Nat} (h3 : hi ≤ 3) : (M.ways s lo hi).length ≤ 108 := Nat.le_trans (List.length_filterMap_le _ _) (strsA_len ok.l3 h3)
theorem ways_in {M : Mach} (ok : M.Ok) {s lo hi : Nat} (hs : s < M.rows.length) {x : Way} (h : x ∈ M.ways s lo hi) : x.2 < M.rows.length := by
  obtain ⟨h1, h2⟩ := ways_mem h
  exact ok.run_in (s := some s) (fun k e => by cases e; exact hs) (strsA_mem h1).2.2 x.2 h2
def pairTo (M : Mach) (s : Nat) : D → D
  | .str t => .tup [.str t, goalD (M.run (some s) t.cps.toList)]
  | _ => .non
def hasTo : D → Bool
  | .tup [_, .int _] => true
  | _ => false
theorem ways_by (M : Mach) (s : Nat) : ∀ xs : List (List Nat), ((((xs.map wD).map (pairTo M s)).filter hasTo).map id) = (xs.filterMap fun t => (M.run (some s) t).map fun g => (t, g)).map wayD
  | [] => rfl
  | t :: xs => by
    rw [List.map_cons, List.map_cons, List.filterMap_cons]
    have ih := ways_by M s xs
    show (List.filter hasTo (D.tup [wD t, goalD (M.run (some s) t)] :: _)).map id = _
    cases h : M.run (some s) t with
    | none =>
      rw [List.filter_cons_of_neg (by show ¬ (false = true); decide)]
      exact ih
    | some g =>
      rw [List.filter_cons_of_pos rfl]
      show _ :: _ = wayD (t, g) :: _
      rw [ih]
      rfl
def wf__ways_on : WF := fun ds ed Q => ∃ (M : Mach) (s lo hi : Nat), M.Ok ∧ s < M.rows.length ∧ hi ≤ 3 ∧ ds = [M.d, .int (s : Nat), .int (lo : Nat), .int (hi : Nat)] ∧ Q (.lst ((M.ways s lo hi).map wayD))
theorem len__ways_on {ds : List D} {ed : Value → Prop} {Q : D → Prop} (h : wf__ways_on ds ed Q) : ds.length = 4 := by
  obtain ⟨_, _, _, _, _, _, _, rfl, _⟩ := h
  rfl
abbrev N__ways_on : List Str := ["machine", "state", "least", "most", "texts", "ways", "text", "goal"]
theorem sc__ways_on : FnScope N__ways_on ["machine", "state", "least", "most"] (defScope (topS 30)) := ⟨rfl, rfl, rfl, by decide +kernel, rfl, by decide +kernel, by decide +kernel⟩
theorem ok__ways_on {f : Addr} {fd : FuncData}  (B : Bl mg)    (F_state_behind : DFn P w K mg base "state_behind" 1 3 (wf_state_behind)) (F_strings_of : DFn P w K mg base "strings_of" 1 3 (wf_strings_of)) (F : Fun K "_ways_on" "_ways_on" (topS 30) f fd) (g : mg "_ways_on" = some (.ref f)) (b : Binds K fd ["machine", "state", "least", "most"] []) : DFn P w K mg base "_ways_on" 2 4 (wf__ways_on) := by
  exact dfn_of (N := N__ways_on) F sc__ways_on g b rfl (fun ds ed Q h => len__ways_on h) (fun cdv A outer s H E hr =>
    (dss_cons (ds_set (i := 4) (de_call F_strings_of (fun _ => ⟨rfl, rfl, rfl, rfl, rfl⟩) (fun _ => takes_of rfl rfl rfl rfl) (fun _ => hr) (da_cons (de_ix (fun _ => rfl) (dr_pv (fun _ => pv 0)) (DE.r de_int)) (da_cons (de_pv (fun _ => pv 2)) (da_cons (de_pv (fun _ => pv 3)) da_nil)))) (fun _ => sc__ways_on.nd))
    (dss_cons (ds_setLc (i := 5) (own := [("text", 6)]) (fun _ => rfl) (fun _ => sc__ways_on.nd) (di_seq (fun _ => rfl) (de_pv (fun _ => pv 4))) (dg_pg (fun _ => pg_name (i := 6) sc__ways_on.nd rfl (by first | exact Or.inl rfl | exact Or.inr rfl))) (de_tup (da_cons (de_pv (fun _ => pv 6)) (da_cons (de_call F_state_behind (fun _ => ⟨rfl, rfl, rfl, rfl, rfl⟩) (fun _ => takes0) (fun _ => hr) (da_cons (de_pv (fun _ => pv 0)) (da_cons (de_pv (fun _ => pv 1)) (da_cons (de_pv (fun _ => pv 6)) da_nil)))) da_nil))) (fun _ => blkOk_by (N := N__ways_on) (sc := defScope (topS 30)) (by decide +kernel)))
    (dss_one (ds_ret (DF.de (df_lcIf (own := [("text", 6), ("goal", 7)]) (fun _ => rfl) (fun _ => sc__ways_on.nd) (di_seq (fun _ => rfl) (de_pv (fun _ => pv 5))) (dg_tup (n := 2) (fun _ => rfl) (fun _ => rfl) (dgs_cons (dg_pg (fun _ => pg_name (i := 6) sc__ways_on.nd rfl (by first | exact Or.inl rfl | exact Or.inr rfl))) (dgs_cons (dg_pg (fun _ => pg_name (i := 7) sc__ways_on.nd rfl (by first | exact Or.inl rfl | exact Or.inr rfl))) dgs_nil))) (DX.dt (dx_notN (dr_pv (fun _ => pv 7)) (DE.r de_non))) (de_tup (da_cons (de_pv (fun _ => pv 6)) (da_cons (de_pv (fun _ => pv 7)) da_nil))) (fun _ => blkOk_by (N := N__ways_on) (sc := defScope (topS 30)) (by decide +kernel)))))))))
    (fun ds ed Q h => by
      obtain ⟨M, s, lo, hi, ok, hs, h3, rfl, hq⟩ := h
      unfold N__ways_on
      have sz : ∀ i, i ≤ 3000 → i ≤ sizeLine := fun i h => by rw [sizeLine_eq]; omega
      conv => whnf
      refine ⟨M.ls, lo, hi, rfl, ok.l3, h3, ?_⟩
      conv => whnf
      have ln := strsA_len (ls := M.ls) (lo := lo) ok.l3 h3
      refine ⟨by rw [List.length_map]; exact small_lt (by omega), .inr (by rw [List.length_map]; omega), ?_⟩
      refine compW_map (f := pairTo M s) (fun d hd R hR => ?_) ?_
      · obtain ⟨t, ht, rfl⟩ := List.mem_map.mp hd
        conv => whnf
        refine ⟨M, some s, t, ok, rfl, fun k e => by cases e; exact hs, (strsA_mem ht).2.2, ?_⟩
        conv => whnf
        exact ⟨sz _ (by show 2 ≤ 3000; decide), hR⟩
      rw [List.nil_append]
      conv => whnf
      refine ⟨by rw [List.length_map, List.length_map]; exact small_lt (by omega), .inl rfl, ?_⟩
      refine compW_filter (f := id) (t := hasTo) (fun d hd R Z h1 h2 => ?_) ?_
      · obtain ⟨d', hd', rfl⟩ := List.mem_map.mp hd
        obtain ⟨t, ht, rfl⟩ := List.mem_map.mp hd'
        conv => whnf
        refine ⟨rfl, rfl, ?_⟩
        have e : pairTo M s (wD t) = .tup [wD t, goalD (M.run (some s) t)] := rfl
        rw [e] at h1 h2
        cases hr : M.run (some s) t with
        | none =>
          rw [hr] at h1 h2
          conv => whnf
          exact ⟨rfl, fork_f rfl (h2 rfl)⟩
        | some g =>
          rw [hr] at h1 h2
          conv => whnf
          refine ⟨rfl, fork_t rfl ?_⟩
          conv => whnf
          exact ⟨sz _ (by show 2 ≤ 3000; decide), h1 rfl⟩
      · rw [ways_by, List.nil_append]
        exact hq)

theorem Kd.s_inj : ∀ {a b : Kd}, a.s = b.s → a = b := fun {a b} h => by
  have : decide (a.s = b.s) = true := decide_eq_true h
  revert this
  cases a <;> cases b <;> first | (intro _; rfl) | (intro h; exact absurd h (by decide +kernel))
def wayOf : D → Way
  | .tup [.str t, .int g] => (t.cps.toList, g.toNat)
  | _ => ([], 0)
def mvOf (F : Way → Mv) (d : D) : D := (F (wayOf d)).d
theorem ways_map (F : Way → Mv) (xs : List Way) : [] ++ (xs.map wayD).map (mvOf F) = (xs.map F).map Mv.d := by
  rw [List.nil_append, List.map_map, List.map_map]
  exact List.map_congr_left fun _ _ => rfl
def wf__moves_into_stretch : WF := fun ds ed Q => ∃ (M : Mach) (k : Kd) (s : Nat) (held : List Nat), M.Ok ∧ s < M.rows.length ∧ held.length ≤ 3 ∧ ds = [M.d, .str k.s, .int (s : Nat), wD held] ∧ Q (.lst ((M.into k s held).map Mv.d))
theorem len__moves_into_stretch {ds : List D} {ed : Value → Prop} {Q : D → Prop} (h : wf__moves_into_stretch ds ed Q) : ds.length = 4 := by
  obtain ⟨_, _, _, _, _, _, _, rfl, _⟩ := h
  rfl
abbrev N__moves_into_stretch : List Str := ["machine", "kind", "state", "held", "ways", "letter", "goal"]
theorem sc__moves_into_stretch : FnScope N__moves_into_stretch ["machine", "kind", "state", "held"] (defScope (topS 33)) := ⟨rfl, rfl, rfl, by decide +kernel, rfl, by decide +kernel, by decide +kernel⟩
theorem ok__moves_into_stretch {f : Addr} {fd : FuncData}  (B : Bl mg)    (F__ways_on : DFn P w K mg base "_ways_on" 2 4 (wf__ways_on)) (F : Fun K "_moves_into_stretch" "_moves_into_stretch" (topS 33) f fd) (g : mg "_moves_into_stretch" = some (.ref f)) (b : Binds K fd ["machine", "kind", "state", "held"] []) : DFn P w K mg base "_moves_into_stretch" 3 4 (wf__moves_into_stretch) := by
  exact dfn_of (N := N__moves_into_stretch) F sc__moves_into_stretch g b rfl (fun ds ed Q h => len__moves_into_stretch h) (fun cdv A outer s H E hr =>
    (dss_cons (ds_set (i := 4) (de_call F__ways_on (fun _ => ⟨rfl, rfl, rfl, rfl, rfl⟩) (fun _ => takes_of rfl rfl rfl rfl) (fun _ => hr) (da_cons (de_pv (fun _ => pv 0)) (da_cons (de_pv (fun _ => pv 2)) (da_cons de_int (da_cons de_int da_nil))))) (fun _ => sc__moves_into_stretch.nd))
    (dss_cons (ds_if (DX.dt (dx_eq (dr_pv (fun _ => pv 1)) (DE.r de_str))) (dss_one (ds_ret (DF.de (df_lc (own := [("letter", 5), ("goal", 6)]) (fun _ => rfl) (fun _ => sc__moves_into_stretch.nd) (di_seq (fun _ => rfl) (de_pv (fun _ => pv 4))) (dg_tup (n := 2) (fun _ => rfl) (fun _ => rfl) (dgs_cons (dg_pg (fun _ => pg_name (i := 5) sc__moves_into_stretch.nd rfl (by first | exact Or.inl rfl | exact Or.inr rfl))) (dgs_cons (dg_pg (fun _ => pg_name (i := 6) sc__moves_into_stretch.nd rfl (by first | exact Or.inl rfl | exact Or.inr rfl))) dgs_nil))) (de_tup (da_cons de_str (da_cons (de_pv (fun _ => pv 5)) (da_cons (de_tup (da_cons de_str (da_cons (de_pv (fun _ => pv 6)) (da_cons (de_addA (dr_pv (fun _ => pv 3)) (DE.r de_str)) da_nil)))) da_nil)))) (fun _ => blkOk_by (N := N__moves_into_stretch) (sc := defScope (topS 33)) (by decide +kernel)))))) dss_nil)
    (dss_one (ds_ret (DF.de (df_lc (own := [("letter", 5), ("goal", 6)]) (fun _ => rfl) (fun _ => sc__moves_into_stretch.nd) (di_seq (fun _ => rfl) (de_pv (fun _ => pv 4))) (dg_tup (n := 2) (fun _ => rfl) (fun _ => rfl) (dgs_cons (dg_pg (fun _ => pg_name (i := 5) sc__moves_into_stretch.nd rfl (by first | exact Or.inl rfl | exact Or.inr rfl))) (dgs_cons (dg_pg (fun _ => pg_name (i := 6) sc__moves_into_stretch.nd rfl (by first | exact Or.inl rfl | exact Or.inr rfl))) dgs_nil))) (de_tup (da_cons (de_pv (fun _ => pv 5)) (da_cons (de_pv (fun _ => pv 5)) (da_cons (de_tup (da_cons de_str (da_cons (de_pv (fun _ => pv 6)) (da_cons (de_addA (dr_pv (fun _ => pv 3)) (dr_pv (fun _ => pv 5))) da_nil)))) da_nil)))) (fun _ => blkOk_by (N := N__moves_into_stretch) (sc := defScope (topS 33)) (by decide +kernel)))))))))
    (fun ds ed Q h => by
      obtain ⟨M, k, s, held, ok, hs, hl, rfl, hq⟩ := h
      unfold N__moves_into_stretch
      have sz : ∀ i, i ≤ 3000 → i ≤ sizeLine := fun i h => by rw [sizeLine_eq]; omega
      conv => whnf
      refine ⟨M, s, 1, 1, ok, hs, by decide, rfl, ?_⟩
      conv => whnf
      have ln := ways_len ok (s := s) (lo := 1) (hi := 1) (by decide)
      refine fork_i (fun hf => ?_) fun hf => ?_
      · have hk : k = .faded := Kd.s_inj (of_decide_eq_true hf)
        subst hk
        conv => whnf
        refine ⟨by rw [List.length_map]; exact small_lt (by omega), .inl rfl, ?_⟩
        refine compW_map (f := mvOf fun x : Way => (⟨[63], x.1, ⟨.fading, x.2, held ++ [63]⟩⟩ : Mv)) (fun d hd R hR => ?_) ?_
        · obtain ⟨x, hx, rfl⟩ := List.mem_map.mp hd
          conv => whnf
          refine ⟨rfl, rfl, ?_⟩
          conv => whnf
          refine ⟨sz _ (by show held.length + 1 ≤ 3000; omega), ?_⟩
          rw [show Str.ofString "?" = txt [63] from rfl, txt_cat]
          conv => whnf
          refine ⟨sz _ (by show 3 ≤ 3000; decide), ?_⟩
          conv => whnf
          exact ⟨sz _ (by show 3 ≤ 3000; decide), hR⟩
        · rw [ways_map]
          exact hq
      · have hk : k ≠ .faded := fun e => by rw [e] at hf; exact absurd hf (by decide +kernel)
        have e : M.into k s held = (M.ways s 1 1).map fun x => (⟨x.1, x.1, ⟨.once, x.2, held ++ x.1⟩⟩ : Mv) := by
          unfold Mach.into
          refine List.map_congr_left fun x _ => ?_
          rw [if_neg hk]
        rw [e] at hq
        conv => whnf
        refine ⟨by rw [List.length_map]; exact small_lt (by omega), .inl rfl, ?_⟩
        refine compW_map (f := mvOf fun x : Way => (⟨x.1, x.1, ⟨.once, x.2, held ++ x.1⟩⟩ : Mv)) (fun d hd R hR => ?_) ?_
        · obtain ⟨x, hx, rfl⟩ := List.mem_map.mp hd
          have xl := (strsA_mem (ways_mem hx).1).2.1
          conv => whnf
          refine ⟨rfl, rfl, ?_⟩
          conv => whnf
          refine ⟨sz _ (by show held.length + x.1.length ≤ 3000; omega), ?_⟩
          rw [txt_cat]
          conv => whnf
          refine ⟨sz _ (by show 3 ≤ 3000; decide), ?_⟩
          conv => whnf
          exact ⟨sz _ (by show 3 ≤ 3000; decide), hR⟩
        · rw [ways_map]
          exact hq)

end
end T

namespace T
open PySem PySem.Spec PyProof.Rows L2 DL
section
variable {P : Program} {w : World} {K : Fg} {mg : Str → Option Value} {base : Heap}
theorem into_len {M : Mach} (ok : M.Ok) {k : Kd} {s : Nat} {held : List Nat} : (M.into k s held).length ≤ 108 := by
  unfold Mach.into
  rw [List.length_map]
  exact ways_len ok (by decide)
def wf__moves_of_whole : WF := fun ds ed Q => ∃ (M : Mach) (R : Rule) (s : Nat), M.Ok ∧ R.Ok ∧ s < M.rows.length ∧ ds = [M.d, R.d, .int (s : Nat)] ∧ Q (.lst ((M.mvWhole R s).map Mv.d))
theorem len__moves_of_whole {ds : List D} {ed : Value → Prop} {Q : D → Prop} (h : wf__moves_of_whole ds ed Q) : ds.length = 3 := by
  obtain ⟨_, _, _, _, _, _, rfl, _⟩ := h
  rfl
abbrev N__moves_of_whole : List Str := ["machine", "rule", "state", "kind", "least", "most", "found", "sign", "letter", "goal", "text"]
theorem sc__moves_of_whole : FnScope N__moves_of_whole ["machine", "rule", "state"] (defScope (topS 31)) := ⟨rfl, rfl, rfl, by decide +kernel, rfl, by decide +kernel, by decide +kernel⟩
theorem ok__moves_of_whole {f : Addr} {fd : FuncData}  (B : Bl mg)    (F__moves_into_stretch : DFn P w K mg base "_moves_into_stretch" 3 4 (wf__moves_into_stretch)) (F__ways_on : DFn P w K mg base "_ways_on" 2 4 (wf__ways_on)) (F : Fun K "_moves_of_whole" "_moves_of_whole" (topS 31) f fd) (g : mg "_moves_of_whole" = some (.ref f)) (b : Binds K fd ["machine", "rule", "state"] []) : DFn P w K mg base "_moves_of_whole" 4 3 (wf__moves_of_whole) := by
  exact dfn_of (N := N__moves_of_whole) F sc__moves_of_whole g b rfl (fun ds ed Q h => len__moves_of_whole h) (fun cdv A outer s H E hr =>
    (dss_cons (ds_asgT (de_pv (fun _ => pv 1)) (dg_tup (n := 3) (fun _ => rfl) (fun _ => rfl) (dgs_cons (dg_pg (fun _ => pg_name (i := 3) sc__moves_of_whole.nd rfl (.inl rfl))) (dgs_cons (dg_pg (fun _ => pg_name (i := 4) sc__moves_of_whole.nd rfl (.inl rfl))) (dgs_cons (dg_pg (fun _ => pg_name (i := 5) sc__moves_of_whole.nd rfl (.inl rfl))) dgs_nil)))))
    (dss_cons (ds_setLcO (i := 6) (own := [("letter", 8), ("goal", 9)]) (fun _ => rfl) (fun _ => sc__moves_of_whole.nd) (di_seq (fun _ => rfl) (de_call F__ways_on (fun _ => ⟨rfl, rfl, rfl, rfl, rfl⟩) (fun _ => takes_of rfl rfl rfl rfl) (fun _ => hr) (da_cons (de_pv (fun _ => pv 0)) (da_cons (de_pv (fun _ => pv 2)) (da_cons de_int (da_cons de_int da_nil)))))) (dg_tup (n := 2) (fun _ => rfl) (fun _ => rfl) (dgs_cons (dg_pg (fun _ => pg_name (i := 8) sc__moves_of_whole.nd rfl (by first | exact Or.inl rfl | exact Or.inr rfl))) (dgs_cons (dg_pg (fun _ => pg_name (i := 9) sc__moves_of_whole.nd rfl (by first | exact Or.inl rfl | exact Or.inr rfl))) dgs_nil))) (de_tup (da_cons (de_pv (fun _ => pv 8)) (da_cons (de_pv (fun _ => pv 8)) (da_cons (de_tup (da_cons de_str (da_cons (de_pv (fun _ => pv 9)) (da_cons de_str da_nil)))) da_nil)))) (fun _ => blkOk_by (N := N__moves_of_whole) (sc := defScope (topS 31)) (by decide +kernel)))
    (dss_cons (ds_if (DW.dt (dw_or (DX.dt (dx_eq (dr_pv (fun _ => pv 3)) (DE.r de_str))) (dw_or1 (DX.dt (dx_eq (dr_pv (fun _ => pv 3)) (DE.r de_str)))))) (dss_cons (ds_set (i := 7) (de_if (DX.dt (dx_eq (dr_pv (fun _ => pv 3)) (DE.r de_str))) de_str de_str) (fun _ => sc__moves_of_whole.nd))
    (dss_cons (ds_extend (i := 6) (fun _ => rfl) (fun _ => pv 6) (DF.de (df_lc (own := [("text", 10), ("goal", 9)]) (fun _ => rfl) (fun _ => sc__moves_of_whole.nd) (di_seq (fun _ => rfl) (de_call F__ways_on (fun _ => ⟨rfl, rfl, rfl, rfl, rfl⟩) (fun _ => takes_of rfl rfl rfl rfl) (fun _ => hr) (da_cons (de_pv (fun _ => pv 0)) (da_cons (de_pv (fun _ => pv 2)) (da_cons (de_pv (fun _ => pv 4)) (da_cons (de_pv (fun _ => pv 5)) da_nil)))))) (dg_tup (n := 2) (fun _ => rfl) (fun _ => rfl) (dgs_cons (dg_pg (fun _ => pg_name (i := 10) sc__moves_of_whole.nd rfl (by first | exact Or.inl rfl | exact Or.inr rfl))) (dgs_cons (dg_pg (fun _ => pg_name (i := 9) sc__moves_of_whole.nd rfl (by first | exact Or.inl rfl | exact Or.inr rfl))) dgs_nil))) (de_tup (da_cons (de_pv (fun _ => pv 7)) (da_cons (de_pv (fun _ => pv 10)) (da_cons (de_tup (da_cons de_str (da_cons (de_pv (fun _ => pv 9)) (da_cons de_str da_nil)))) da_nil)))) (fun _ => blkOk_by (N := N__moves_of_whole) (sc := defScope (topS 31)) (by decide +kernel)))))
    (dss_one (ds_ret (de_pv (fun _ => pv 6)))))) dss_nil)
    (dss_cons (ds_if (DX.dt (dx_gt (dr_pv (fun _ => pv 5)) (DE.r de_int))) (dss_one (ds_extend (i := 6) (fun _ => rfl) (fun _ => pv 6) (de_call F__moves_into_stretch (fun _ => ⟨rfl, rfl, rfl, rfl, rfl⟩) (fun _ => takes_of rfl rfl rfl rfl) (fun _ => hr) (da_cons (de_pv (fun _ => pv 0)) (da_cons (de_pv (fun _ => pv 3)) (da_cons (de_pv (fun _ => pv 2)) (da_cons de_str da_nil))))))) dss_nil)
    (dss_cons (ds_if (DX.dt (dx_eq (dr_pv (fun _ => pv 4)) (DE.r de_int))) (dss_one (ds_append (i := 6) (fun _ => rfl) (fun _ => pv 6) (de_tup (da_cons de_str (da_cons de_str (da_cons (de_tup (da_cons de_str (da_cons (de_pv (fun _ => pv 2)) (da_cons de_str da_nil)))) da_nil)))))) dss_nil)
    (dss_one (ds_ret (de_pv (fun _ => pv 6))))))))))
    (fun ds ed Q h => by
      obtain ⟨M, R, s, ok, okR, hs, rfl, hq⟩ := h
      have hi3 := okR.hi3
      unfold N__moves_of_whole
      have sz : ∀ i, i ≤ 3000 → i ≤ sizeLine := fun i h => by rw [sizeLine_eq]; omega
      conv => whnf
      refine ⟨rfl, rfl, ?_⟩
      conv => whnf
      refine ⟨M, s, 1, 1, ok, hs, by decide, rfl, ?_⟩
      have ln := ways_len ok (s := s) (lo := 1) (hi := 1) (by decide)
      conv => whnf
      refine ⟨by rw [List.length_map]; exact small_lt (by omega), .inl rfl, ?_⟩
      refine compW_map (f := mvOf fun x : Way => (⟨x.1, x.1, ⟨.whole, x.2, []⟩⟩ : Mv)) (fun d hd R hR => ?_) ?_
      · obtain ⟨x, hx, rfl⟩ := List.mem_map.mp hd
        conv => whnf
        refine ⟨rfl, rfl, ?_⟩
        conv => whnf
        refine ⟨sz _ (by show 3 ≤ 3000; decide), ?_⟩
        conv => whnf
        exact ⟨sz _ (by show 3 ≤ 3000; decide), hR⟩
      rw [ways_map]
      unfold Mach.mvWhole at hq
      have lA : ((M.ways s 1 1).map fun x => (⟨x.1, x.1, ⟨.whole, x.2, []⟩⟩ : Mv)).length ≤ 108 := by rw [List.length_map]; exact ln
      generalize ((M.ways s 1 1).map fun x => (⟨x.1, x.1, ⟨.whole, x.2, []⟩⟩ : Mv)) = A at hq lA ⊢
      have lW := ways_len ok (s := s) (lo := R.lo) (hi := R.hi) hi3
      have lI := fun k held => into_len ok (k := k) (s := s) (held := held)
      rcases R with ⟨k, lo, hi⟩
      cases k with
      | «open» =>
        rw [if_pos (.inl rfl)] at hq
        conv => whnf
        refine fork_t rfl (fork_t rfl ?_)
        conv => whnf
        refine fork_t rfl ?_
        conv => whnf
        refine ⟨M, s, lo, hi, ok, hs, hi3, rfl, ?_⟩
        conv => whnf
        refine ⟨by rw [List.length_map]; exact small_lt (Nat.le_trans lW (by decide)), .inl rfl, ?_⟩
        refine compW_map (f := mvOf fun x : Way => (⟨[42], x.1, ⟨.torn, x.2, []⟩⟩ : Mv)) (fun d hd R hR => ?_) ?_
        · obtain ⟨x, hx, rfl⟩ := List.mem_map.mp hd
          conv => whnf
          refine ⟨rfl, rfl, ?_⟩
          conv => whnf
          refine ⟨sz _ (by show 3 ≤ 3000; decide), ?_⟩
          conv => whnf
          exact ⟨sz _ (by show 3 ≤ 3000; decide), hR⟩
        rw [ways_map]
        conv => whnf
        refine ⟨sz _ (by rw [List.length_map, List.length_map, List.length_map]; exact Nat.le_trans (Nat.add_le_add lA lW) (by decide)), ?_⟩
        rw [← List.map_append]
        exact hq
      | closed =>
        rw [if_pos (.inr rfl)] at hq
        conv => whnf
        refine fork_f rfl ?_
        conv => whnf
        refine fork_t rfl ?_
        conv => whnf
        refine fork_f rfl ?_
        conv => whnf
        refine ⟨M, s, lo, hi, ok, hs, hi3, rfl, ?_⟩
        conv => whnf
        refine ⟨by rw [List.length_map]; exact small_lt (Nat.le_trans lW (by decide)), .inl rfl, ?_⟩
        refine compW_map (f := mvOf fun x : Way => (⟨[], x.1, ⟨.torn, x.2, []⟩⟩ : Mv)) (fun d hd R hR => ?_) ?_
        · obtain ⟨x, hx, rfl⟩ := List.mem_map.mp hd
          conv => whnf
          refine ⟨rfl, rfl, ?_⟩
          conv => whnf
          refine ⟨sz _ (by show 3 ≤ 3000; decide), ?_⟩
          conv => whnf
          exact ⟨sz _ (by show 3 ≤ 3000; decide), hR⟩
        rw [ways_map]
        conv => whnf
        refine ⟨sz _ (by rw [List.length_map, List.length_map, List.length_map]; exact Nat.le_trans (Nat.add_le_add lA lW) (by decide)), ?_⟩
        rw [← List.map_append]
        exact hq
      | faded =>
        rw [if_neg (fun h => h.elim (fun h => nomatch h) fun h => nomatch h)] at hq
        conv => whnf
        refine fork_f rfl ?_
        conv => whnf
        refine fork_f rfl ?_
        conv => whnf
        refine fork_i (fun h0 => ?_) fun h0 => ?_
        have h0 : (0 : Int) < (hi : Int) := of_decide_eq_true h0
        have h0 : 0 < hi := by omega
        rw [if_pos h0] at hq
        conv => whnf
        refine ⟨M, _, s, [], ok, hs, by decide, rfl, ?_⟩
        conv => whnf
        refine ⟨sz _ (by rw [List.length_map, List.length_map]; exact Nat.le_trans (Nat.add_le_add lA (lI _ _)) (by decide)), ?_⟩
        rw [← List.map_append]
        rw [← List.append_assoc] at hq
        have lB : (A ++ M.into .faded s []).length ≤ 300 := by rw [List.length_append]; exact Nat.le_trans (Nat.add_le_add lA (lI _ _)) (by decide)
        replace hq : Q (.lst (((A ++ M.into .faded s []) ++ if lo = 0 then [(⟨[], [], ⟨.torn, s, []⟩⟩ : Mv)] else []).map Mv.d)) := hq
        generalize A ++ M.into .faded s [] = B at hq lB ⊢
        rotate_left
        have h0 : ¬ (0 : Int) < (hi : Int) := of_decide_eq_false h0
        have h0 : ¬ 0 < hi := by omega
        rw [if_neg h0, List.nil_append] at hq
        have lB : A.length ≤ 300 := Nat.le_trans lA (by decide)
        replace hq : Q (.lst ((A ++ if lo = 0 then [(⟨[], [], ⟨.torn, s, []⟩⟩ : Mv)] else []).map Mv.d)) := hq
        clear lA
        obtain ⟨B, rfl⟩ : ∃ B, B = A := ⟨A, rfl⟩
        all_goals
          conv => whnf
          refine fork_i (fun h1 => ?_) fun h1 => ?_
          · have h1 : (lo : Int) = 0 := of_decide_eq_true h1
            obtain rfl : lo = 0 := by omega
            conv => whnf
            refine ⟨by rw [List.length_map]; exact small_lt (by omega), ?_⟩
            conv => whnf
            refine ⟨sz _ (by show 3 ≤ 3000; decide), ?_⟩
            conv => whnf
            refine ⟨sz _ (by show 3 ≤ 3000; decide), ?_⟩
            rw [if_pos rfl, List.map_append] at hq
            exact hq
          · have h1 : ¬ (lo : Int) = 0 := of_decide_eq_false h1
            have h1 : ¬ lo = 0 := by omega
            rw [if_neg h1, List.append_nil] at hq
            conv => whnf
            exact hq
      | doubled =>
        rw [if_neg (fun h => h.elim (fun h => nomatch h) fun h => nomatch h)] at hq
        conv => whnf
        refine fork_f rfl ?_
        conv => whnf
        refine fork_f rfl ?_
        conv => whnf
        refine fork_i (fun h0 => ?_) fun h0 => ?_
        have h0 : (0 : Int) < (hi : Int) := of_decide_eq_true h0
        have h0 : 0 < hi := by omega
        rw [if_pos h0] at hq
        conv => whnf
        refine ⟨M, _, s, [], ok, hs, by decide, rfl, ?_⟩
        conv => whnf
        refine ⟨sz _ (by rw [List.length_map, List.length_map]; exact Nat.le_trans (Nat.add_le_add lA (lI _ _)) (by decide)), ?_⟩
        rw [← List.map_append]
        rw [← List.append_assoc] at hq
        have lB : (A ++ M.into .doubled s []).length ≤ 300 := by rw [List.length_append]; exact Nat.le_trans (Nat.add_le_add lA (lI _ _)) (by decide)
        replace hq : Q (.lst (((A ++ M.into .doubled s []) ++ if lo = 0 then [(⟨[], [], ⟨.torn, s, []⟩⟩ : Mv)] else []).map Mv.d)) := hq
        generalize A ++ M.into .doubled s [] = B at hq lB ⊢
        rotate_left
        have h0 : ¬ (0 : Int) < (hi : Int) := of_decide_eq_false h0
        have h0 : ¬ 0 < hi := by omega
        rw [if_neg h0, List.nil_append] at hq
        have lB : A.length ≤ 300 := Nat.le_trans lA (by decide)
        replace hq : Q (.lst ((A ++ if lo = 0 then [(⟨[], [], ⟨.torn, s, []⟩⟩ : Mv)] else []).map Mv.d)) := hq
        clear lA
        obtain ⟨B, rfl⟩ : ∃ B, B = A := ⟨A, rfl⟩
        all_goals
          conv => whnf
          refine fork_i (fun h1 => ?_) fun h1 => ?_
          · have h1 : (lo : Int) = 0 := of_decide_eq_true h1
            obtain rfl : lo = 0 := by omega
            conv => whnf
            refine ⟨by rw [List.length_map]; exact small_lt (by omega), ?_⟩
            conv => whnf
            refine ⟨sz _ (by show 3 ≤ 3000; decide), ?_⟩
            conv => whnf
            refine ⟨sz _ (by show 3 ≤ 3000; decide), ?_⟩
            rw [if_pos rfl, List.map_append] at hq
            exact hq
          · have h1 : ¬ (lo : Int) = 0 := of_decide_eq_false h1
            have h1 : ¬ lo = 0 := by omega
            rw [if_neg h1, List.append_nil] at hq
            conv => whnf
            exact hq)

def wf__moves_within_stretch : WF := fun ds ed Q => ∃ (M : Mach) (R : Rule) (S : Sd), M.Ok ∧ R.Ok ∧ S.st < M.rows.length ∧ S.held.length ≤ 3 ∧ (R.k = .faded ∨ R.k = .doubled) ∧ ds = [M.d, R.d, S.d] ∧ Q (.lst ((M.mvIn R S.st S.held).map Mv.d))
theorem len__moves_within_stretch {ds : List D} {ed : Value → Prop} {Q : D → Prop} (h : wf__moves_within_stretch ds ed Q) : ds.length = 3 := by
  obtain ⟨_, _, _, _, _, _, _, _, rfl, _⟩ := h
  rfl
abbrev N__moves_within_stretch : List Str := ["machine", "rule", "side", "kind", "least", "most", "_", "state", "held", "found", "goal"]
theorem sc__moves_within_stretch : FnScope N__moves_within_stretch ["machine", "rule", "side"] (defScope (topS 32)) := ⟨rfl, rfl, rfl, by decide +kernel, rfl, by decide +kernel, by decide +kernel⟩
theorem ok__moves_within_stretch {f : Addr} {fd : FuncData}  (B : Bl mg)    (F__moves_into_stretch : DFn P w K mg base "_moves_into_stretch" 3 4 (wf__moves_into_stretch)) (F : Fun K "_moves_within_stretch" "_moves_within_stretch" (topS 32) f fd) (g : mg "_moves_within_stretch" = some (.ref f)) (b : Binds K fd ["machine", "rule", "side"] []) : DFn P w K mg base "_moves_within_stretch" 4 3 (wf__moves_within_stretch) := by
  exact dfn_of (N := N__moves_within_stretch) F sc__moves_within_stretch g b rfl (fun ds ed Q h => len__moves_within_stretch h) (fun cdv A outer s H E hr =>
    (dss_cons (ds_asgT (de_pv (fun _ => pv 1)) (dg_tup (n := 3) (fun _ => rfl) (fun _ => rfl) (dgs_cons (dg_pg (fun _ => pg_name (i := 3) sc__moves_within_stretch.nd rfl (.inl rfl))) (dgs_cons (dg_pg (fun _ => pg_name (i := 4) sc__moves_within_stretch.nd rfl (.inl rfl))) (dgs_cons (dg_pg (fun _ => pg_name (i := 5) sc__moves_within_stretch.nd rfl (.inl rfl))) dgs_nil)))))
    (dss_cons (ds_asgT (de_pv (fun _ => pv 2)) (dg_tup (n := 3) (fun _ => rfl) (fun _ => rfl) (dgs_cons (dg_pg (fun _ => pg_name (i := 6) sc__moves_within_stretch.nd rfl (.inl rfl))) (dgs_cons (dg_pg (fun _ => pg_name (i := 7) sc__moves_within_stretch.nd rfl (.inl rfl))) (dgs_cons (dg_pg (fun _ => pg_name (i := 8) sc__moves_within_stretch.nd rfl (.inl rfl))) dgs_nil)))))
    (dss_cons (ds_setO (i := 9) (df_lst da_nil) (fun _ => sc__moves_within_stretch.nd))
    (dss_cons (ds_if (DX.dt (dx_ltS (DE.r (de_len (fun _ => rfl) (fun _ => B.len) (db_cons (dr_pv (fun _ => pv 8)) db_nil))) (dr_pv (fun _ => pv 5)))) (dss_one (ds_extend (i := 9) (fun _ => rfl) (fun _ => pv 9) (de_call F__moves_into_stretch (fun _ => ⟨rfl, rfl, rfl, rfl, rfl⟩) (fun _ => takes_of rfl rfl rfl rfl) (fun _ => hr) (da_cons (de_pv (fun _ => pv 0)) (da_cons (de_pv (fun _ => pv 3)) (da_cons (de_pv (fun _ => pv 7)) (da_cons (de_pv (fun _ => pv 8)) da_nil))))))) dss_nil)
    (dss_cons (ds_if (DX.dt (dx_ge (DE.r (de_len (fun _ => rfl) (fun _ => B.len) (db_cons (dr_pv (fun _ => pv 8)) db_nil))) (dr_pv (fun _ => pv 4)))) (dss_cons (ds_set (i := 10) (de_if (DX.dt (dx_eq (dr_pv (fun _ => pv 3)) (DE.r de_str))) (de_tup (da_cons de_str (da_cons (de_pv (fun _ => pv 7)) (da_cons de_str da_nil)))) (de_tup (da_cons de_str (da_cons (de_pv (fun _ => pv 7)) (da_cons (de_pv (fun _ => pv 8)) da_nil))))) (fun _ => sc__moves_within_stretch.nd))
    (dss_one (ds_append (i := 9) (fun _ => rfl) (fun _ => pv 9) (de_tup (da_cons de_str (da_cons de_str (da_cons (de_pv (fun _ => pv 10)) da_nil))))))) dss_nil)
    (dss_one (ds_ret (de_pv (fun _ => pv 9))))))))))
    (fun ds ed Q h => by
      obtain ⟨M, R, ⟨ph, s, held⟩, ok, okR, hs, hl, hk, rfl, hq⟩ := h
      have hi3 := okR.hi3
      have hl : held.length ≤ 3 := hl
      have hs : s < M.rows.length := hs
      unfold N__moves_within_stretch
      have sz : ∀ i, i ≤ 3000 → i ≤ sizeLine := fun i h => by rw [sizeLine_eq]; omega
      conv => whnf
      refine ⟨rfl, rfl, ?_⟩
      conv => whnf
      refine ⟨rfl, rfl, ?_⟩
      conv => whnf
      refine ⟨sz _ (by show 0 ≤ 3000; decide), ?_⟩
      conv => whnf
      have lI := into_len ok (k := R.k) (s := s) (held := held)
      have lH : (txt held).length ≤ sizeLine := sz _ (by show held.length ≤ 3000; omega)
      replace hq : Q (.lst ((M.mvIn R s held).map Mv.d)) := hq
      unfold Mach.mvIn at hq
      refine ⟨lH, ?_⟩
      conv => whnf
      refine fork_i (fun h0 => ?_) fun h0 => ?_
      have h0 : (held.length : Int) < (R.hi : Int) := of_decide_eq_true h0
      rw [if_pos (by omega : held.length < R.hi)] at hq
      conv => whnf
      refine ⟨M, R.k, s, held, ok, hs, hl, rfl, ?_⟩
      conv => whnf
      refine ⟨sz _ (by rw [List.length_map]; exact Nat.le_trans (Nat.add_le_add (Nat.le_refl 0) lI) (by decide)), ?_⟩
      rw [List.nil_append]
      rotate_left
      have h0 : ¬ (held.length : Int) < (R.hi : Int) := of_decide_eq_false h0
      rw [if_neg (by omega : ¬ held.length < R.hi)] at hq
      all_goals
        conv => whnf
        refine ⟨lH, ?_⟩
        conv => whnf
        refine fork_i (fun h1 => ?_) fun h1 => ?_
        · have h1 : (R.lo : Int) ≤ (held.length : Int) := of_decide_eq_true h1
          rw [if_pos (by omega : R.lo ≤ held.length)] at hq
          conv => whnf
          refine fork_i (fun hf => ?_) fun hf => ?_
          · have hkf : R.k = .faded := Kd.s_inj (of_decide_eq_true hf)
            rw [if_pos hkf, List.map_append] at hq
            conv => whnf
            refine ⟨sz _ (by show 3 ≤ 3000; decide), ?_⟩
            conv => whnf
            refine ⟨by first | (rw [List.length_map]; exact small_lt (by omega)) | exact small_lt (by show 0 ≤ 100000; decide), ?_⟩
            conv => whnf
            refine ⟨sz _ (by show 3 ≤ 3000; decide), ?_⟩
            exact hq
          · have hkf : R.k ≠ .faded := fun e => by rw [e] at hf; exact absurd hf (by decide +kernel)
            rw [if_neg hkf, List.map_append] at hq
            conv => whnf
            refine ⟨sz _ (by show 3 ≤ 3000; decide), ?_⟩
            conv => whnf
            refine ⟨by first | (rw [List.length_map]; exact small_lt (by omega)) | exact small_lt (by show 0 ≤ 100000; decide), ?_⟩
            conv => whnf
            refine ⟨sz _ (by show 3 ≤ 3000; decide), ?_⟩
            exact hq
        · have h1 : ¬ (R.lo : Int) ≤ (held.length : Int) := of_decide_eq_false h1
          rw [if_neg (by omega : ¬ R.lo ≤ held.length), List.append_nil] at hq
          conv => whnf
          exact hq)

end
end T

namespace T
open PySem PySem.Spec PyProof.Rows L2 DL
section
variable {P : Program} {w : World} {K : Fg} {mg : Str → Option Value} {base : Heap}
/-! ### moves in order -/
def Mv.p (m : Mv) : PyData := .tuple [.str (txt m.sign), .str (txt m.text), .tuple [.str m.to.ph.s, .int (m.to.st : Nat), .str (txt m.to.held)]]
theorem py_mvs (ms : List Mv) : pyDs (ms.map Mv.d) = some (ms.map Mv.p) := pyDs_atoms Mv.d Mv.p (fun _ => rfl) ms
theorem ok_mvs (ms : List Mv) : SortOk (ms.map Mv.p) := by
  refine ⟨fun a ha b hb => ?_, PySem.W.Sortable.tuples fun _ => ⟨_, _, rfl⟩, fun p hp => ?_⟩
  · obtain ⟨x, _, rfl⟩ := List.mem_map.mp ha
    obtain ⟨y, _, rfl⟩ := List.mem_map.mp hb
    simp [Mv.p, PySem.W.alike, PySem.W.alikeAll]
  · obtain ⟨x, _, rfl⟩ := List.mem_map.mp hp
    simp [Mv.p, PyData.depth, PyData.depthAll]
def Sd.tw (S : Sd) : Mv := if S.held.length = 1 then ⟨S.held, [], ⟨.torn, S.st, []⟩⟩ else ⟨S.held.take 1, [], ⟨.twice, S.st, S.held.drop 1⟩⟩
def Mach.mvTorn (M : Mach) (s : Nat) : List Mv := (M.ways s 1 1).map fun x => ⟨x.1, x.1, ⟨.torn, x.2, []⟩⟩
def Mach.mvs (M : Mach) (R : Rule) (S : Sd) : List D := match S.ph with
  | .whole => sortD ((M.mvWhole R S.st).map Mv.d)
  | .twice => [S.tw.d]
  | .torn => (M.mvTorn S.st).map Mv.d
  | _ => sortD ((M.mvIn R S.st S.held).map Mv.d)
structure Sd.Ok (M : Mach) (R : Rule) (S : Sd) : Prop where
  st : S.st < M.rows.length
  h3 : S.held.length ≤ R.hi
  ph : match S.ph with
    | .whole => S.held = []
    | .torn => S.held = []
    | .fading => R.k = .faded ∧ 1 ≤ S.held.length ∧ S.held = List.replicate S.held.length 63
    | _ => R.k = .doubled ∧ 1 ≤ S.held.length ∧ ∀ c ∈ S.held, c ∈ M.ls
def wf__moves : WFN := fun ds ed Q => ∃ (M : Mach) (R : Rule) (S : Sd), M.Ok ∧ R.Ok ∧ S.Ok M R ∧ ds = [M.d, R.d, S.d] ∧ Q (M.mvs R S)
theorem len__moves {ds : List D} {ed : Value → Prop} {Q : List D → Prop} (h : wf__moves ds ed Q) : ds.length = 3 := by
  obtain ⟨_, _, _, _, _, _, rfl, _⟩ := h
  rfl
abbrev N__moves : List Str := ["machine", "rule", "side", "phase", "state", "held", "letter", "goal"]
theorem sc__moves : FnScope N__moves ["machine", "rule", "side"] (defScope (topS 29)) := ⟨rfl, rfl, rfl, by decide +kernel, rfl, by decide +kernel, by decide +kernel⟩
theorem ok__moves {f : Addr} {fd : FuncData}  (B : Bl mg)    (F__moves_of_whole : DFn P w K mg base "_moves_of_whole" 4 3 (wf__moves_of_whole)) (F__moves_within_stretch : DFn P w K mg base "_moves_within_stretch" 4 3 (wf__moves_within_stretch)) (F__ways_on : DFn P w K mg base "_ways_on" 2 4 (wf__ways_on)) (F : Fun K "_moves" "_moves" (topS 29) f fd) (g : mg "_moves" = some (.ref f)) (b : Binds K fd ["machine", "rule", "side"] []) : DFnN P w K mg base "_moves" 5 3 (wf__moves) := by
  exact dfnN_of (N := N__moves) F sc__moves g b rfl (fun ds ed Q h => len__moves h) (fun cdv A outer s H E hr =>
    (dss_cons (ds_asgT (de_pv (fun _ => pv 2)) (dg_tup (n := 3) (fun _ => rfl) (fun _ => rfl) (dgs_cons (dg_pg (fun _ => pg_name (i := 3) sc__moves.nd rfl (.inl rfl))) (dgs_cons (dg_pg (fun _ => pg_name (i := 4) sc__moves.nd rfl (.inl rfl))) (dgs_cons (dg_pg (fun _ => pg_name (i := 5) sc__moves.nd rfl (.inl rfl))) dgs_nil)))))
    (dss_cons (ds_if (DX.dt (dx_eq (dr_pv (fun _ => pv 3)) (DE.r de_str))) (dss_one (ds_retF (df_sort (fun _ => rfl) (fun _ => rfl) (fun _ => hr) (fun _ => B.sorted) (db_cons (DE.r (de_call F__moves_of_whole (fun _ => ⟨rfl, rfl, rfl, rfl, rfl⟩) (fun _ => takes_of rfl rfl rfl rfl) (fun _ => hr) (da_cons (de_pv (fun _ => pv 0)) (da_cons (de_pv (fun _ => pv 1)) (da_cons (de_pv (fun _ => pv 4)) da_nil))))) db_nil)))) dss_nil)
    (dss_cons (ds_if (DX.dt (dx_eq (dr_pv (fun _ => pv 3)) (DE.r de_str))) (dss_cons (ds_if (DX.dt (dx_eq (DE.r (de_len (fun _ => rfl) (fun _ => B.len) (db_cons (dr_pv (fun _ => pv 5)) db_nil))) (DE.r de_int))) (dss_one (ds_retF (df_lst (da_cons (de_tup (da_cons (de_pv (fun _ => pv 5)) (da_cons de_str (da_cons (de_tup (da_cons de_str (da_cons (de_pv (fun _ => pv 4)) (da_cons de_str da_nil)))) da_nil)))) da_nil)))) dss_nil)
    (dss_one (ds_retF (df_lst (da_cons (de_tup (da_cons (de_ix (fun _ => rfl) (dr_pv (fun _ => pv 5)) (DE.r de_int)) (da_cons de_str (da_cons (de_tup (da_cons de_str (da_cons (de_pv (fun _ => pv 4)) (da_cons (de_sl (fun _ => rfl) (dr_pv (fun _ => pv 5)) (do_some de_int) do_none) da_nil)))) da_nil)))) da_nil))))) dss_nil)
    (dss_cons (ds_if (DX.dt (dx_eq (dr_pv (fun _ => pv 3)) (DE.r de_str))) (dss_one (ds_retF (df_lc (own := [("letter", 6), ("goal", 7)]) (fun _ => rfl) (fun _ => sc__moves.nd) (di_seq (fun _ => rfl) (de_call F__ways_on (fun _ => ⟨rfl, rfl, rfl, rfl, rfl⟩) (fun _ => takes_of rfl rfl rfl rfl) (fun _ => hr) (da_cons (de_pv (fun _ => pv 0)) (da_cons (de_pv (fun _ => pv 4)) (da_cons de_int (da_cons de_int da_nil)))))) (dg_tup (n := 2) (fun _ => rfl) (fun _ => rfl) (dgs_cons (dg_pg (fun _ => pg_name (i := 6) sc__moves.nd rfl (by first | exact Or.inl rfl | exact Or.inr rfl))) (dgs_cons (dg_pg (fun _ => pg_name (i := 7) sc__moves.nd rfl (by first | exact Or.inl rfl | exact Or.inr rfl))) dgs_nil))) (de_tup (da_cons (de_pv (fun _ => pv 6)) (da_cons (de_pv (fun _ => pv 6)) (da_cons (de_tup (da_cons de_str (da_cons (de_pv (fun _ => pv 7)) (da_cons de_str da_nil)))) da_nil)))) (fun _ => blkOk_by (N := N__moves) (sc := defScope (topS 29)) (by decide +kernel))))) dss_nil)
    (dss_one (ds_retF (df_sort (fun _ => rfl) (fun _ => rfl) (fun _ => hr) (fun _ => B.sorted) (db_cons (DE.r (de_call F__moves_within_stretch (fun _ => ⟨rfl, rfl, rfl, rfl, rfl⟩) (fun _ => takes_of rfl rfl rfl rfl) (fun _ => hr) (da_cons (de_pv (fun _ => pv 0)) (da_cons (de_pv (fun _ => pv 1)) (da_cons (de_pv (fun _ => pv 2)) da_nil))))) db_nil)))))))))
    (fun ds ed Q h => by
      obtain ⟨M, R, ⟨ph, s, held⟩, ok, okR, okS, rfl, hq⟩ := h
      have hi3 := okR.hi3
      have hl : held.length ≤ 3 := Nat.le_trans okS.h3 hi3
      have hs : s < M.rows.length := okS.st
      have hph := okS.ph
      unfold N__moves
      have sz : ∀ i, i ≤ 3000 → i ≤ sizeLine := fun i h => by rw [sizeLine_eq]; omega
      conv => whnf
      refine ⟨rfl, rfl, ?_⟩
      have lW := ways_len ok (s := s) (lo := 1) (hi := 1) (by decide)
      cases ph with
      | whole =>
        conv => whnf
        refine fork_t rfl ?_
        conv => whnf
        refine ⟨M, R, s, ok, okR, hs, rfl, ?_⟩
        conv => whnf
        rw [py_mvs]
        exact ⟨ok_mvs _, hq⟩
      | twice =>
        obtain ⟨hk, h1, hin⟩ : R.k = .doubled ∧ 1 ≤ held.length ∧ ∀ c ∈ held, c ∈ M.ls := hph
        replace hq : Q [(Sd.tw ⟨.twice, s, held⟩).d] := hq
        conv => whnf
        refine fork_f rfl ?_
        conv => whnf
        refine fork_t rfl ?_
        conv => whnf
        refine ⟨sz _ (by show held.length ≤ 3000; omega), ?_⟩
        conv => whnf
        refine fork_i (fun h2 => ?_) fun h2 => ?_
        · have h2 : (held.length : Int) = 1 := of_decide_eq_true h2
          rw [show Sd.tw ⟨.twice, s, held⟩ = ⟨held, [], ⟨.torn, s, []⟩⟩ from if_pos (by show held.length = 1; omega)] at hq
          conv => whnf
          refine ⟨sz _ (by show 3 ≤ 3000; decide), ?_⟩
          conv => whnf
          refine ⟨sz _ (by show 3 ≤ 3000; decide), ?_⟩
          conv => whnf
          exact ⟨sz _ (by show 1 ≤ 3000; decide), hq⟩
        · have h2 : ¬ (held.length : Int) = 1 := of_decide_eq_false h2
          rw [show Sd.tw ⟨.twice, s, held⟩ = ⟨held.take 1, [], ⟨.twice, s, held.drop 1⟩⟩ from if_neg (by show ¬ held.length = 1; omega)] at hq
          have lH : (txt held).length ≤ sizeLine := sz _ (by show held.length ≤ 3000; omega)
          cases held with
          | nil => exact absurd h1 (by decide)
          | cons c0 r =>
            conv => whnf
            refine ⟨lH, ?_⟩
            rw [show atI (txt (Sd.held ⟨.twice, s, c0 :: r⟩)).cps.toList 0 = some c0 from atI_nat (j := 0) (show (c0 :: r)[0]? = some c0 from rfl)]
            conv => whnf
            refine ⟨lH, ?_⟩
            rw [show (1 : Int) = ((1 : Nat) : Int) from rfl, cut_from]
            conv => whnf
            refine ⟨sz _ (by show 3 ≤ 3000; decide), ?_⟩
            conv => whnf
            refine ⟨sz _ (by show 3 ≤ 3000; decide), ?_⟩
            conv => whnf
            exact ⟨sz _ (by show 1 ≤ 3000; decide), hq⟩
      | torn =>
        replace hq : Q ((M.mvTorn s).map Mv.d) := hq
        conv => whnf
        refine fork_f rfl ?_
        conv => whnf
        refine fork_f rfl ?_
        conv => whnf
        refine fork_t rfl ?_
        conv => whnf
        refine ⟨M, s, 1, 1, ok, hs, by decide, rfl, ?_⟩
        conv => whnf
        refine ⟨by rw [List.length_map]; exact small_lt (by omega), .inl rfl, ?_⟩
        refine compW_map (f := mvOf fun x : Way => (⟨x.1, x.1, ⟨.torn, x.2, []⟩⟩ : Mv)) (fun d hd R hR => ?_) ?_
        · obtain ⟨x, hx, rfl⟩ := List.mem_map.mp hd
          conv => whnf
          refine ⟨rfl, rfl, ?_⟩
          conv => whnf
          refine ⟨sz _ (by show 3 ≤ 3000; decide), ?_⟩
          conv => whnf
          exact ⟨sz _ (by show 3 ≤ 3000; decide), hR⟩
        rw [ways_map]
        exact hq
      | fading =>
        obtain ⟨hk, _⟩ : R.k = .faded ∧ 1 ≤ held.length ∧ held = List.replicate held.length 63 := hph
        replace hq : Q (sortD ((M.mvIn R s held).map Mv.d)) := hq
        conv => whnf
        refine fork_f rfl ?_
        conv => whnf
        refine fork_f rfl ?_
        conv => whnf
        refine fork_f rfl ?_
        conv => whnf
        refine ⟨M, R, ⟨.fading, s, held⟩, ok, okR, hs, hl, .inl hk, rfl, ?_⟩
        conv => whnf
        rw [py_mvs]
        exact ⟨ok_mvs _, hq⟩
      | once =>
        obtain ⟨hk, _⟩ : R.k = .doubled ∧ 1 ≤ held.length ∧ ∀ c ∈ held, c ∈ M.ls := hph
        replace hq : Q (sortD ((M.mvIn R s held).map Mv.d)) := hq
        conv => whnf
        refine fork_f rfl ?_
        conv => whnf
        refine fork_f rfl ?_
        conv => whnf
        refine fork_f rfl ?_
        conv => whnf
        refine ⟨M, R, ⟨.once, s, held⟩, ok, okR, hs, hl, .inr hk, rfl, ?_⟩
        conv => whnf
        rw [py_mvs]
        exact ⟨ok_mvs _, hq⟩)

end
end T

namespace T
open PySem PySem.Spec PyProof.Rows L2 DL
section
variable {P : Program} {w : World} {K : Fg} {mg : Str → Option Value} {base : Heap}
/-! ### phases and what is held in them -/
abbrev Pq := Ph × List Nat
def phD (p : Pq) : D := .tup [.str p.1.s, wD p.2]
def phP (p : Pq) : PyData := .tuple [.str p.1.s, .str (txt p.2)]
def Mach.phs (M : Mach) (R : Rule) : List Pq := [(.whole, []), (.torn, [])] ++ match R.k with
  | .faded => (strsA [63] 1 R.hi).map fun t => (.fading, t)
  | .doubled => ((strsA M.ls 1 R.hi).map fun t => (.once, t)) ++ (strsA M.ls 1 R.hi).map fun t => (.twice, t)
  | _ => []
def withPh (p : Ph) : D → D
  | .str t => .tup [.str p.s, .str t]
  | _ => .non
theorem withPh_map (p : Ph) (xs : List (List Nat)) : (xs.map wD).map (withPh p) = (xs.map fun t => ((p, t) : Pq)).map phD := by
  rw [List.map_map, List.map_map]
  exact List.map_congr_left fun _ _ => rfl
def wf__phases : WF := fun ds ed Q => ∃ (M : Mach) (R : Rule), M.Ok ∧ R.Ok ∧ ds = [M.d, R.d] ∧ Q (.lst ((M.phs R).map phD))
theorem len__phases {ds : List D} {ed : Value → Prop} {Q : D → Prop} (h : wf__phases ds ed Q) : ds.length = 2 := by
  obtain ⟨_, _, _, _, rfl, _⟩ := h
  rfl
abbrev N__phases : List Str := ["machine", "rule", "kind", "_", "most", "found", "held_letters", "held", "phase"]
theorem sc__phases : FnScope N__phases ["machine", "rule"] (defScope (topS 27)) := ⟨rfl, rfl, rfl, by decide +kernel, rfl, by decide +kernel, by decide +kernel⟩
theorem ok__phases {f : Addr} {fd : FuncData}  (B : Bl mg)    (F_strings_of : DFn P w K mg base "strings_of" 1 3 (wf_strings_of)) (F : Fun K "_phases" "_phases" (topS 27) f fd) (g : mg "_phases" = some (.ref f)) (b : Binds K fd ["machine", "rule"] []) : DFn P w K mg base "_phases" 2 2 (wf__phases) := by
  exact dfn_of (N := N__phases) F sc__phases g b rfl (fun ds ed Q h => len__phases h) (fun cdv A outer s H E hr =>
    (dss_cons (ds_asgT (de_pv (fun _ => pv 1)) (dg_tup (n := 3) (fun _ => rfl) (fun _ => rfl) (dgs_cons (dg_pg (fun _ => pg_name (i := 2) sc__phases.nd rfl (.inl rfl))) (dgs_cons (dg_pg (fun _ => pg_name (i := 3) sc__phases.nd rfl (.inl rfl))) (dgs_cons (dg_pg (fun _ => pg_name (i := 4) sc__phases.nd rfl (.inl rfl))) dgs_nil)))))
    (dss_cons (ds_setO (i := 5) (df_lst (da_cons (de_tup (da_cons de_str (da_cons de_str da_nil))) (da_cons (de_tup (da_cons de_str (da_cons de_str da_nil))) da_nil))) (fun _ => sc__phases.nd))
    (dss_cons (ds_if (DX.dt (dx_eq (dr_pv (fun _ => pv 2)) (DE.r de_str))) (dss_one (ds_extend (i := 5) (fun _ => rfl) (fun _ => pv 5) (DF.de (df_lc (own := [("held", 7)]) (fun _ => rfl) (fun _ => sc__phases.nd) (di_seq (fun _ => rfl) (de_call F_strings_of (fun _ => ⟨rfl, rfl, rfl, rfl, rfl⟩) (fun _ => takes_of rfl rfl rfl rfl) (fun _ => hr) (da_cons de_str (da_cons de_int (da_cons (de_pv (fun _ => pv 4)) da_nil))))) (dg_pg (fun _ => pg_name (i := 7) sc__phases.nd rfl (by first | exact Or.inl rfl | exact Or.inr rfl))) (de_tup (da_cons de_str (da_cons (de_pv (fun _ => pv 7)) da_nil))) (fun _ => blkOk_by (N := N__phases) (sc := defScope (topS 27)) (by decide +kernel)))))) dss_nil)
    (dss_cons (ds_if (DX.dt (dx_eq (dr_pv (fun _ => pv 2)) (DE.r de_str))) (dss_cons (ds_set (i := 6) (de_call F_strings_of (fun _ => ⟨rfl, rfl, rfl, rfl, rfl⟩) (fun _ => takes_of rfl rfl rfl rfl) (fun _ => hr) (da_cons (de_ix (fun _ => rfl) (dr_pv (fun _ => pv 0)) (DE.r de_int)) (da_cons de_int (da_cons (de_pv (fun _ => pv 4)) da_nil)))) (fun _ => sc__phases.nd))
    (dss_one (ds_extend (i := 5) (fun _ => rfl) (fun _ => pv 5) (DF.de (df_lc2f (own := [("phase", 8), ("held", 7)]) [7] (fun _ => rfl) (fun _ => sc__phases.nd) (di_seq (fun _ => rfl) (de_tup (da_cons de_str (da_cons de_str da_nil)))) (dg_pg (fun _ => pg_name (i := 8) sc__phases.nd rfl (by first | exact Or.inl rfl | exact Or.inr rfl))) (di_seq (fun _ => rfl) (de_pv (fun _ => pv 6))) (dg_pg (fun _ => pg_name (i := 7) sc__phases.nd rfl (by first | exact Or.inl rfl | exact Or.inr rfl))) (de_tup (da_cons (de_pv (fun _ => pv 8)) (da_cons (de_pv (fun _ => pv 7)) da_nil))) (fun _ => blkOk_by (N := N__phases) (sc := defScope (topS 27)) (by decide +kernel))))))) dss_nil)
    (dss_one (ds_ret (de_pv (fun _ => pv 5)))))))))
    (fun ds ed Q h => by
      obtain ⟨M, R, ok, okR, rfl, hq⟩ := h
      have hi3 := okR.hi3
      unfold N__phases
      have sz : ∀ i, i ≤ 3000 → i ≤ sizeLine := fun i h => by rw [sizeLine_eq]; omega
      conv => whnf
      refine ⟨rfl, rfl, ?_⟩
      conv => whnf
      refine ⟨sz _ (by show 2 ≤ 3000; decide), ?_⟩
      conv => whnf
      refine ⟨sz _ (by show 2 ≤ 3000; decide), ?_⟩
      conv => whnf
      refine ⟨sz _ (by show 2 ≤ 3000; decide), ?_⟩
      have lF := strsA_len (ls := [63]) (lo := 1) (hi := R.hi) (by decide) hi3
      have lM := strsA_len (ls := M.ls) (lo := 1) (hi := R.hi) ok.l3 hi3
      rcases R with ⟨k, lo, hi⟩
      cases k with
      | faded =>
        conv => whnf
        refine fork_t rfl ?_
        conv => whnf
        refine ⟨[63], 1, hi, rfl, by decide, hi3, ?_⟩
        conv => whnf
        refine ⟨by rw [List.length_map]; exact small_lt (Nat.le_trans lF (by decide)), .inl rfl, ?_⟩
        refine compW_map (f := withPh .fading) (fun d hd R hR => ?_) ?_
        · obtain ⟨t, ht, rfl⟩ := List.mem_map.mp hd
          conv => whnf
          exact ⟨sz _ (by show 2 ≤ 3000; decide), hR⟩
        rw [List.nil_append, withPh_map]
        conv => whnf
        refine ⟨sz _ (by rw [List.length_map, List.length_map]; show 2 + _ ≤ 3000; exact Nat.le_trans (Nat.add_le_add (Nat.le_refl 2) lF) (by decide)), ?_⟩
        conv => whnf
        refine fork_f rfl ?_
        exact hq
      | doubled =>
        conv => whnf
        refine fork_f rfl ?_
        conv => whnf
        refine fork_t rfl ?_
        conv => whnf
        refine ⟨M.ls, 1, hi, rfl, ok.l3, hi3, ?_⟩
        conv => whnf
        refine ⟨sz _ (by show 2 ≤ 3000; decide), ?_⟩
        conv => whnf
        refine ⟨sz _ (by rw [List.length_map]; show 0 + _ ≤ 3000; exact Nat.le_trans (Nat.add_le_add (Nat.le_refl 0) lM) (by decide)), ?_⟩
        refine compW_map (f := withPh .once) (fun d hd R hR => ?_) ?_
        · obtain ⟨t, ht, rfl⟩ := List.mem_map.mp hd
          conv => whnf
          exact ⟨sz _ (by show 2 ≤ 3000; decide), hR⟩
        rw [List.nil_append, withPh_map]
        conv => whnf
        refine ⟨sz _ (by rw [List.length_map, List.length_map, List.length_map]; exact Nat.le_trans (Nat.add_le_add lM lM) (by decide)), ?_⟩
        refine compW_map (f := withPh .twice) (fun d hd R hR => ?_) ?_
        · obtain ⟨t, ht, rfl⟩ := List.mem_map.mp hd
          conv => whnf
          exact ⟨sz _ (by show 2 ≤ 3000; decide), hR⟩
        rw [withPh_map, ← List.map_append]
        conv => whnf
        refine ⟨sz _ (by rw [List.length_map, List.length_append, List.length_map, List.length_map]; exact Nat.le_trans (Nat.add_le_add (Nat.le_refl 2) (Nat.add_le_add lM lM)) (by decide)), ?_⟩
        exact hq
      | «open» =>
        conv => whnf
        refine fork_f rfl ?_
        conv => whnf
        refine fork_f rfl ?_
        exact hq
      | closed =>
        conv => whnf
        refine fork_f rfl ?_
        conv => whnf
        refine fork_f rfl ?_
        exact hq)

end
end T

namespace T
open PySem PySem.Spec PyProof.Rows L2 DL
section
variable {P : Program} {w : World} {K : Fg} {mg : Str → Option Value} {base : Heap}
def sideB (M : Mach) (R : Rule) : D → Bool
  | .tup [p, s, h] => isWhole s 0 ((M.rows.length : Int) - 1) && (match pyD (.tup [p, h]) with | some q => ((M.phs R).map phP).any (fun z => PyData.eqv z q) | none => false)
  | _ => false
/-- a thing that is asked: where it could be a side, it is data that can be compared -/
def Asked (M : Mach) (d : D) : Prop := Pl d ∧ ∀ p s h, d = .tup [p, s, h] → isWhole s 0 ((M.rows.length : Int) - 1) = true → ∃ q, pyD (.tup [p, h]) = some q ∧ SeqAt.shaped q = true
theorem pyDs_phs (xs : List Pq) : pyDs (xs.map phD) = some (xs.map phP) := pyDs_atoms phD phP (fun _ => rfl) xs
theorem lay_w {z : List Nat} (h : ∀ c ∈ z, c < 128) : PyData.canLay0 (.str (txt z)) = true := by
  obtain ⟨h1, _⟩ := strs_ok (zs := [z]) fun y hy => by rw [List.mem_singleton.mp hy]; exact h
  have h1 : (PyData.canLay0 (.str (txt z)) && true) = true := h1
  rw [Bool.and_true] at h1
  exact h1
theorem lay_ph (p : Ph) : PyData.canLay0 (.str p.s) = true := by cases p <;> decide +kernel
theorem lay_phs : ∀ {xs : List Pq}, (∀ p ∈ xs, ∀ c ∈ p.2, c < 128) → PyData.canLayAll0 (xs.map phP) = true ∧ PyData.depthAll (xs.map phP) ≤ 1
  | [], _ => ⟨rfl, Nat.zero_le _⟩
  | p :: xs, h => by
    obtain ⟨h1, h2⟩ := lay_phs (xs := xs) fun p hp => h p (List.mem_cons_of_mem _ hp)
    have a := lay_w (h p List.mem_cons_self)
    have b := lay_ph p.1
    constructor
    · show (PyData.canLay0 (phP p) && PyData.canLayAll0 (xs.map phP)) = true
      rw [h1, Bool.and_true]
      show (PyData.canLay0 (.str p.1.s) && (PyData.canLay0 (.str (txt p.2)) && true)) = true
      rw [a, b]
      rfl
    · show max (PyData.depth (phP p)) (PyData.depthAll (xs.map phP)) ≤ 1
      have : PyData.depth (phP p) = 1 := by simp [phP, PyData.depth, PyData.depthAll]
      omega
theorem alpha128 : ∀ c ∈ (Str.ofString "abcdefghijklmnopqrstuvwxyz").cps.toList, c < 128 := by decide +kernel
theorem Mach.Ok.ls128 {M : Mach} (ok : M.Ok) : ∀ c ∈ M.ls, c < 128 := fun c hc => by
  have h := (Bool.and_eq_true _ _ ▸ ok.ls : _ ∧ _).1
  have h := (Bool.and_eq_true _ _ ▸ h : _ ∧ _).2
  exact alpha128 c (of_decide_eq_true (List.all_eq_true.mp h c hc))
theorem phs_signs {M : Mach} (ok : M.Ok) {R : Rule} (okR : R.Ok) : ∀ p ∈ M.phs R, ∀ c ∈ p.2, c < 128 := fun p hp => by
  have l1 := ok.ls128
  unfold Mach.phs at hp
  rcases List.mem_append.mp hp with hp | hp
  · rcases List.mem_cons.mp hp with rfl | hp
    · exact fun _ z => nomatch z
    · rw [List.mem_singleton.mp hp]; exact fun _ z => nomatch z
  · cases e : R.k with
    | faded =>
      rw [e] at hp
      obtain ⟨t, ht, rfl⟩ := List.mem_map.mp hp
      exact fun c hc => by rw [List.mem_singleton.mp ((strsA_mem ht).2.2 c hc)]; decide
    | doubled =>
      rw [e] at hp
      rcases List.mem_append.mp hp with hp | hp
      · obtain ⟨t, ht, rfl⟩ := List.mem_map.mp hp
        exact fun c hc => l1 c ((strsA_mem ht).2.2 c hc)
      · obtain ⟨t, ht, rfl⟩ := List.mem_map.mp hp
        exact fun c hc => l1 c ((strsA_mem ht).2.2 c hc)
    | «open» => rw [e] at hp; exact nomatch hp
    | closed => rw [e] at hp; exact nomatch hp
theorem phs_shaped {M : Mach} (ok : M.Ok) {R : Rule} (okR : R.Ok) : SeqAt.shaped (.list ((M.phs R).map phP)) = true := by
  obtain ⟨h1, h2⟩ := lay_phs (phs_signs ok okR)
  unfold SeqAt.shaped
  rw [PyData.canLay0, PyData.depth, h1, decide_eq_true (by omega)]
  rfl
def wf__is_side : WF := fun ds ed Q => ∃ (M : Mach) (R : Rule) (d : D), M.Ok ∧ R.Ok ∧ Asked M d ∧ ds = [M.d, .lst ((M.phs R).map phD), d] ∧ Q (.bl (sideB M R d))
theorem len__is_side {ds : List D} {ed : Value → Prop} {Q : D → Prop} (h : wf__is_side ds ed Q) : ds.length = 3 := by
  obtain ⟨_, _, _, _, _, _, rfl, _⟩ := h
  rfl
abbrev N__is_side : List Str := ["machine", "phases", "thing", "phase", "state", "held"]
theorem sc__is_side : FnScope N__is_side ["machine", "phases", "thing"] (defScope (topS 28)) := ⟨rfl, rfl, rfl, by decide +kernel, rfl, by decide +kernel, by decide +kernel⟩
theorem ok__is_side {f : Addr} {fd : FuncData}  (B : Bl mg)    (F_is_whole : DFn P w K mg base "is_whole" 1 3 (wf_is_whole)) (F : Fun K "_is_side" "_is_side" (topS 28) f fd) (g : mg "_is_side" = some (.ref f)) (b : Binds K fd ["machine", "phases", "thing"] []) : DFn P w K mg base "_is_side" 2 3 (wf__is_side) := by
  exact dfn_of (N := N__is_side) F sc__is_side g b rfl (fun ds ed Q h => len__is_side h) (fun cdv A outer s H E hr =>
    (dss_cons (ds_if (DW.dt (dw_or (dt_not (dt_val (de_isi (fun _ => rfl) (fun _ => B.isi) (db_cons (dr_pv (fun _ => pv 2)) (db_cons (DE.r (de_ty (fun _ => B.tuple) bt_tuple)) db_nil))))) (dw_or1 (DX.dt (dx_ne (DE.r (de_len (fun _ => rfl) (fun _ => B.len) (db_cons (dr_pv (fun _ => pv 2)) db_nil))) (DE.r de_int)))))) (dss_one (ds_ret de_bl)) dss_nil)
    (dss_cons (ds_asgT (de_pv (fun _ => pv 2)) (dg_tup (n := 3) (fun _ => rfl) (fun _ => rfl) (dgs_cons (dg_pg (fun _ => pg_name (i := 3) sc__is_side.nd rfl (.inl rfl))) (dgs_cons (dg_pg (fun _ => pg_name (i := 4) sc__is_side.nd rfl (.inl rfl))) (dgs_cons (dg_pg (fun _ => pg_name (i := 5) sc__is_side.nd rfl (.inl rfl))) dgs_nil)))))
    (dss_one (ds_ret (de_and (de_call F_is_whole (fun _ => ⟨rfl, rfl, rfl, rfl, rfl⟩) (fun _ => takes_of rfl rfl rfl rfl) (fun _ => hr) (da_cons (de_pv (fun _ => pv 4)) (da_cons de_int (da_cons (de_sub (DE.r (de_len (fun _ => rfl) (fun _ => B.len) (db_cons (DE.r (de_ix (fun _ => rfl) (dr_pv (fun _ => pv 0)) (DE.r de_int))) db_nil))) (DE.r de_int)) da_nil)))) (de_one (DX.de (dx_inD (fun _ => rfl) (fun _ => hr) (DE.r (de_tup (da_cons (de_pv (fun _ => pv 3)) (da_cons (de_pv (fun _ => pv 5)) da_nil)))) (dr_pv (fun _ => pv 1)))))))))))
    (fun ds ed Q h => by
      obtain ⟨M, R, d, ok, okR, ⟨pl, ask⟩, rfl, hq⟩ := h
      have hi3 := okR.hi3
      unfold N__is_side
      have sz : ∀ i, i ≤ 3000 → i ≤ sizeLine := fun i h => by rw [sizeLine_eq]; omega
      have no : sideB M R d = false → Q (.bl false) := fun e => by rw [e] at hq; exact hq
      have three : ∀ xs : List D, xs.length ≠ 3 → sideB M R (.tup xs) = false := fun xs h => by
        match xs, h with
        | [], _ => rfl
        | [_], _ => rfl
        | [_, _], _ => rfl
        | [_, _, _], h => exact absurd rfl h
        | _ :: _ :: _ :: _ :: _, _ => rfl
      cases pl with
      | tup xs hs hx =>
        by_cases h3 : xs.length = 3
        · match xs, h3, hx, hq, ask with
          | [p, s, h], _, hx, hq, ask =>
            conv => whnf
            refine fork_f rfl ?_
            conv => whnf
            refine fork_f rfl ⟨rfl, rfl, ?_⟩
            conv => whnf
            refine ⟨s, 0, _, rfl, hx s (by simp), ?_⟩
            rw [show (M.rowsD.length : Int) - 1 = (M.rows.length : Int) - 1 by rw [Mach.rowsD, List.length_map]]
            conv => whnf
            refine fork_i (fun hw => ?_) fun hw => ?_
            · obtain ⟨q, eq, sq⟩ := ask p s h rfl hw
              have hq : Q (.bl (((M.phs R).map phP).any (fun z => PyData.eqv z q))) := by
                have e : sideB M R (.tup [p, s, h]) = (isWhole s 0 ((M.rows.length : Int) - 1) && (match pyD (.tup [p, h]) with | some q => ((M.phs R).map phP).any (fun z => PyData.eqv z q) | none => false)) := rfl
                rw [e, hw, eq] at hq
                exact hq
              conv => whnf
              refine ⟨sz _ (by show 2 ≤ 3000; decide), ?_⟩
              conv => whnf
              rw [eq]
              conv => whnf
              rw [pyDs_phs]
              exact ⟨sq, phs_shaped ok okR, hq⟩
            · have e : sideB M R (.tup [p, s, h]) = false := by
                show (isWhole s 0 ((M.rows.length : Int) - 1) && _) = false
                rw [hw]
                rfl
              exact no e
        · have n := no (three xs h3)
          refine fork_f rfl ?_
          conv => whnf
          refine fork_t (by show (!decide ((xs.length : Int) = 3)) = true; rw [decide_eq_false (by omega)]; rfl) ?_
          conv => whnf
          exact n
      | _ =>
        conv => whnf
        first | exact fork_t rfl (no rfl) | exact fork_t rfl (fork_t rfl (no rfl)))

/-! ### moves_of -/
theorem mem_lv {ls : List Nat} : ∀ (n : Nat) (t : List Nat), t.length = n → (∀ c ∈ t, c ∈ ls) → t ∈ lv ls n
  | 0, t, h, _ => by
    rw [List.length_eq_zero_iff.mp h]
    exact List.mem_singleton.mpr rfl
  | n + 1, t, h, hc => by
    rcases List.eq_nil_or_concat t with rfl | ⟨u, c, rfl⟩
    · exact nomatch h
    · rw [List.concat_eq_append] at h hc ⊢
      rw [List.length_append] at h
      have h : u.length + 1 = n + 1 := h
      exact List.mem_flatMap.mpr ⟨u, mem_lv n u (by omega) fun d hd => hc d (List.mem_append_left _ hd), List.mem_map.mpr ⟨c, hc c (List.mem_append_right _ (List.mem_singleton.mpr rfl)), rfl⟩⟩
theorem mem_strsN {ls : List Nat} {lo k : Nat} {t : List Nat} (h1 : lo ≤ k) (h : t ∈ lv ls k) : ∀ n : Nat, k < n → t ∈ strsN ls lo n
  | 0, hk => absurd hk (by omega)
  | n + 1, hk => by
    by_cases e : k = n
    · subst e
      refine List.mem_append_right _ ?_
      rw [if_pos h1]
      exact h
    · exact List.mem_append_left _ (mem_strsN h1 h n (by omega))
theorem mem_strsA {ls : List Nat} {lo hi : Nat} {t : List Nat} (h1 : lo ≤ t.length) (h2 : t.length ≤ hi) (h : ∀ c ∈ t, c ∈ ls) : t ∈ strsA ls lo hi := mem_strsN h1 (mem_lv _ t rfl h) _ (by omega)
theorem Rule.Ok.pl {R : Rule} (ok : R.Ok) : Pl R.d := .tup _ (by show 3 ≤ 100000; decide) fun d hd => by
  rcases List.mem_cons.mp hd with rfl | hd
  · exact .str _ (by cases R.k <;> decide +kernel)
  rcases List.mem_cons.mp hd with rfl | hd
  · exact .int _
  · rw [List.mem_singleton.mp hd]; exact .int _
theorem eqv_phs {xs : List Pq} {p : Pq} (h : p ∈ xs) : (xs.map phP).any (fun z => PyData.eqv z (phP p)) = true := by
  rw [List.any_eq_true]
  refine ⟨phP p, List.mem_map.mpr ⟨p, h, rfl⟩, ?_⟩
  simp [phP, PyData.eqv, PyData.eqvAll]
theorem Sd.Ok.in {M : Mach} {R : Rule} {S : Sd} (ok : S.Ok M R) : (S.ph, S.held) ∈ M.phs R := by
  obtain ⟨ph, st, held⟩ := S
  have h := ok.ph
  have h3 : held.length ≤ R.hi := ok.h3
  unfold Mach.phs
  cases ph with
  | whole =>
    have h : held = [] := h
    subst h
    exact List.mem_append_left _ List.mem_cons_self
  | torn =>
    have h : held = [] := h
    subst h
    exact List.mem_append_left _ (List.mem_cons_of_mem _ List.mem_cons_self)
  | fading =>
    obtain ⟨hk, h1, hr⟩ : R.k = .faded ∧ 1 ≤ held.length ∧ held = List.replicate held.length 63 := h
    rw [hk]
    refine List.mem_append_right _ (List.mem_map.mpr ⟨held, mem_strsA h1 h3 fun c hc => ?_, rfl⟩)
    rw [hr] at hc
    rw [(List.mem_replicate.mp hc).2]
    exact List.mem_singleton.mpr rfl
  | once =>
    obtain ⟨hk, h1, hr⟩ : R.k = .doubled ∧ 1 ≤ held.length ∧ ∀ c ∈ held, c ∈ M.ls := h
    rw [hk]
    exact List.mem_append_right _ (List.mem_append_left _ (List.mem_map.mpr ⟨held, mem_strsA h1 h3 hr, rfl⟩))
  | twice =>
    obtain ⟨hk, h1, hr⟩ : R.k = .doubled ∧ 1 ≤ held.length ∧ ∀ c ∈ held, c ∈ M.ls := h
    rw [hk]
    exact List.mem_append_right _ (List.mem_append_right _ (List.mem_map.mpr ⟨held, mem_strsA h1 h3 hr, rfl⟩))
theorem Sd.Ok.is {M : Mach} (okM : M.Ok) {R : Rule} {S : Sd} (ok : S.Ok M R) : sideB M R S.d = true := by
  have e : sideB M R S.d = (isWhole (.int (S.st : Nat)) 0 ((M.rows.length : Int) - 1) && ((M.phs R).map phP).any (fun z => PyData.eqv z (phP (S.ph, S.held)))) := rfl
  rw [e, whole_natM ok.st, eqv_phs ok.in]
  rfl
theorem Sd.Ok.asked {M : Mach} (okM : M.Ok) {R : Rule} (okR : R.Ok) {S : Sd} (ok : S.Ok M R) : Asked M S.d := by
  have h3 : S.held.length ≤ 3 := Nat.le_trans ok.h3 okR.hi3
  refine ⟨.tup _ (by show 3 ≤ 100000; decide) fun d hd => ?_, fun p s h e _ => ?_⟩
  · rcases List.mem_cons.mp hd with rfl | hd
    · exact .str _ (by cases S.ph <;> decide +kernel)
    rcases List.mem_cons.mp hd with rfl | hd
    · exact .int _
    · rw [List.mem_singleton.mp hd]; exact .str _ (by show S.held.length ≤ 100000; omega)
  · obtain ⟨h1, e⟩ := List.cons.inj (D.tup.inj e)
    obtain ⟨h2, e⟩ := List.cons.inj e
    obtain ⟨h4, _⟩ := List.cons.inj e
    subst h1 h4
    refine ⟨phP (S.ph, S.held), rfl, ?_⟩
    obtain ⟨h1, h2⟩ := lay_phs (xs := [(S.ph, S.held)]) fun p hp => by rw [List.mem_singleton.mp hp]; exact phs_signs okM okR _ ok.in
    have h1 : (PyData.canLay0 (phP (S.ph, S.held)) && true) = true := h1
    rw [Bool.and_true] at h1
    unfold SeqAt.shaped
    rw [h1, show PyData.depth (phP (S.ph, S.held)) = 1 by simp [phP, PyData.depth, PyData.depthAll]]
    rfl
def wf_moves_of (cNoMachine cNoRule cNoSide : Addr) : WFN := fun ds ed Q => ∃ (M : Mach) (R : Rule) (d : D), M.Ok ∧ R.Ok ∧ Asked M d ∧ ds = [M.d, R.d, d] ∧ ((∃ S : Sd, S.Ok M R ∧ d = S.d ∧ Q (M.mvs R S)) ∨ (sideB M R d = false ∧ ed (.ref cNoSide)))
theorem len_moves_of {cNoMachine cNoRule cNoSide : Addr} {ds : List D} {ed : Value → Prop} {Q : List D → Prop} (h : wf_moves_of cNoMachine cNoRule cNoSide ds ed Q) : ds.length = 3 := by
  obtain ⟨_, _, _, _, _, _, rfl, _⟩ := h
  rfl
abbrev N_moves_of : List Str := ["machine", "rule", "side"]
theorem sc_moves_of : FnScope N_moves_of ["machine", "rule", "side"] (defScope (topS 26)) := ⟨rfl, rfl, rfl, by decide +kernel, rfl, by decide +kernel, by decide +kernel⟩
theorem ok_moves_of {f : Addr} {fd : FuncData} {cNoMachine : Addr} {cNoRule : Addr} (B : Bl mg)   {cNoSide : Addr} (X_NoSide : XFact K mg "NoSide" cNoSide) (F__is_side : DFn P w K mg base "_is_side" 2 3 (wf__is_side)) (F__moves : DFnN P w K mg base "_moves" 5 3 (wf__moves)) (F__phases : DFn P w K mg base "_phases" 2 2 (wf__phases)) (F_need_machine : DFn P w K mg base "need_machine" 5 1 (wf_need_machine cNoMachine)) (F_need_rule : DFn P w K mg base "need_rule" 3 1 (wf_need_rule cNoRule)) (F : Fun K "moves_of" "moves_of" (topS 26) f fd) (g : mg "moves_of" = some (.ref f)) (b : Binds K fd ["machine", "rule", "side"] []) : DFnN P w K mg base "moves_of" 6 3 (wf_moves_of cNoMachine cNoRule cNoSide) := by
  exact dfnN_of (N := N_moves_of) F sc_moves_of g b rfl (fun ds ed Q h => len_moves_of h) (fun cdv A outer s H E hr =>
    (dss_cons (ds_expr (de_call F_need_machine (fun _ => ⟨rfl, rfl, rfl, rfl, rfl⟩) (fun _ => takes_of rfl rfl rfl rfl) (fun _ => hr) (da_cons (de_pv (fun _ => pv 0)) da_nil)))
    (dss_cons (ds_expr (de_call F_need_rule (fun _ => ⟨rfl, rfl, rfl, rfl, rfl⟩) (fun _ => takes_of rfl rfl rfl rfl) (fun _ => hr) (da_cons (de_pv (fun _ => pv 1)) da_nil)))
    (dss_cons (ds_if (dt_not (dt_val (de_call F__is_side (fun _ => ⟨rfl, rfl, rfl, rfl, rfl⟩) (fun _ => takes_of rfl rfl rfl rfl) (fun _ => hr) (da_cons (de_pv (fun _ => pv 0)) (da_cons (de_call F__phases (fun _ => ⟨rfl, rfl, rfl, rfl, rfl⟩) (fun _ => takes_of rfl rfl rfl rfl) (fun _ => hr) (da_cons (de_pv (fun _ => pv 0)) (da_cons (de_pv (fun _ => pv 1)) da_nil))) (da_cons (de_pv (fun _ => pv 2)) da_nil)))))) (dss_one (ds_raise (fun _ => rfl) (fun _ => rfl) X_NoSide (fun _ => rfl) (fun _ => takes_of rfl rfl rfl rfl))) dss_nil)
    (dss_one (ds_retF (df_callN F__moves (fun _ => ⟨rfl, rfl, rfl, rfl, rfl⟩) (fun _ => takes_of rfl rfl rfl rfl) (fun _ => hr) (da_cons (de_pv (fun _ => pv 0)) (da_cons (de_pv (fun _ => pv 1)) (da_cons (de_pv (fun _ => pv 2)) da_nil))))))))))
    (fun ds ed Q h => by
      obtain ⟨M, R, d, ok, okR, ask, rfl, hq⟩ := h
      unfold N_moves_of
      have sz : ∀ i, i ≤ 3000 → i ≤ sizeLine := fun i h => by rw [sizeLine_eq]; omega
      conv => whnf
      refine ⟨M.d, rfl, ok.pl, ?_⟩
      rw [if_pos ok.is]
      conv => whnf
      refine ⟨R.d, rfl, okR.pl, ?_⟩
      rw [if_pos okR.is]
      conv => whnf
      refine ⟨M, R, ok, okR, rfl, ?_⟩
      conv => whnf
      refine ⟨M, R, d, ok, okR, ask, rfl, ?_⟩
      conv => whnf
      rcases hq with ⟨S, okS, rfl, hq⟩ | ⟨no, hq⟩
      · rw [okS.is ok]
        refine fork_f rfl ?_
        conv => whnf
        exact ⟨M, R, S, ok, okR, okS, rfl, hq⟩
      · rw [no]
        refine fork_t rfl ?_
        exact hq)

end
end T

namespace T
open PySem PySem.Spec PyProof.Rows L2 DL
section
variable {P : Program} {w : World} {K : Fg} {mg : Str → Option Value} {base : Heap}
theorem aft {n hi k m : Nat} (h : k + (m + 1) = hi + 1) (h3 : hi ≤ 3) : k ≤ 3 := by omega
def aT (ls : List Nat) (lo hi k e : Nat) (x5 x6 x7 x8 : Slot) : Gm := [.dat (.str (txt ls)), .dat (.int (lo : Nat)), .dat (.int (hi : Nat)), .dat (.lst ((lv ls e).map wD)), .dat (.lst ((strsN ls lo k).map wD)), x5, x6, x7, x8]
def wf__law_texts : WF := fun ds ed Q => ∃ (ls : List Nat) (lo hi : Nat), ds = [.str (txt ls), .int (lo : Nat), .int (hi : Nat)] ∧ ls.length ≤ 3 ∧ hi ≤ 3 ∧ Q (.lst ((strsA ls lo hi).map wD))
theorem len__law_texts {ds : List D} {ed : Value → Prop} {Q : D → Prop} (h : wf__law_texts ds ed Q) : ds.length = 3 := by
  obtain ⟨_, _, _, rfl, _⟩ := h
  rfl
abbrev N__law_texts : List Str := ["letters", "least", "most", "level", "found", "size", "longer", "text", "c"]
theorem sc__law_texts : FnScope N__law_texts ["letters", "least", "most"] (defScope (topS 54)) := ⟨rfl, rfl, rfl, by decide +kernel, rfl, by decide +kernel, by decide +kernel⟩
theorem ok__law_texts {f : Addr} {fd : FuncData}  (B : Bl mg)     (F : Fun K "_law_texts" "_law_texts" (topS 54) f fd) (g : mg "_law_texts" = some (.ref f)) (b : Binds K fd ["letters", "least", "most"] []) : DFn P w K mg base "_law_texts" 1 3 (wf__law_texts) := by
  exact dfn_of (N := N__law_texts) F sc__law_texts g b rfl (fun ds ed Q h => len__law_texts h) (fun cdv A outer s H E hr =>
    (dss_cons (ds_par (i := 3) (j := 4) (DF.de (df_lst (da_cons de_str da_nil))) (DF.de (df_lst da_nil)) (fun _ => sc__law_texts.nd))
    (dss_cons (ds_for (fun _ => passes_of rfl) (fun _ => rfl) (di_range1 (fun _ => B.range) (db_cons (DE.r (de_addA (dr_pv (fun _ => pv 2)) (DE.r de_int))) db_nil)) (dg_pg (fun _ => pg_name (i := 5) sc__law_texts.nd rfl (.inl rfl))) (dss_cons (ds_set (i := 4) (de_addA (dr_pv (fun _ => pv 4)) (DE.r (de_sl (fun _ => rfl) (dr_pv (fun _ => pv 3)) do_none (do_some (de_mulA (DE.r (de_len (fun _ => rfl) (fun _ => B.len) (db_cons (dr_pv (fun _ => pv 3)) db_nil))) (DE.r (de_intOf (fun _ => B.int) (db_cons (DE.r (DX.de (dx_ge (dr_pv (fun _ => pv 5)) (dr_pv (fun _ => pv 1))))) db_nil)))))))) (fun _ => sc__law_texts.nd))
    (dss_cons (ds_set (i := 6) (DF.de (df_lst da_nil)) (fun _ => sc__law_texts.nd))
    (dss_cons (ds_for (fun _ => passes_of rfl) (fun _ => rfl) (di_seq (fun _ => rfl) (de_pv (fun _ => pv 3))) (dg_pg (fun _ => pg_name (i := 7) sc__law_texts.nd rfl (.inr rfl))) (dss_one (ds_set (i := 6) (de_addA (dr_pv (fun _ => pv 6)) (DE.r (DF.de (df_lc (own := [("c", 8)]) (fun _ => rfl) (fun _ => sc__law_texts.nd) (di_seq (fun _ => rfl) (de_pv (fun _ => pv 0))) (dg_pg (fun _ => pg_name (i := 8) sc__law_texts.nd rfl (by first | exact Or.inl rfl | exact Or.inr rfl))) (de_addA (dr_pv (fun _ => pv 7)) (dr_pv (fun _ => pv 8))) (fun _ => blkOk_by (N := N__law_texts) (sc := defScope (topS 54)) (by decide +kernel)))))) (fun _ => sc__law_texts.nd))))
    (dss_one (ds_set (i := 3) (de_pv (fun _ => pv 6)) (fun _ => sc__law_texts.nd)))))))
    (dss_one (ds_ret (de_pv (fun _ => pv 4)))))))
    (fun ds ed Q h => by
      obtain ⟨ls, lo, hi, rfl, l3, h3, hq⟩ := h
      unfold N__law_texts
      have sz : ∀ i, i ≤ 3000 → i ≤ sizeLine := fun i h => by rw [sizeLine_eq]; omega
      have many := lv_many l3
      have ml : ∀ n, n ≤ 4 → (lv ls n).length ≤ 81 := fun n hn => Nat.le_trans (many n) (Nat.le_trans (Nat.pow_le_pow_right (by decide) hn) (by decide))
      conv => whnf
      refine ⟨sz _ (by show 1 ≤ 3000; decide), ?_⟩
      conv => whnf
      refine ⟨sz _ (by show 0 ≤ 3000; decide), ?_⟩
      conv => whnf
      refine ⟨by omega, by omega, ?_⟩
      rw [show ((hi : Int) + 1).toNat = hi + 1 from rfl, rng_from]
      refine ⟨.inl rfl, ?_⟩
      refine forW_ind (fun r G => ∃ k m, r = rngF k m ∧ k + m = hi + 1 ∧ ∃ x5 x6 x7 x8 : Slot, G = aT ls lo hi k k x5 x6 x7 x8) ?_ ?_ _ _ ⟨0, hi + 1, rfl, by omega, _, _, _, _, rfl⟩
      · rintro d r G ⟨k, m, hr, hm, x5, x6, x7, x8, rfl⟩ next
        obtain ⟨m', rfl, rfl, rfl⟩ := rngF_cons hr
        have sl := strsN_len (ls := ls) (lo := lo) l3 (n := k) (by omega)
        have lk := ml k (by omega)
        conv => whnf
        have e : cut ((lv ls k).map wD) none (some ((((lv ls k).map wD).length : Int) * (if decide ((lo : Int) ≤ (k : Int)) = true then 1 else 0))) = (if lo ≤ k then lv ls k else []).map wD := by
          by_cases h : lo ≤ k
          · rw [decide_eq_true (by omega), if_pos rfl, if_pos h, Int.mul_one]
            unfold cut
            rw [HT.sIx_nat, HT.sIx_none, List.drop_zero, Nat.min_self, Nat.sub_zero]
            exact List.take_of_length_le (Nat.le_refl _)
          · rw [decide_eq_false (by omega), if_neg (by decide), if_neg h, Int.mul_zero]
            unfold cut
            rw [show (0 : Int) = ((0 : Nat) : Int) from rfl, HT.sIx_nat, HT.sIx_none, Nat.zero_min]
            rfl
        have lk2 : ((lv ls k).map wD).length ≤ 81 := by rw [List.length_map]; exact lk
        refine ⟨.inl ⟨by omega, by omega⟩, ?_⟩
        conv => whnf
        rw [e]
        have le : (if lo ≤ k then lv ls k else []).length ≤ 81 := by split <;> first | exact lk | (show 0 ≤ 81; decide)
        refine ⟨sz _ (by rw [List.length_map, List.length_map]; omega), ?_⟩
        rw [← List.map_append, show strsN ls lo k ++ (if lo ≤ k then lv ls k else []) = strsN ls lo (k + 1) from rfl]
        conv => whnf
        refine ⟨sz _ (by show 0 ≤ 3000; decide), ?_⟩
        conv => whnf
        refine ⟨.inl rfl, ?_⟩
        refine forW_ind (fun r G => ∃ done rest : List (List Nat), lv ls k = done ++ rest ∧ r = rest.map wD ∧ ∃ x6 x7 x8 : Slot, G = [.dat (.str (txt ls)), .dat (.int (lo : Nat)), .dat (.int (hi : Nat)), .dat (.lst ((lv ls k).map wD)), .dat (.lst ((strsN ls lo (k + 1)).map wD)), .dat (.int (k : Nat)), .dat (.lst ((done.flatMap fun t => ls.map fun c => t ++ [c]).map wD)), x7, x8]) ?_ ?_ _ _ ⟨[], lv ls k, rfl, rfl, .un, _, _, rfl⟩
        · rintro d r G ⟨done, rest, hd, hr, y6, y7, y8, rfl⟩ next2
          cases rest with
          | nil => exact nomatch hr
          | cons t rest =>
            rw [List.map_cons] at hr
            obtain ⟨rfl, rfl⟩ := List.cons.inj hr
            have tl := lv_len ls k t (hd ▸ List.mem_append_right _ List.mem_cons_self)
            have cl : (chars (txt ls)).length = ls.length := by rw [chars_txt, List.length_map]
            conv => whnf
            refine ⟨by rw [cl]; exact small_lt (by omega), .inl rfl, ?_⟩
            rw [chars_txt]
            refine compW_map (f := preOf t) (fun d hd Z hZ => ?_) ?_
            · obtain ⟨c, hc, rfl⟩ := List.mem_map.mp hd
              conv => whnf
              refine ⟨sz _ (by show t.length + 1 ≤ 3000; omega), ?_⟩
              rw [show (⟨#[c]⟩ : Str) = txt [c] from rfl, txt_cat]
              exact hZ
            have e2 : [] ++ (ls.map fun c => D.str ⟨#[c]⟩).map (preOf t) = (ls.map fun c => t ++ [c]).map wD := by
              rw [List.nil_append, List.map_map, List.map_map]
              rfl
            rw [e2]
            have l81 : (lv ls (k + 1)).length ≤ 81 := ml (k + 1) (by omega)
            have split1 : lv ls (k + 1) = (done.flatMap fun t => ls.map fun c => t ++ [c]) ++ ((ls.map fun c => t ++ [c]) ++ rest.flatMap fun t => ls.map fun c => t ++ [c]) := by
              show (lv ls k).flatMap _ = _
              rw [hd, List.flatMap_append, List.flatMap_cons]
            rw [split1, List.length_append, List.length_append] at l81
            conv => whnf
            refine ⟨sz _ (by rw [List.length_map, List.length_map]; omega), ?_⟩
            refine next2 _ ⟨done ++ [t], rest, by rw [hd, List.append_assoc]; rfl, rfl, .un, .dat (wD t), y8, ?_⟩
            rw [List.flatMap_append, List.map_append, List.flatMap_cons, List.flatMap_nil, List.append_nil]
            rfl
        · rintro G ⟨done, rest, hd, hr, y6, y7, y8, rfl⟩
          cases rest with
          | cons _ _ => exact nomatch hr
          | nil =>
            rw [List.append_nil] at hd
            subst hd
            conv => whnf
            exact next _ ⟨k + 1, m', rfl, by omega, _, _, _, _, rfl⟩
      · rintro G ⟨k, m, hr, hm, x5, x6, x7, x8, rfl⟩
        obtain rfl := rngF_nil hr
        obtain rfl : k = hi + 1 := by omega
        exact hq)

def lvW (M : Mach) (s n : Nat) : List Way := (lv M.ls n).filterMap fun t => (M.run (some s) t).map fun g => (t, g)
def waysN (M : Mach) (s lo n : Nat) : List Way := (strsN M.ls lo n).filterMap fun t => (M.run (some s) t).map fun g => (t, g)
theorem waysN_succ (M : Mach) (s lo n : Nat) : waysN M s lo (n + 1) = waysN M s lo n ++ if lo ≤ n then lvW M s n else [] := by
  unfold waysN lvW
  rw [show strsN M.ls lo (n + 1) = strsN M.ls lo n ++ if lo ≤ n then lv M.ls n else [] from rfl, List.filterMap_append]
  split <;> rfl
theorem run_snoc (M : Mach) (c : Nat) : ∀ (t : List Nat) (s : Option Nat), M.run s (t ++ [c]) = (M.run s t).bind fun p => M.step p c
  | [], none => rfl
  | [], some s => by
    show M.run (M.step s c) [] = M.step s c
    cases M.step s c <;> rfl
  | d :: t, none => rfl
  | d :: t, some s => run_snoc M c t (M.step s d)
def extW (M : Mach) (x : Way) : List Way := M.ls.filterMap fun c => (M.step x.2 c).map fun g => (x.1 ++ [c], g)
theorem lvW_succ (M : Mach) (s n : Nat) : lvW M s (n + 1) = (lvW M s n).flatMap (extW M) := by
  unfold lvW
  show ((lv M.ls n).flatMap fun t => M.ls.map fun c => t ++ [c]).filterMap _ = _
  induction lv M.ls n with
  | nil => rfl
  | cons t r ih =>
    rw [List.flatMap_cons, List.filterMap_append, ih, List.filterMap_cons]
    cases h : M.run (some s) t with
    | none =>
      have : (M.ls.map fun c => t ++ [c]).filterMap (fun t => (M.run (some s) t).map fun g => (t, g)) = [] := by
        rw [List.filterMap_map]
        refine List.filterMap_eq_nil_iff.mpr fun c _ => ?_
        show (M.run (some s) (t ++ [c])).map _ = none
        rw [run_snoc, h]
        rfl
      rw [this]
      rfl
    | some p =>
      show _ = (((t, p) :: _ : List Way)).flatMap (extW M)
      rw [List.flatMap_cons]
      congr 1
      rw [List.filterMap_map]
      unfold extW
      congr 1
      funext c
      show (M.run (some s) (t ++ [c])).map _ = _
      rw [run_snoc, h]
      rfl
def stepD (M : Mach) (x : Way) : D → D
  | .str z => .tup [wD (x.1 ++ z.cps.toList), goalD (M.run (some x.2) z.cps.toList)]
  | _ => .non
theorem run_one (M : Mach) (p c : Nat) : M.run (some p) [c] = M.step p c := by
  show M.run (M.step p c) [] = _
  cases M.step p c <;> rfl
theorem ext_by (M : Mach) (x : Way) : ∀ cs : List Nat, ((((cs.map fun c => D.str ⟨#[c]⟩).map (stepD M x)).filter hasTo).map id) = (cs.filterMap fun c => (M.step x.2 c).map fun g => (x.1 ++ [c], g)).map wayD
  | [] => rfl
  | c :: cs => by
    rw [List.map_cons, List.map_cons, List.filterMap_cons]
    have ih := ext_by M x cs
    show (List.filter hasTo (D.tup [wD (x.1 ++ [c]), goalD (M.run (some x.2) [c])] :: _)).map id = _
    rw [run_one]
    cases h : M.step x.2 c with
    | none =>
      rw [List.filter_cons_of_neg (by show ¬ (false = true); decide)]
      exact ih
    | some g =>
      rw [List.filter_cons_of_pos rfl]
      show _ :: _ = wayD (x.1 ++ [c], g) :: _
      rw [ih]
      rfl
def aO (M : Mach) (R : Rule) (s k : Nat) (x5 x6 x7 x8 x9 x10 x11 : Slot) : Gm := [.dat M.d, .dat (.int (s : Nat)), .dat R.d, .dat (.lst ((lvW M s k).map wayD)), .dat (.lst ((waysN M s R.lo k).map wayD)), x5, x6, x7, x8, x9, x10, x11]
def wf__law_texts_on : WF := fun ds ed Q => ∃ (M : Mach) (R : Rule) (s : Nat), M.Ok ∧ R.Ok ∧ s < M.rows.length ∧ ds = [M.d, .int (s : Nat), R.d] ∧ Q (.lst ((M.ways s R.lo R.hi).map wayD))
theorem len__law_texts_on {ds : List D} {ed : Value → Prop} {Q : D → Prop} (h : wf__law_texts_on ds ed Q) : ds.length = 3 := by
  obtain ⟨_, _, _, _, _, _, rfl, _⟩ := h
  rfl
abbrev N__law_texts_on : List Str := ["machine", "state", "rule", "level", "found", "size", "longer", "text", "p", "steps", "c", "step"]
theorem sc__law_texts_on : FnScope N__law_texts_on ["machine", "state", "rule"] (defScope (topS 47)) := ⟨rfl, rfl, rfl, by decide +kernel, rfl, by decide +kernel, by decide +kernel⟩
theorem ok__law_texts_on {f : Addr} {fd : FuncData}  (B : Bl mg)    (F__law_run : DFn P w K mg base "_law_run" 1 3 (wf__law_run)) (F : Fun K "_law_texts_on" "_law_texts_on" (topS 47) f fd) (g : mg "_law_texts_on" = some (.ref f)) (b : Binds K fd ["machine", "state", "rule"] []) : DFn P w K mg base "_law_texts_on" 2 3 (wf__law_texts_on) := by
  exact dfn_of (N := N__law_texts_on) F sc__law_texts_on g b rfl (fun ds ed Q h => len__law_texts_on h) (fun cdv A outer s H E hr =>
    (dss_cons (ds_par (i := 3) (j := 4) (DF.de (df_lst (da_cons (de_tup (da_cons de_str (da_cons (de_pv (fun _ => pv 1)) da_nil))) da_nil))) (DF.de (df_lst da_nil)) (fun _ => sc__law_texts_on.nd))
    (dss_cons (ds_for (fun _ => passes_of rfl) (fun _ => rfl) (di_range1 (fun _ => B.range) (db_cons (DE.r (de_addA (DE.r (de_ix (fun _ => rfl) (dr_pv (fun _ => pv 2)) (DE.r de_int))) (DE.r de_int))) db_nil)) (dg_pg (fun _ => pg_name (i := 5) sc__law_texts_on.nd rfl (.inl rfl))) (dss_cons (ds_if (DX.dt (dx_ge (dr_pv (fun _ => pv 5)) (DE.r (de_ix (fun _ => rfl) (dr_pv (fun _ => pv 2)) (DE.r de_int))))) (dss_one (ds_set (i := 4) (de_addA (dr_pv (fun _ => pv 4)) (dr_pv (fun _ => pv 3))) (fun _ => sc__law_texts_on.nd))) dss_nil)
    (dss_cons (ds_set (i := 6) (DF.de (df_lst da_nil)) (fun _ => sc__law_texts_on.nd))
    (dss_cons (ds_for (fun _ => passes_of rfl) (fun _ => rfl) (di_seq (fun _ => rfl) (de_pv (fun _ => pv 3))) (dg_tup (n := 2) (fun _ => rfl) (fun _ => rfl) (dgs_cons (dg_pg (fun _ => pg_name (i := 7) sc__law_texts_on.nd rfl (.inr rfl))) (dgs_cons (dg_pg (fun _ => pg_name (i := 8) sc__law_texts_on.nd rfl (.inr rfl))) dgs_nil))) (dss_cons (ds_setLc (i := 9) (own := [("c", 10)]) (fun _ => rfl) (fun _ => sc__law_texts_on.nd) (di_seq (fun _ => rfl) (de_ix (fun _ => rfl) (dr_pv (fun _ => pv 0)) (DE.r de_int))) (dg_pg (fun _ => pg_name (i := 10) sc__law_texts_on.nd rfl (by first | exact Or.inl rfl | exact Or.inr rfl))) (de_tup (da_cons (de_addA (dr_pv (fun _ => pv 7)) (dr_pv (fun _ => pv 10))) (da_cons (de_call F__law_run (fun _ => ⟨rfl, rfl, rfl, rfl, rfl⟩) (fun _ => takes0) (fun _ => hr) (da_cons (de_pv (fun _ => pv 0)) (da_cons (de_pv (fun _ => pv 8)) (da_cons (de_pv (fun _ => pv 10)) da_nil)))) da_nil))) (fun _ => blkOk_by (N := N__law_texts_on) (sc := defScope (topS 47)) (by decide +kernel)))
    (dss_one (ds_set (i := 6) (de_addA (dr_pv (fun _ => pv 6)) (DE.r (DF.de (df_lcIf (own := [("step", 11)]) (fun _ => rfl) (fun _ => sc__law_texts_on.nd) (di_seq (fun _ => rfl) (de_pv (fun _ => pv 9))) (dg_pg (fun _ => pg_name (i := 11) sc__law_texts_on.nd rfl (by first | exact Or.inl rfl | exact Or.inr rfl))) (DX.dt (dx_notN (DE.r (de_ix (fun _ => rfl) (dr_pv (fun _ => pv 11)) (DE.r de_int))) (DE.r de_non))) (de_pv (fun _ => pv 11)) (fun _ => blkOk_by (N := N__law_texts_on) (sc := defScope (topS 47)) (by decide +kernel)))))) (fun _ => sc__law_texts_on.nd)))))
    (dss_one (ds_set (i := 3) (de_pv (fun _ => pv 6)) (fun _ => sc__law_texts_on.nd)))))))
    (dss_one (ds_ret (de_pv (fun _ => pv 4)))))))
    (fun ds ed Q h => by
      obtain ⟨M, R, s, ok, okR, hs, rfl, hq⟩ := h
      unfold N__law_texts_on
      have sz : ∀ i, i ≤ 3000 → i ≤ sizeLine := fun i h => by rw [sizeLine_eq]; omega
      have hi3 := okR.hi3
      have many := lv_many ok.l3
      have ml : ∀ n, n ≤ 4 → (lvW M s n).length ≤ 81 := fun n hn => Nat.le_trans (List.length_filterMap_le _ _) (Nat.le_trans (many n) (Nat.le_trans (Nat.pow_le_pow_right (by decide) hn) (by decide)))
      conv => whnf
      refine ⟨sz _ (by show 2 ≤ 3000; decide), ?_⟩
      conv => whnf
      refine ⟨sz _ (by show 1 ≤ 3000; decide), ?_⟩
      conv => whnf
      refine ⟨sz _ (by show 0 ≤ 3000; decide), ?_⟩
      conv => whnf
      refine ⟨by omega, by omega, ?_⟩
      rw [show ((R.hi : Int) + 1).toNat = R.hi + 1 from rfl, rng_from]
      refine ⟨.inr (by unfold rngF; rw [List.length_map, List.length_range']; omega), ?_⟩
      refine forW_ind (fun r G => ∃ k m, r = rngF k m ∧ k + m = R.hi + 1 ∧ ∃ x5 x6 x7 x8 x9 x10 x11 : Slot, G = aO M R s k x5 x6 x7 x8 x9 x10 x11) ?_ ?_ _ _ ⟨0, R.hi + 1, rfl, by omega, _, _, _, _, _, _, _, rfl⟩
      · rintro d r G ⟨k, m, hr, hm, x5, x6, x7, x8, x9, x10, x11, rfl⟩ next
        obtain ⟨m', rfl, rfl, rfl⟩ := rngF_cons hr
        have sl : (waysN M s R.lo k).length ≤ 108 := Nat.le_trans (List.length_filterMap_le _ _) (Nat.le_trans (strsN_len ok.l3 (n := k) (by omega)) (by omega))
        have lk := ml k (by omega)
        have wl : (waysN M s R.lo (k + 1)).length ≤ 108 := Nat.le_trans (List.length_filterMap_le _ _) (Nat.le_trans (strsN_len ok.l3 (n := k + 1) (by omega)) (by omega))
        have inS : ∀ x ∈ lvW M s k, x.1.length = k ∧ x.2 < M.rows.length := fun x hx => by
          obtain ⟨t, ht, e⟩ := List.mem_filterMap.mp hx
          cases hr : M.run (some s) t with
          | none => rw [hr] at e; exact nomatch e
          | some g =>
            rw [hr] at e
            cases e
            exact ⟨lv_len _ _ t ht, ok.run_in (s := some s) (fun k e => by cases e; exact hs) (lv_in _ _ t ht) g hr⟩
        conv => whnf
        refine fork_i (fun h0 => ?_) fun h0 => ?_
        have h0 : (R.lo : Int) ≤ (k : Int) := of_decide_eq_true h0
        have e1 : waysN M s R.lo k ++ lvW M s k = waysN M s R.lo (k + 1) := by rw [waysN_succ, if_pos (by omega)]
        conv => whnf
        refine ⟨sz _ (by rw [List.length_map, List.length_map]; omega), ?_⟩
        rw [← List.map_append, e1]
        rotate_left
        have h0 : ¬ (R.lo : Int) ≤ (k : Int) := of_decide_eq_false h0
        have e1 : waysN M s R.lo k = waysN M s R.lo (k + 1) := by rw [waysN_succ, if_neg (by omega), List.append_nil]
        unfold aO
        rw [e1]
        all_goals
          conv => whnf
          refine ⟨sz _ (by show 0 ≤ 3000; decide), ?_⟩
          conv => whnf
          refine ⟨.inr (by rw [List.length_map]; omega), ?_⟩
          refine forW_ind (fun r G => ∃ done rest : List Way, lvW M s k = done ++ rest ∧ r = rest.map wayD ∧ ∃ x7 x8 x9 x10 x11 : Slot, G = [.dat M.d, .dat (.int (s : Nat)), .dat R.d, .dat (.lst ((lvW M s k).map wayD)), .dat (.lst ((waysN M s R.lo (k + 1)).map wayD)), .dat (.int (k : Nat)), .dat (.lst ((done.flatMap (extW M)).map wayD)), x7, x8, x9, x10, x11]) ?_ ?_ _ _ ⟨[], lvW M s k, rfl, rfl, _, _, _, _, _, rfl⟩
          · rintro d r G ⟨done, rest, hd, hr, y7, y8, y9, y10, y11, rfl⟩ next2
            cases rest with
            | nil => exact nomatch hr
            | cons x rest =>
              rw [List.map_cons] at hr
              obtain ⟨rfl, rfl⟩ := List.cons.inj hr
              obtain ⟨tl, px⟩ := inS x (hd ▸ List.mem_append_right _ List.mem_cons_self)
              have cl : (chars (txt M.ls)).length = M.ls.length := by rw [chars_txt, List.length_map]
              have l3 := ok.l3
              conv => whnf
              refine ⟨rfl, rfl, ?_⟩
              conv => whnf
              refine ⟨by rw [cl]; exact small_lt (by omega), .inr (by rw [cl]; omega), ?_⟩
              rw [chars_txt]
              refine compW_map (f := stepD M x) (fun d hd Z hZ => ?_) ?_
              · obtain ⟨c, hc, rfl⟩ := List.mem_map.mp hd
                conv => whnf
                refine ⟨sz _ (by show x.1.length + 1 ≤ 3000; omega), ?_⟩
                rw [show (⟨#[c]⟩ : Str) = txt [c] from rfl, txt_cat]
                conv => whnf
                refine ⟨M, some x.2, [c], ok, rfl, fun k e => by cases e; exact px, fun c' h' => by rw [List.mem_singleton.mp h']; exact hc, ?_⟩
                conv => whnf
                exact ⟨sz _ (by show 2 ≤ 3000; decide), hZ⟩
              rw [List.nil_append]
              conv => whnf
              refine ⟨by rw [List.length_map, List.length_map]; exact small_lt (by omega), .inl rfl, ?_⟩
              refine compW_filter (f := id) (t := hasTo) (fun d hd Z1 Z2 h1 h2 => ?_) ?_
              · obtain ⟨d', hd', rfl⟩ := List.mem_map.mp hd
                obtain ⟨c, hc, rfl⟩ := List.mem_map.mp hd'
                have e : stepD M x (.str ⟨#[c]⟩) = .tup [wD (x.1 ++ [c]), goalD (M.step x.2 c)] := by
                  rw [← run_one]
                  rfl
                rw [e] at h1 h2 ⊢
                cases hs2 : M.step x.2 c with
                | none =>
                  rw [hs2] at h1 h2
                  conv => whnf
                  exact ⟨rfl, fork_f rfl (h2 rfl)⟩
                | some g =>
                  rw [hs2] at h1 h2
                  conv => whnf
                  exact ⟨rfl, fork_t rfl (h1 rfl)⟩
              rw [List.nil_append, ext_by]
              have l81 : (lvW M s (k + 1)).length ≤ 81 := ml (k + 1) (by omega)
              have split1 : lvW M s (k + 1) = done.flatMap (extW M) ++ (extW M x ++ rest.flatMap (extW M)) := by
                rw [lvW_succ, hd, List.flatMap_append, List.flatMap_cons]
              rw [split1, List.length_append, List.length_append] at l81
              conv => whnf
              refine ⟨sz _ (by rw [List.length_map, List.length_map]; show _ + (extW M x).length ≤ 3000; omega), ?_⟩
              refine next2 _ ⟨done ++ [x], rest, by rw [hd, List.append_assoc]; rfl, rfl, .dat (wD x.1), .dat (.int (x.2 : Nat)), .dat (.lst ((M.ls.map fun c => D.str ⟨#[c]⟩).map (stepD M x))), y10, y11, ?_⟩
              rw [List.flatMap_append, List.map_append, List.flatMap_cons, List.flatMap_nil, List.append_nil]
              rfl
          · rintro G ⟨done, rest, hd, hr, y7, y8, y9, y10, y11, rfl⟩
            cases rest with
            | cons _ _ => exact nomatch hr
            | nil =>
              rw [List.append_nil] at hd
              subst hd
              conv => whnf
              refine next _ ⟨k + 1, m', rfl, by omega, .dat (.int (k : Nat)), .dat (.lst (((lvW M s k).flatMap (extW M)).map wayD)), y7, y8, y9, y10, y11, ?_⟩
              unfold aO
              rw [lvW_succ]
              rfl
      · rintro G ⟨k, m, hr, hm, x5, x6, x7, x8, x9, x10, x11, rfl⟩
        obtain rfl := rngF_nil hr
        obtain rfl : k = R.hi + 1 := by omega
        exact hq)

end
end T

namespace T
open PySem PySem.Spec PyProof.Rows L2 DL
section
variable {P : Program} {w : World} {K : Fg} {mg : Str → Option Value} {base : Heap}
def onIf (M : Mach) (s : Nat) : D → Bool
  | .str z => (M.run (some s) z.cps.toList).isSome
  | _ => false
def onTo (M : Mach) (s : Nat) : D → D
  | .str z => .tup [.str z, goalD (M.run (some s) z.cps.toList)]
  | _ => .non
theorem ways_one (M : Mach) (s : Nat) : M.ways s 1 1 = (M.ls.map fun c => [c]).filterMap fun t => (M.run (some s) t).map fun g => (t, g) := by
  have e : strsA M.ls 1 1 = M.ls.map fun c => [c] := by
    show (([] ++ if 1 ≤ 0 then lv M.ls 0 else []) ++ if 1 ≤ 1 then lv M.ls 1 else []) = _
    rw [if_neg (by decide), if_pos (by decide)]
    show ([[]] : List (List Nat)).flatMap (fun t => M.ls.map fun c => t ++ [c]) = _
    rw [List.flatMap_cons, List.flatMap_nil, List.append_nil]
    rfl
  unfold Mach.ways
  rw [e]
theorem on_by (M : Mach) (s : Nat) : ∀ cs : List Nat, ((cs.map fun c => D.str ⟨#[c]⟩).filter (onIf M s)).map (onTo M s) = ((cs.map fun c => [c]).filterMap fun t => (M.run (some s) t).map fun g => (t, g)).map wayD
  | [] => rfl
  | c :: cs => by
    rw [List.map_cons, List.map_cons, List.filterMap_cons]
    have ih := on_by M s cs
    have e : onIf M s (.str ⟨#[c]⟩) = (M.run (some s) [c]).isSome := rfl
    have e2 : onTo M s (.str ⟨#[c]⟩) = .tup [wD [c], goalD (M.run (some s) [c])] := rfl
    cases h : M.run (some s) [c] with
    | none =>
      rw [h] at e
      rw [List.filter_cons_of_neg (by rw [e]; decide)]
      exact ih
    | some g =>
      rw [h] at e e2
      rw [List.filter_cons_of_pos (by rw [e]; rfl), List.map_cons, e2, ih]
      rfl
theorem wSq_cut {a b : WS} {G : Gm} {De : DEnds} (h : ∀ De' : DEnds, De'.ex = De.ex → De'.rt = De.rt → De'.rf = De.rf → (∀ G', b G' De → De'.nx G') → a G De') : wSq a b G De := h _ rfl rfl rfl (fun _ h => h)
def aM (M : Mach) (R : Rule) (S : Sd) (fd x11 x12 x13 : Slot) : Gm := [.dat M.d, .dat R.d, .dat S.d, .dat (.str R.k.s), .dat (.int (R.lo : Nat)), .dat (.int (R.hi : Nat)), .dat (.str S.ph.s), .dat (.int (S.st : Nat)), .dat (wD S.held), fd, .dat (.lst ((M.ways S.st 1 1).map wayD)), x11, x12, x13]
theorem asc_pw {xs : List Nat} (h : ascL xs = true) : xs.Pairwise (· < ·) := by
  have step : ∀ i, i + 1 < xs.length → xs.getD i 0 < xs.getD (i + 1) 0 := fun i hi => of_decide_eq_true (List.all_eq_true.mp h i (List.mem_range.mpr (by omega)))
  have far : ∀ n i, i + n + 1 < xs.length → xs.getD i 0 < xs.getD (i + n + 1) 0 := fun n => by
    induction n with
    | zero => intro i hi; exact step i hi
    | succ n ih => intro i hi; exact Nat.lt_trans (ih i (by omega)) (step (i + n + 1) (by omega))
  refine List.pairwise_iff_getElem.mpr fun i j hi hj hij => ?_
  have := far (j - i - 1) i (by omega)
  rw [show i + (j - i - 1) + 1 = j by omega, List.getD_eq_getElem?_getD, List.getElem?_eq_getElem hi, List.getD_eq_getElem?_getD, List.getElem?_eq_getElem hj] at this
  exact this
theorem mv_lt {c d s1 s2 : Nat} (h : c < d) (x y : Mv) (hx : x.sign = [c]) (hy : y.sign = [d]) : leD x.d y.d = true := by
  have e : PySem.W.dataLt y.p x.p = false := by
    unfold Mv.p
    rw [PySem.W.dataLt_tuple, PySem.W.dataLt_cons (by simp [PySem.W.alike]), hx, hy]
    rw [if_neg (by show ¬ (txt [d] == txt [c]) = true; exact fun z => by have := List.cons.inj (txt_inj (eq_of_beq z)); omega), PySem.W.dataLt_str]
    refine decide_eq_false fun z => ?_
    have z : [d] < [c] := z
    rcases List.cons_lt_cons_iff.mp z with z | ⟨z, _⟩ <;> omega
  show (!PySem.W.dataLt y.p x.p) = true
  rw [e]
  rfl
theorem sort_torn {M : Mach} (ok : M.Ok) {s : Nat} : sortD ((M.mvTorn s).map Mv.d) = (M.mvTorn s).map Mv.d := by
  refine List.mergeSort_of_pairwise ?_
  unfold Mach.mvTorn
  have pw : M.ls.Pairwise (· < ·) := by
    have h := (Bool.and_eq_true _ _ ▸ ok.ls : _ ∧ _).2
    have h : (decide (0 < ((txt M.ls).length : Int)) && ascL M.ls) = true := h
    rw [Bool.and_eq_true] at h
    exact asc_pw h.2
  rw [ways_one]
  refine List.pairwise_map.mpr (List.pairwise_map.mpr (List.pairwise_filterMap.mpr (List.pairwise_map.mpr (pw.imp fun {c d} h x ex y ey => ?_))))
  have fx : x.1 = [c] := by
    cases e : M.run (some s) [c] with
    | none => rw [e] at ex; exact nomatch ex
    | some g => rw [e] at ex; cases ex; rfl
  have fy : y.1 = [d] := by
    cases e : M.run (some s) [d] with
    | none => rw [e] at ey; exact nomatch ey
    | some g => rw [e] at ey; cases ey; rfl
  exact mv_lt (s1 := 0) (s2 := 0) h _ _ fx fy
def wf__law_moves : WF := fun ds ed Q => ∃ (M : Mach) (R : Rule) (S : Sd), M.Ok ∧ R.Ok ∧ S.Ok M R ∧ ds = [M.d, R.d, S.d] ∧ Q (.lst (M.mvs R S))
theorem len__law_moves {ds : List D} {ed : Value → Prop} {Q : D → Prop} (h : wf__law_moves ds ed Q) : ds.length = 3 := by
  obtain ⟨_, _, _, _, _, _, rfl, _⟩ := h
  rfl
abbrev N__law_moves : List Str := ["machine", "rule", "side", "kind", "least", "most", "phase", "p", "held", "found", "on", "c", "q", "s"]
theorem sc__law_moves : FnScope N__law_moves ["machine", "rule", "side"] (defScope (topS 48)) := ⟨rfl, rfl, rfl, by decide +kernel, rfl, by decide +kernel, by decide +kernel⟩
theorem ok__law_moves {f : Addr} {fd : FuncData}  (B : Bl mg)    (F__law_run : DFn P w K mg base "_law_run" 1 3 (wf__law_run)) (F__law_texts_on : DFn P w K mg base "_law_texts_on" 2 3 (wf__law_texts_on)) (F : Fun K "_law_moves" "_law_moves" (topS 48) f fd) (g : mg "_law_moves" = some (.ref f)) (b : Binds K fd ["machine", "rule", "side"] []) : DFn P w K mg base "_law_moves" 3 3 (wf__law_moves) := by
  exact dfn_of (N := N__law_moves) F sc__law_moves g b rfl (fun ds ed Q h => len__law_moves h) (fun cdv A outer s H E hr =>
    (dss_cons (ds_asgT (de_tup (da_cons (de_pv (fun _ => pv 1)) (da_cons (de_pv (fun _ => pv 2)) (da_cons (DF.de (df_lst da_nil)) da_nil)))) (dg_tup (n := 3) (fun _ => rfl) (fun _ => rfl) (dgs_cons (dg_tup (n := 3) (fun _ => rfl) (fun _ => rfl) (dgs_cons (dg_pg (fun _ => pg_name (i := 3) sc__law_moves.nd rfl (.inl rfl))) (dgs_cons (dg_pg (fun _ => pg_name (i := 4) sc__law_moves.nd rfl (.inl rfl))) (dgs_cons (dg_pg (fun _ => pg_name (i := 5) sc__law_moves.nd rfl (.inl rfl))) dgs_nil)))) (dgs_cons (dg_tup (n := 3) (fun _ => rfl) (fun _ => rfl) (dgs_cons (dg_pg (fun _ => pg_name (i := 6) sc__law_moves.nd rfl (.inl rfl))) (dgs_cons (dg_pg (fun _ => pg_name (i := 7) sc__law_moves.nd rfl (.inr rfl))) (dgs_cons (dg_pg (fun _ => pg_name (i := 8) sc__law_moves.nd rfl (.inr rfl))) dgs_nil)))) (dgs_cons (dg_pg (fun _ => pg_name (i := 9) sc__law_moves.nd rfl (.inl rfl))) dgs_nil)))))
    (dss_cons (ds_setLcIf (i := 10) (own := [("c", 11)]) (fun _ => rfl) (fun _ => sc__law_moves.nd) (di_seq (fun _ => rfl) (de_ix (fun _ => rfl) (dr_pv (fun _ => pv 0)) (DE.r de_int))) (dg_pg (fun _ => pg_name (i := 11) sc__law_moves.nd rfl (by first | exact Or.inl rfl | exact Or.inr rfl))) (DX.dt (dx_notN (DE.r (de_call F__law_run (fun _ => ⟨rfl, rfl, rfl, rfl, rfl⟩) (fun _ => takes0) (fun _ => hr) (da_cons (de_pv (fun _ => pv 0)) (da_cons (de_pv (fun _ => pv 7)) (da_cons (de_pv (fun _ => pv 11)) da_nil))))) (DE.r de_non))) (de_tup (da_cons (de_pv (fun _ => pv 11)) (da_cons (de_call F__law_run (fun _ => ⟨rfl, rfl, rfl, rfl, rfl⟩) (fun _ => takes0) (fun _ => hr) (da_cons (de_pv (fun _ => pv 0)) (da_cons (de_pv (fun _ => pv 7)) (da_cons (de_pv (fun _ => pv 11)) da_nil)))) da_nil))) (fun _ => blkOk_by (N := N__law_moves) (sc := defScope (topS 48)) (by decide +kernel)))
    (dss_cons (ds_if (DX.dt (dx_eq (dr_pv (fun _ => pv 6)) (DE.r de_str))) (dss_cons (ds_setLcO (i := 9) (own := [("c", 11), ("q", 12)]) (fun _ => rfl) (fun _ => sc__law_moves.nd) (di_seq (fun _ => rfl) (de_pv (fun _ => pv 10))) (dg_tup (n := 2) (fun _ => rfl) (fun _ => rfl) (dgs_cons (dg_pg (fun _ => pg_name (i := 11) sc__law_moves.nd rfl (by first | exact Or.inl rfl | exact Or.inr rfl))) (dgs_cons (dg_pg (fun _ => pg_name (i := 12) sc__law_moves.nd rfl (by first | exact Or.inl rfl | exact Or.inr rfl))) dgs_nil))) (de_tup (da_cons (de_pv (fun _ => pv 11)) (da_cons (de_pv (fun _ => pv 11)) (da_cons (de_tup (da_cons de_str (da_cons (de_pv (fun _ => pv 12)) (da_cons de_str da_nil)))) da_nil)))) (fun _ => blkOk_by (N := N__law_moves) (sc := defScope (topS 48)) (by decide +kernel)))
    (dss_cons (ds_if (DX.dt (dx_eq (dr_pv (fun _ => pv 3)) (DE.r de_str))) (dss_one (ds_setO (i := 9) (df_cat (dr_pv (fun _ => pv 9)) (DE.r (DF.de (df_lc (own := [("s", 13), ("q", 12)]) (fun _ => rfl) (fun _ => sc__law_moves.nd) (di_seq (fun _ => rfl) (de_call F__law_texts_on (fun _ => ⟨rfl, rfl, rfl, rfl, rfl⟩) (fun _ => takes_of rfl rfl rfl rfl) (fun _ => hr) (da_cons (de_pv (fun _ => pv 0)) (da_cons (de_pv (fun _ => pv 7)) (da_cons (de_pv (fun _ => pv 1)) da_nil))))) (dg_tup (n := 2) (fun _ => rfl) (fun _ => rfl) (dgs_cons (dg_pg (fun _ => pg_name (i := 13) sc__law_moves.nd rfl (by first | exact Or.inl rfl | exact Or.inr rfl))) (dgs_cons (dg_pg (fun _ => pg_name (i := 12) sc__law_moves.nd rfl (by first | exact Or.inl rfl | exact Or.inr rfl))) dgs_nil))) (de_tup (da_cons de_str (da_cons (de_pv (fun _ => pv 13)) (da_cons (de_tup (da_cons de_str (da_cons (de_pv (fun _ => pv 12)) (da_cons de_str da_nil)))) da_nil)))) (fun _ => blkOk_by (N := N__law_moves) (sc := defScope (topS 48)) (by decide +kernel)))))) (fun _ => sc__law_moves.nd))) dss_nil)
    (dss_cons (ds_if (DX.dt (dx_eq (dr_pv (fun _ => pv 3)) (DE.r de_str))) (dss_one (ds_setO (i := 9) (df_cat (dr_pv (fun _ => pv 9)) (DE.r (DF.de (df_lc (own := [("s", 13), ("q", 12)]) (fun _ => rfl) (fun _ => sc__law_moves.nd) (di_seq (fun _ => rfl) (de_call F__law_texts_on (fun _ => ⟨rfl, rfl, rfl, rfl, rfl⟩) (fun _ => takes_of rfl rfl rfl rfl) (fun _ => hr) (da_cons (de_pv (fun _ => pv 0)) (da_cons (de_pv (fun _ => pv 7)) (da_cons (de_pv (fun _ => pv 1)) da_nil))))) (dg_tup (n := 2) (fun _ => rfl) (fun _ => rfl) (dgs_cons (dg_pg (fun _ => pg_name (i := 13) sc__law_moves.nd rfl (by first | exact Or.inl rfl | exact Or.inr rfl))) (dgs_cons (dg_pg (fun _ => pg_name (i := 12) sc__law_moves.nd rfl (by first | exact Or.inl rfl | exact Or.inr rfl))) dgs_nil))) (de_tup (da_cons de_str (da_cons (de_pv (fun _ => pv 13)) (da_cons (de_tup (da_cons de_str (da_cons (de_pv (fun _ => pv 12)) (da_cons de_str da_nil)))) da_nil)))) (fun _ => blkOk_by (N := N__law_moves) (sc := defScope (topS 48)) (by decide +kernel)))))) (fun _ => sc__law_moves.nd))) dss_nil)
    (dss_cons (ds_if (DW.dt (dw_and (DX.dt (dx_eq (dr_pv (fun _ => pv 3)) (DE.r de_str))) (dw_and1 (DX.dt (dx_gt (dr_pv (fun _ => pv 5)) (DE.r de_int)))))) (dss_one (ds_setO (i := 9) (df_cat (dr_pv (fun _ => pv 9)) (DE.r (DF.de (df_lc (own := [("c", 11), ("q", 12)]) (fun _ => rfl) (fun _ => sc__law_moves.nd) (di_seq (fun _ => rfl) (de_pv (fun _ => pv 10))) (dg_tup (n := 2) (fun _ => rfl) (fun _ => rfl) (dgs_cons (dg_pg (fun _ => pg_name (i := 11) sc__law_moves.nd rfl (by first | exact Or.inl rfl | exact Or.inr rfl))) (dgs_cons (dg_pg (fun _ => pg_name (i := 12) sc__law_moves.nd rfl (by first | exact Or.inl rfl | exact Or.inr rfl))) dgs_nil))) (de_tup (da_cons de_str (da_cons (de_pv (fun _ => pv 11)) (da_cons (de_tup (da_cons de_str (da_cons (de_pv (fun _ => pv 12)) (da_cons de_str da_nil)))) da_nil)))) (fun _ => blkOk_by (N := N__law_moves) (sc := defScope (topS 48)) (by decide +kernel)))))) (fun _ => sc__law_moves.nd))) dss_nil)
    (dss_cons (ds_if (DW.dt (dw_and (DX.dt (dx_eq (dr_pv (fun _ => pv 3)) (DE.r de_str))) (dw_and1 (DX.dt (dx_gt (dr_pv (fun _ => pv 5)) (DE.r de_int)))))) (dss_one (ds_setO (i := 9) (df_cat (dr_pv (fun _ => pv 9)) (DE.r (DF.de (df_lc (own := [("c", 11), ("q", 12)]) (fun _ => rfl) (fun _ => sc__law_moves.nd) (di_seq (fun _ => rfl) (de_pv (fun _ => pv 10))) (dg_tup (n := 2) (fun _ => rfl) (fun _ => rfl) (dgs_cons (dg_pg (fun _ => pg_name (i := 11) sc__law_moves.nd rfl (by first | exact Or.inl rfl | exact Or.inr rfl))) (dgs_cons (dg_pg (fun _ => pg_name (i := 12) sc__law_moves.nd rfl (by first | exact Or.inl rfl | exact Or.inr rfl))) dgs_nil))) (de_tup (da_cons (de_pv (fun _ => pv 11)) (da_cons (de_pv (fun _ => pv 11)) (da_cons (de_tup (da_cons de_str (da_cons (de_pv (fun _ => pv 12)) (da_cons (de_pv (fun _ => pv 11)) da_nil)))) da_nil)))) (fun _ => blkOk_by (N := N__law_moves) (sc := defScope (topS 48)) (by decide +kernel)))))) (fun _ => sc__law_moves.nd))) dss_nil)
    (dss_one (ds_if (DW.dt (dw_and (DX.dt (dx_in (fun _ => rfl) (dr_pv (fun _ => pv 3)) (DE.r (DF.de (df_lst (da_cons de_str (da_cons de_str da_nil))))))) (dw_and1 (DX.dt (dx_eq (dr_pv (fun _ => pv 4)) (DE.r de_int)))))) (dss_one (ds_append (i := 9) (fun _ => rfl) (fun _ => pv 9) (de_tup (da_cons de_str (da_cons de_str (da_cons (de_tup (da_cons de_str (da_cons (de_pv (fun _ => pv 7)) (da_cons de_str da_nil)))) da_nil)))))) dss_nil))))))) dss_nil)
    (dss_cons (ds_if (DX.dt (dx_eq (dr_pv (fun _ => pv 6)) (DE.r de_str))) (dss_cons (ds_setO (i := 9) (df_if (DX.dt (dx_ltS (DE.r (de_len (fun _ => rfl) (fun _ => B.len) (db_cons (dr_pv (fun _ => pv 8)) db_nil))) (dr_pv (fun _ => pv 5)))) (df_lc (own := [("c", 11), ("q", 12)]) (fun _ => rfl) (fun _ => sc__law_moves.nd) (di_seq (fun _ => rfl) (de_pv (fun _ => pv 10))) (dg_tup (n := 2) (fun _ => rfl) (fun _ => rfl) (dgs_cons (dg_pg (fun _ => pg_name (i := 11) sc__law_moves.nd rfl (by first | exact Or.inl rfl | exact Or.inr rfl))) (dgs_cons (dg_pg (fun _ => pg_name (i := 12) sc__law_moves.nd rfl (by first | exact Or.inl rfl | exact Or.inr rfl))) dgs_nil))) (de_tup (da_cons de_str (da_cons (de_pv (fun _ => pv 11)) (da_cons (de_tup (da_cons de_str (da_cons (de_pv (fun _ => pv 12)) (da_cons (de_addA (dr_pv (fun _ => pv 8)) (DE.r de_str)) da_nil)))) da_nil)))) (fun _ => blkOk_by (N := N__law_moves) (sc := defScope (topS 48)) (by decide +kernel))) (df_lst da_nil)) (fun _ => sc__law_moves.nd))
    (dss_one (ds_setO (i := 9) (df_cat (dr_pv (fun _ => pv 9)) (DE.r (de_sl (fun _ => rfl) (DE.r (DF.de (df_lst (da_cons (de_tup (da_cons de_str (da_cons de_str (da_cons (de_tup (da_cons de_str (da_cons (de_pv (fun _ => pv 7)) (da_cons de_str da_nil)))) da_nil)))) da_nil)))) do_none (do_some (de_intOf (fun _ => B.int) (db_cons (DE.r (DX.de (dx_ge (DE.r (de_len (fun _ => rfl) (fun _ => B.len) (db_cons (dr_pv (fun _ => pv 8)) db_nil))) (dr_pv (fun _ => pv 4))))) db_nil)))))) (fun _ => sc__law_moves.nd)))) dss_nil)
    (dss_cons (ds_if (DX.dt (dx_eq (dr_pv (fun _ => pv 6)) (DE.r de_str))) (dss_cons (ds_setO (i := 9) (df_if (DX.dt (dx_ltS (DE.r (de_len (fun _ => rfl) (fun _ => B.len) (db_cons (dr_pv (fun _ => pv 8)) db_nil))) (dr_pv (fun _ => pv 5)))) (df_lc (own := [("c", 11), ("q", 12)]) (fun _ => rfl) (fun _ => sc__law_moves.nd) (di_seq (fun _ => rfl) (de_pv (fun _ => pv 10))) (dg_tup (n := 2) (fun _ => rfl) (fun _ => rfl) (dgs_cons (dg_pg (fun _ => pg_name (i := 11) sc__law_moves.nd rfl (by first | exact Or.inl rfl | exact Or.inr rfl))) (dgs_cons (dg_pg (fun _ => pg_name (i := 12) sc__law_moves.nd rfl (by first | exact Or.inl rfl | exact Or.inr rfl))) dgs_nil))) (de_tup (da_cons (de_pv (fun _ => pv 11)) (da_cons (de_pv (fun _ => pv 11)) (da_cons (de_tup (da_cons de_str (da_cons (de_pv (fun _ => pv 12)) (da_cons (de_addA (dr_pv (fun _ => pv 8)) (dr_pv (fun _ => pv 11))) da_nil)))) da_nil)))) (fun _ => blkOk_by (N := N__law_moves) (sc := defScope (topS 48)) (by decide +kernel))) (df_lst da_nil)) (fun _ => sc__law_moves.nd))
    (dss_one (ds_setO (i := 9) (df_cat (dr_pv (fun _ => pv 9)) (DE.r (de_sl (fun _ => rfl) (DE.r (DF.de (df_lst (da_cons (de_tup (da_cons de_str (da_cons de_str (da_cons (de_tup (da_cons de_str (da_cons (de_pv (fun _ => pv 7)) (da_cons (de_pv (fun _ => pv 8)) da_nil)))) da_nil)))) da_nil)))) do_none (do_some (de_intOf (fun _ => B.int) (db_cons (DE.r (DX.de (dx_ge (DE.r (de_len (fun _ => rfl) (fun _ => B.len) (db_cons (dr_pv (fun _ => pv 8)) db_nil))) (dr_pv (fun _ => pv 4))))) db_nil)))))) (fun _ => sc__law_moves.nd)))) dss_nil)
    (dss_cons (ds_if (DX.dt (dx_eq (dr_pv (fun _ => pv 6)) (DE.r de_str))) (dss_one (ds_setO (i := 9) (df_lst (da_cons (de_tup (da_cons (de_ix (fun _ => rfl) (dr_pv (fun _ => pv 8)) (DE.r de_int)) (da_cons de_str (da_cons (de_if (DX.dt (dx_gt (DE.r (de_len (fun _ => rfl) (fun _ => B.len) (db_cons (dr_pv (fun _ => pv 8)) db_nil))) (DE.r de_int))) (de_tup (da_cons de_str (da_cons (de_pv (fun _ => pv 7)) (da_cons (de_sl (fun _ => rfl) (dr_pv (fun _ => pv 8)) (do_some de_int) do_none) da_nil)))) (de_tup (da_cons de_str (da_cons (de_pv (fun _ => pv 7)) (da_cons de_str da_nil))))) da_nil)))) da_nil)) (fun _ => sc__law_moves.nd))) dss_nil)
    (dss_cons (ds_if (DX.dt (dx_eq (dr_pv (fun _ => pv 6)) (DE.r de_str))) (dss_one (ds_setLcO (i := 9) (own := [("c", 11), ("q", 12)]) (fun _ => rfl) (fun _ => sc__law_moves.nd) (di_seq (fun _ => rfl) (de_pv (fun _ => pv 10))) (dg_tup (n := 2) (fun _ => rfl) (fun _ => rfl) (dgs_cons (dg_pg (fun _ => pg_name (i := 11) sc__law_moves.nd rfl (by first | exact Or.inl rfl | exact Or.inr rfl))) (dgs_cons (dg_pg (fun _ => pg_name (i := 12) sc__law_moves.nd rfl (by first | exact Or.inl rfl | exact Or.inr rfl))) dgs_nil))) (de_tup (da_cons (de_pv (fun _ => pv 11)) (da_cons (de_pv (fun _ => pv 11)) (da_cons (de_tup (da_cons de_str (da_cons (de_pv (fun _ => pv 12)) (da_cons de_str da_nil)))) da_nil)))) (fun _ => blkOk_by (N := N__law_moves) (sc := defScope (topS 48)) (by decide +kernel)))) dss_nil)
    (dss_one (ds_ret (DF.de (df_sort (fun _ => rfl) (fun _ => rfl) (fun _ => hr) (fun _ => B.sorted) (db_cons (dr_pv (fun _ => pv 9)) db_nil)))))))))))))
    (fun ds ed Q h => by
      obtain ⟨M, R, ⟨ph, s, held⟩, ok, okR, okS, rfl, hq⟩ := h
      unfold N__law_moves
      have sz : ∀ i, i ≤ 3000 → i ≤ sizeLine := fun i h => by rw [sizeLine_eq]; omega
      have hi3 := okR.hi3
      have hl : held.length ≤ 3 := Nat.le_trans okS.h3 hi3
      have hs : s < M.rows.length := okS.st
      have hph := okS.ph
      have lW := ways_len ok (s := s) (lo := 1) (hi := 1) (by decide)
      refine wSq_cut fun Da _ _ _ na => ?_
      conv => whnf
      refine ⟨sz _ (by show 0 ≤ 3000; decide), ?_⟩
      conv => whnf
      refine ⟨sz _ (by show 3 ≤ 3000; decide), ?_⟩
      refine ⟨rfl, rfl, rfl, rfl, rfl, rfl, ?_⟩
      refine na _ ?_
      clear na
      refine wSq_cut fun Db _ _ _ nb => ?_
      have cl : (chars (txt M.ls)).length = M.ls.length := by rw [chars_txt, List.length_map]
      have l3 := ok.l3
      conv => whnf
      refine ⟨by rw [cl]; exact small_lt (by omega), .inl rfl, ?_⟩
      rw [chars_txt]
      refine compW_filter (f := onTo M s) (t := onIf M s) (fun d hd Z1 Z2 h1 h2 => ?_) ?_
      · obtain ⟨c, hc, rfl⟩ := List.mem_map.mp hd
        have e : onIf M s (.str ⟨#[c]⟩) = (M.run (some s) [c]).isSome := rfl
        conv => whnf
        refine ⟨M, some s, [c], ok, rfl, fun k e => by cases e; exact hs, fun c' h' => by rw [List.mem_singleton.mp h']; exact hc, ?_⟩
        cases hr : M.run (some s) [c] with
        | none =>
          rw [hr] at e
          conv => whnf
          exact ⟨rfl, fork_f rfl (h2 e)⟩
        | some g =>
          rw [hr] at e
          conv => whnf
          refine ⟨rfl, fork_t rfl ?_⟩
          conv => whnf
          refine ⟨M, some s, [c], ok, rfl, fun k e => by cases e; exact hs, fun c' h' => by rw [List.mem_singleton.mp h']; exact hc, ?_⟩
          conv => whnf
          exact ⟨sz _ (by show 2 ≤ 3000; decide), h1 e⟩
      rw [List.nil_append, show ((M.ls.map fun c => D.str ⟨#[c]⟩).filter (onIf M s)).map (onTo M s) = (M.ways s 1 1).map wayD by rw [ways_one]; exact on_by M s M.ls]
      refine nb _ ?_
      clear nb
      show wSq _ _ (aM M R ⟨ph, s, held⟩ (.dat (.lst [])) .un .un .un) _
      cases ph with
      | whole =>
        replace hq : Q (.lst (sortD ((M.mvWhole R s).map Mv.d))) := hq
        unfold Mach.mvWhole at hq
        refine wSq_cut fun Dc _ _ _ nc => ?_
        conv => whnf
        refine fork_t rfl ?_
        refine wSq_cut fun Dd _ _ _ nd => ?_
        conv => whnf
        refine ⟨by rw [List.length_map]; exact small_lt (Nat.le_trans lW (by decide)), .inl rfl, ?_⟩
        refine compW_map (f := mvOf fun x : Way => (⟨x.1, x.1, ⟨.whole, x.2, []⟩⟩ : Mv)) (fun d hd R hR => ?_) ?_
        · obtain ⟨x, hx, rfl⟩ := List.mem_map.mp hd
          conv => whnf
          refine ⟨rfl, rfl, ?_⟩
          conv => whnf
          refine ⟨sz _ (by show 3 ≤ 3000; decide), ?_⟩
          conv => whnf
          exact ⟨sz _ (by show 3 ≤ 3000; decide), hR⟩
        rw [ways_map]
        conv => whnf
        refine nd _ ?_
        clear nd
        have lA : ((M.ways s 1 1).map fun x => (⟨x.1, x.1, ⟨.whole, x.2, []⟩⟩ : Mv)).length ≤ 108 := by rw [List.length_map]; exact lW
        generalize ((M.ways s 1 1).map fun x => (⟨x.1, x.1, ⟨.whole, x.2, []⟩⟩ : Mv)) = A at hq lA ⊢
        have lW2 := ways_len ok (s := s) (lo := R.lo) (hi := R.hi) hi3
        rcases R with ⟨k, lo, hi⟩
        cases k with
        | closed =>
          rw [if_pos (.inr rfl)] at hq
          refine wSq_cut fun De _ _ _ ne => ?_
          conv => whnf
          refine fork_t rfl ?_
          conv => whnf
          refine ⟨M, ⟨.closed, lo, hi⟩, s, ok, okR, hs, rfl, ?_⟩
          conv => whnf
          refine ⟨by rw [List.length_map]; exact small_lt (Nat.le_trans lW2 (by decide)), .inl rfl, ?_⟩
          refine compW_map (f := mvOf fun x : Way => (⟨[], x.1, ⟨.torn, x.2, []⟩⟩ : Mv)) (fun d hd R hR => ?_) ?_
          · obtain ⟨x, hx, rfl⟩ := List.mem_map.mp hd
            conv => whnf
            refine ⟨rfl, rfl, ?_⟩
            conv => whnf
            refine ⟨sz _ (by show 3 ≤ 3000; decide), ?_⟩
            conv => whnf
            exact ⟨sz _ (by show 3 ≤ 3000; decide), hR⟩
          rw [ways_map]
          conv => whnf
          refine ⟨sz _ (by rw [List.length_map, List.length_map, List.length_map]; exact Nat.le_trans (Nat.add_le_add lA lW2) (by decide)), ?_⟩
          rw [← List.map_append]
          refine ne _ ?_
          clear ne
          refine wSq_cut fun Df _ _ _ nf => ?_
          conv => whnf
          refine fork_f rfl ?_
          conv => whnf
          refine nf _ ?_
          clear nf
          refine wSq_cut fun Dg _ _ _ ng => ?_
          conv => whnf
          refine fork_f rfl ?_
          conv => whnf
          refine fork_f rfl ?_
          conv => whnf
          refine ng _ ?_
          clear ng
          refine wSq_cut fun Dh _ _ _ nh => ?_
          conv => whnf
          refine fork_f rfl ?_
          conv => whnf
          refine fork_f rfl ?_
          conv => whnf
          refine nh _ ?_
          clear nh
          conv => whnf
          refine ⟨sz _ (by show 2 ≤ 3000; decide), ?_⟩
          conv => whnf
          refine ⟨rfl, rfl, ?_⟩
          refine fork_f rfl ?_
          conv => whnf
          refine fork_f rfl ?_
          conv => whnf
          refine nc _ ?_
          clear nc
          refine wSq_cut fun Di _ _ _ ni => ?_
          conv => whnf
          refine fork_f rfl ?_
          conv => whnf
          refine ni _ ?_
          clear ni
          refine wSq_cut fun Dj _ _ _ nj => ?_
          conv => whnf
          refine fork_f rfl ?_
          conv => whnf
          refine nj _ ?_
          clear nj
          refine wSq_cut fun Dk _ _ _ nk => ?_
          conv => whnf
          refine fork_f rfl ?_
          conv => whnf
          refine nk _ ?_
          clear nk
          refine wSq_cut fun Dl _ _ _ nl => ?_
          conv => whnf
          refine fork_f rfl ?_
          conv => whnf
          refine nl _ ?_
          clear nl
          conv => whnf
          rw [py_mvs]
          exact ⟨ok_mvs _, hq⟩
        | «open» =>
          rw [if_pos (.inl rfl)] at hq
          refine wSq_cut fun De _ _ _ ne => ?_
          conv => whnf
          refine fork_f rfl ?_
          conv => whnf
          refine ne _ ?_
          clear ne
          refine wSq_cut fun Df _ _ _ nf => ?_
          conv => whnf
          refine fork_t rfl ?_
          conv => whnf
          refine ⟨M, ⟨.open, lo, hi⟩, s, ok, okR, hs, rfl, ?_⟩
          conv => whnf
          refine ⟨by rw [List.length_map]; exact small_lt (Nat.le_trans lW2 (by decide)), .inl rfl, ?_⟩
          refine compW_map (f := mvOf fun x : Way => (⟨[42], x.1, ⟨.torn, x.2, []⟩⟩ : Mv)) (fun d hd R hR => ?_) ?_
          · obtain ⟨x, hx, rfl⟩ := List.mem_map.mp hd
            conv => whnf
            refine ⟨rfl, rfl, ?_⟩
            conv => whnf
            refine ⟨sz _ (by show 3 ≤ 3000; decide), ?_⟩
            conv => whnf
            exact ⟨sz _ (by show 3 ≤ 3000; decide), hR⟩
          rw [ways_map]
          conv => whnf
          refine ⟨sz _ (by rw [List.length_map, List.length_map, List.length_map]; exact Nat.le_trans (Nat.add_le_add lA lW2) (by decide)), ?_⟩
          rw [← List.map_append]
          refine nf _ ?_
          clear nf
          refine wSq_cut fun Dg _ _ _ ng => ?_
          conv => whnf
          refine fork_f rfl ?_
          conv => whnf
          refine fork_f rfl ?_
          conv => whnf
          refine ng _ ?_
          clear ng
          refine wSq_cut fun Dh _ _ _ nh => ?_
          conv => whnf
          refine fork_f rfl ?_
          conv => whnf
          refine fork_f rfl ?_
          conv => whnf
          refine nh _ ?_
          clear nh
          conv => whnf
          refine ⟨sz _ (by show 2 ≤ 3000; decide), ?_⟩
          conv => whnf
          refine ⟨rfl, rfl, ?_⟩
          refine fork_f rfl ?_
          conv => whnf
          refine fork_f rfl ?_
          conv => whnf
          refine nc _ ?_
          clear nc
          refine wSq_cut fun Di _ _ _ ni => ?_
          conv => whnf
          refine fork_f rfl ?_
          conv => whnf
          refine ni _ ?_
          clear ni
          refine wSq_cut fun Dj _ _ _ nj => ?_
          conv => whnf
          refine fork_f rfl ?_
          conv => whnf
          refine nj _ ?_
          clear nj
          refine wSq_cut fun Dk _ _ _ nk => ?_
          conv => whnf
          refine fork_f rfl ?_
          conv => whnf
          refine nk _ ?_
          clear nk
          refine wSq_cut fun Dl _ _ _ nl => ?_
          conv => whnf
          refine fork_f rfl ?_
          conv => whnf
          refine nl _ ?_
          clear nl
          conv => whnf
          rw [py_mvs]
          exact ⟨ok_mvs _, hq⟩
        | faded =>
          rw [if_neg (fun h => h.elim (fun h => nomatch h) fun h => nomatch h)] at hq
          refine wSq_cut fun De _ _ _ ne => ?_
          conv => whnf
          refine fork_f rfl ?_
          conv => whnf
          refine ne _ ?_
          clear ne
          refine wSq_cut fun Df _ _ _ nf => ?_
          conv => whnf
          refine fork_f rfl ?_
          conv => whnf
          refine nf _ ?_
          clear nf
          refine wSq_cut fun Dg _ _ _ ng => ?_
          conv => whnf
          refine fork_t rfl ?_
          conv => whnf
          refine fork_i (fun h0 => ?_) fun h0 => ?_
          have h0 : (0 : Int) < (hi : Int) := of_decide_eq_true h0
          rw [if_pos (by omega : 0 < hi)] at hq
          have eI : M.into .faded s [] = (M.ways s 1 1).map fun x => (⟨[63], x.1, ⟨.fading, x.2, [63]⟩⟩ : Mv) := rfl
          rw [eI] at hq
          conv => whnf
          refine ⟨by rw [List.length_map]; exact small_lt (Nat.le_trans lW (by decide)), .inl rfl, ?_⟩
          refine compW_map (f := mvOf fun x : Way => (⟨[63], x.1, ⟨.fading, x.2, [63]⟩⟩ : Mv)) (fun d hd R hR => ?_) ?_
          · obtain ⟨x, hx, rfl⟩ := List.mem_map.mp hd
            conv => whnf
            refine ⟨rfl, rfl, ?_⟩
            conv => whnf
            refine ⟨sz _ (by show 3 ≤ 3000; decide), ?_⟩
            conv => whnf
            exact ⟨sz _ (by show 3 ≤ 3000; decide), hR⟩
          rw [ways_map]
          conv => whnf
          refine ⟨sz _ (by rw [List.length_map, List.length_map, List.length_map]; exact Nat.le_trans (Nat.add_le_add lA lW) (by decide)), ?_⟩
          rw [← List.map_append]
          rw [← List.append_assoc] at hq
          have lB : (A ++ (M.ways s 1 1).map fun x => (⟨[63], x.1, ⟨.fading, x.2, [63]⟩⟩ : Mv)).length ≤ 300 := by rw [List.length_append, List.length_map]; exact Nat.le_trans (Nat.add_le_add lA lW) (by decide)
          generalize (A ++ (M.ways s 1 1).map fun x => (⟨[63], x.1, ⟨.fading, x.2, [63]⟩⟩ : Mv)) = B at hq lB ⊢
          rotate_left
          have h0 : ¬ (0 : Int) < (hi : Int) := of_decide_eq_false h0
          rw [if_neg (by omega : ¬ 0 < hi), List.nil_append] at hq
          have lB : A.length ≤ 300 := Nat.le_trans lA (by decide)
          obtain ⟨B, rfl⟩ : ∃ B, B = A := ⟨A, rfl⟩
          all_goals
            conv => whnf
            refine ng _ ?_
            clear ng
            refine wSq_cut fun Dh _ _ _ nh => ?_
            conv => whnf
            refine fork_f rfl ?_
            conv => whnf
            refine fork_f rfl ?_
            conv => whnf
            refine nh _ ?_
            clear nh
            conv => whnf
            refine ⟨sz _ (by show 2 ≤ 3000; decide), ?_⟩
            conv => whnf
            refine ⟨rfl, rfl, ?_⟩
            refine fork_t rfl ?_
            conv => whnf
            refine fork_i (fun h1 => ?_) fun h1 => ?_
            have h1 : (lo : Int) = 0 := of_decide_eq_true h1
            obtain rfl : lo = 0 := by omega
            conv => whnf
            refine ⟨by rw [List.length_map]; exact small_lt (Nat.le_trans lB (by decide)), ?_⟩
            conv => whnf
            refine ⟨sz _ (by show 3 ≤ 3000; decide), ?_⟩
            conv => whnf
            refine ⟨sz _ (by show 3 ≤ 3000; decide), ?_⟩
            rw [if_pos rfl] at hq
            have eB : B.map Mv.d ++ [D.tup [.str "", .str "", .tup [.str "torn", .int (s : Nat), .str ""]]] = (B ++ [(⟨[], [], ⟨.torn, s, []⟩⟩ : Mv)]).map Mv.d := by rw [List.map_append]; rfl
            rw [eB]
            generalize B ++ [(⟨[], [], ⟨.torn, s, []⟩⟩ : Mv)] = Z at hq ⊢
            rotate_left
            have h1 : ¬ (lo : Int) = 0 := of_decide_eq_false h1
            rw [if_neg (by omega : ¬ lo = 0), List.append_nil] at hq
            obtain ⟨Z, rfl⟩ : ∃ Z, Z = B := ⟨B, rfl⟩
            all_goals
              conv => whnf
              refine nc _ ?_
              clear nc
              refine wSq_cut fun Di _ _ _ ni => ?_
              conv => whnf
              refine fork_f rfl ?_
              conv => whnf
              refine ni _ ?_
              clear ni
              refine wSq_cut fun Dj _ _ _ nj => ?_
              conv => whnf
              refine fork_f rfl ?_
              conv => whnf
              refine nj _ ?_
              clear nj
              refine wSq_cut fun Dk _ _ _ nk => ?_
              conv => whnf
              refine fork_f rfl ?_
              conv => whnf
              refine nk _ ?_
              clear nk
              refine wSq_cut fun Dl _ _ _ nl => ?_
              conv => whnf
              refine fork_f rfl ?_
              conv => whnf
              refine nl _ ?_
              clear nl
              conv => whnf
              rw [py_mvs]
              exact ⟨ok_mvs _, hq⟩
        | doubled =>
          rw [if_neg (fun h => h.elim (fun h => nomatch h) fun h => nomatch h)] at hq
          refine wSq_cut fun De _ _ _ ne => ?_
          conv => whnf
          refine fork_f rfl ?_
          conv => whnf
          refine ne _ ?_
          clear ne
          refine wSq_cut fun Df _ _ _ nf => ?_
          conv => whnf
          refine fork_f rfl ?_
          conv => whnf
          refine nf _ ?_
          clear nf
          refine wSq_cut fun Dg _ _ _ ng => ?_
          conv => whnf
          refine fork_f rfl ?_
          conv => whnf
          refine fork_f rfl ?_
          conv => whnf
          refine ng _ ?_
          clear ng
          refine wSq_cut fun Dh _ _ _ nh => ?_
          conv => whnf
          refine fork_t rfl ?_
          conv => whnf
          refine fork_i (fun h0 => ?_) fun h0 => ?_
          have h0 : (0 : Int) < (hi : Int) := of_decide_eq_true h0
          rw [if_pos (by omega : 0 < hi)] at hq
          have eI : M.into .doubled s [] = (M.ways s 1 1).map fun x => (⟨x.1, x.1, ⟨.once, x.2, x.1⟩⟩ : Mv) := rfl
          rw [eI] at hq
          conv => whnf
          refine ⟨by rw [List.length_map]; exact small_lt (Nat.le_trans lW (by decide)), .inl rfl, ?_⟩
          refine compW_map (f := mvOf fun x : Way => (⟨x.1, x.1, ⟨.once, x.2, x.1⟩⟩ : Mv)) (fun d hd R hR => ?_) ?_
          · obtain ⟨x, hx, rfl⟩ := List.mem_map.mp hd
            conv => whnf
            refine ⟨rfl, rfl, ?_⟩
            conv => whnf
            refine ⟨sz _ (by show 3 ≤ 3000; decide), ?_⟩
            conv => whnf
            exact ⟨sz _ (by show 3 ≤ 3000; decide), hR⟩
          rw [ways_map]
          conv => whnf
          refine ⟨sz _ (by rw [List.length_map, List.length_map, List.length_map]; exact Nat.le_trans (Nat.add_le_add lA lW) (by decide)), ?_⟩
          rw [← List.map_append]
          rw [← List.append_assoc] at hq
          have lB : (A ++ (M.ways s 1 1).map fun x => (⟨x.1, x.1, ⟨.once, x.2, x.1⟩⟩ : Mv)).length ≤ 300 := by rw [List.length_append, List.length_map]; exact Nat.le_trans (Nat.add_le_add lA lW) (by decide)
          generalize (A ++ (M.ways s 1 1).map fun x => (⟨x.1, x.1, ⟨.once, x.2, x.1⟩⟩ : Mv)) = B at hq lB ⊢
          rotate_left
          have h0 : ¬ (0 : Int) < (hi : Int) := of_decide_eq_false h0
          rw [if_neg (by omega : ¬ 0 < hi), List.nil_append] at hq
          have lB : A.length ≤ 300 := Nat.le_trans lA (by decide)
          obtain ⟨B, rfl⟩ : ∃ B, B = A := ⟨A, rfl⟩
          all_goals
            conv => whnf
            refine nh _ ?_
            clear nh
            conv => whnf
            refine ⟨sz _ (by show 2 ≤ 3000; decide), ?_⟩
            conv => whnf
            refine ⟨rfl, rfl, ?_⟩
            refine fork_t rfl ?_
            conv => whnf
            refine fork_i (fun h1 => ?_) fun h1 => ?_
            have h1 : (lo : Int) = 0 := of_decide_eq_true h1
            obtain rfl : lo = 0 := by omega
            conv => whnf
            refine ⟨by rw [List.length_map]; exact small_lt (Nat.le_trans lB (by decide)), ?_⟩
            conv => whnf
            refine ⟨sz _ (by show 3 ≤ 3000; decide), ?_⟩
            conv => whnf
            refine ⟨sz _ (by show 3 ≤ 3000; decide), ?_⟩
            rw [if_pos rfl] at hq
            have eB : B.map Mv.d ++ [D.tup [.str "", .str "", .tup [.str "torn", .int (s : Nat), .str ""]]] = (B ++ [(⟨[], [], ⟨.torn, s, []⟩⟩ : Mv)]).map Mv.d := by rw [List.map_append]; rfl
            rw [eB]
            generalize B ++ [(⟨[], [], ⟨.torn, s, []⟩⟩ : Mv)] = Z at hq ⊢
            rotate_left
            have h1 : ¬ (lo : Int) = 0 := of_decide_eq_false h1
            rw [if_neg (by omega : ¬ lo = 0), List.append_nil] at hq
            obtain ⟨Z, rfl⟩ : ∃ Z, Z = B := ⟨B, rfl⟩
            all_goals
              conv => whnf
              refine nc _ ?_
              clear nc
              refine wSq_cut fun Di _ _ _ ni => ?_
              conv => whnf
              refine fork_f rfl ?_
              conv => whnf
              refine ni _ ?_
              clear ni
              refine wSq_cut fun Dj _ _ _ nj => ?_
              conv => whnf
              refine fork_f rfl ?_
              conv => whnf
              refine nj _ ?_
              clear nj
              refine wSq_cut fun Dk _ _ _ nk => ?_
              conv => whnf
              refine fork_f rfl ?_
              conv => whnf
              refine nk _ ?_
              clear nk
              refine wSq_cut fun Dl _ _ _ nl => ?_
              conv => whnf
              refine fork_f rfl ?_
              conv => whnf
              refine nl _ ?_
              clear nl
              conv => whnf
              rw [py_mvs]
              exact ⟨ok_mvs _, hq⟩
      | torn =>
        replace hq : Q (.lst ((M.mvTorn s).map Mv.d)) := hq
        refine wSq_cut fun Dc _ _ _ nc => ?_
        conv => whnf
        refine fork_f rfl ?_
        conv => whnf
        refine nc _ ?_
        clear nc
        refine wSq_cut fun Dd _ _ _ nd => ?_
        conv => whnf
        refine fork_f rfl ?_
        conv => whnf
        refine nd _ ?_
        clear nd
        refine wSq_cut fun De _ _ _ ne => ?_
        conv => whnf
        refine fork_f rfl ?_
        conv => whnf
        refine ne _ ?_
        clear ne
        refine wSq_cut fun Df _ _ _ nf => ?_
        conv => whnf
        refine fork_f rfl ?_
        conv => whnf
        refine nf _ ?_
        clear nf
        refine wSq_cut fun Dg _ _ _ ng => ?_
        conv => whnf
        refine fork_t rfl ?_
        conv => whnf
        refine ⟨by rw [List.length_map]; exact small_lt (Nat.le_trans lW (by decide)), .inl rfl, ?_⟩
        refine compW_map (f := mvOf fun x : Way => (⟨x.1, x.1, ⟨.torn, x.2, []⟩⟩ : Mv)) (fun d hd R hR => ?_) ?_
        · obtain ⟨x, hx, rfl⟩ := List.mem_map.mp hd
          conv => whnf
          refine ⟨rfl, rfl, ?_⟩
          conv => whnf
          refine ⟨sz _ (by show 3 ≤ 3000; decide), ?_⟩
          conv => whnf
          exact ⟨sz _ (by show 3 ≤ 3000; decide), hR⟩
        rw [ways_map]
        conv => whnf
        refine ng _ ?_
        clear ng
        conv => whnf
        rw [py_mvs]
        refine ⟨ok_mvs _, ?_⟩
        rw [show ((M.ways s 1 1).map fun x => (⟨x.1, x.1, ⟨.torn, x.2, []⟩⟩ : Mv)) = M.mvTorn s from rfl, sort_torn ok]
        exact hq
      | twice =>
        obtain ⟨hk, h1, hin⟩ : R.k = .doubled ∧ 1 ≤ held.length ∧ ∀ c ∈ held, c ∈ M.ls := hph
        replace hq : Q (.lst [(Sd.tw ⟨.twice, s, held⟩).d]) := hq
        refine wSq_cut fun Dc _ _ _ nc => ?_
        conv => whnf
        refine fork_f rfl ?_
        conv => whnf
        refine nc _ ?_
        clear nc
        refine wSq_cut fun Dd _ _ _ nd => ?_
        conv => whnf
        refine fork_f rfl ?_
        conv => whnf
        refine nd _ ?_
        clear nd
        refine wSq_cut fun De _ _ _ ne => ?_
        conv => whnf
        refine fork_f rfl ?_
        conv => whnf
        refine ne _ ?_
        clear ne
        refine wSq_cut fun Df _ _ _ nf => ?_
        conv => whnf
        refine fork_t rfl ?_
        conv => whnf
        have lH : (txt held).length ≤ sizeLine := sz _ (by show held.length ≤ 3000; omega)
        have one : ∀ m : Mv, sortD [m.d] = [m.d] := fun m => List.mergeSort_singleton ..
        cases held with
        | nil => exact absurd h1 (by decide)
        | cons c0 r =>
          refine ⟨lH, ?_⟩
          rw [show atI (txt (Sd.held ⟨.twice, s, c0 :: r⟩)).cps.toList 0 = some c0 from atI_nat (j := 0) (show (c0 :: r)[0]? = some c0 from rfl)]
          conv => whnf
          refine ⟨lH, ?_⟩
          conv => whnf
          refine fork_i (fun h2 => ?_) fun h2 => ?_
          have h2 : (1 : Int) < ((c0 :: r).length : Int) := of_decide_eq_true h2
          have et : Sd.tw ⟨.twice, s, c0 :: r⟩ = ⟨[c0], [], ⟨.twice, s, r⟩⟩ := if_neg (by show ¬ (c0 :: r).length = 1; omega)
          conv => whnf
          refine ⟨lH, ?_⟩
          rw [show (1 : Int) = ((1 : Nat) : Int) from rfl, cut_from]
          rotate_left
          have h2 : ¬ (1 : Int) < ((c0 :: r).length : Int) := of_decide_eq_false h2
          obtain rfl : r = [] := by
            cases r with
            | nil => rfl
            | cons a b => exact absurd (by show (1 : Int) < ((b.length + 1 + 1 : Nat) : Int); omega) h2
          have et : Sd.tw ⟨.twice, s, [c0]⟩ = ⟨[c0], [], ⟨.torn, s, []⟩⟩ := if_pos rfl
          all_goals
            rw [et] at hq
            conv => whnf
            refine ⟨sz _ (by show 3 ≤ 3000; decide), ?_⟩
            conv => whnf
            refine ⟨sz _ (by show 3 ≤ 3000; decide), ?_⟩
            conv => whnf
            refine ⟨sz _ (by show 1 ≤ 3000; decide), ?_⟩
            refine nf _ ?_
            clear nf
            first
            | change wSq _ _ (aM M R ⟨.twice, s, c0 :: r⟩ (.own (.lst ([(⟨[c0], [], ⟨.twice, s, r⟩⟩ : Mv)].map Mv.d))) .un .un .un) _
            | change wSq _ _ (aM M R ⟨.twice, s, [c0]⟩ (.own (.lst ([(⟨[c0], [], ⟨.torn, s, []⟩⟩ : Mv)].map Mv.d))) .un .un .un) _
            refine wSq_cut fun Dg _ _ _ ng => ?_
            conv => whnf
            refine fork_f rfl ?_
            conv => whnf
            refine ng _ ?_
            clear ng
            conv => whnf
            refine ⟨ok_mvs [_], ?_⟩
            rw [List.map_cons, List.map_nil, one]
            exact hq
      | fading =>
        obtain ⟨hk, _⟩ : R.k = .faded ∧ 1 ≤ held.length ∧ held = List.replicate held.length 63 := hph
        replace hq : Q (.lst (sortD ((M.mvIn R s held).map Mv.d))) := hq
        unfold Mach.mvIn at hq
        have hkf : R.k = .faded := hk
        rw [if_pos hkf] at hq
        have lH : (txt held).length ≤ sizeLine := sz _ (by show held.length ≤ 3000; omega)
        have eI : M.into R.k s held = (M.ways s 1 1).map fun x => (⟨[63], x.1, ⟨.fading, x.2, held ++ [63]⟩⟩ : Mv) := by
          unfold Mach.into
          refine List.map_congr_left fun x _ => ?_
          rw [if_pos hkf]
        rw [eI] at hq
        refine wSq_cut fun Dc _ _ _ nc => ?_
        conv => whnf
        refine fork_f rfl ?_
        conv => whnf
        refine nc _ ?_
        clear nc
        refine wSq_cut fun Dp _ _ _ np => ?_
        conv => whnf
        refine fork_t rfl ?_
        refine wSq_cut fun Dq _ _ _ nq => ?_
        conv => whnf
        refine ⟨lH, ?_⟩
        conv => whnf
        refine fork_i (fun h0 => ?_) fun h0 => ?_
        have h0 : (held.length : Int) < (R.hi : Int) := of_decide_eq_true h0
        rw [if_pos (by omega : held.length < R.hi)] at hq
        conv => whnf
        refine ⟨by rw [List.length_map]; exact small_lt (Nat.le_trans lW (by decide)), .inl rfl, ?_⟩
        refine compW_map (f := mvOf fun x : Way => (⟨[63], x.1, ⟨.fading, x.2, held ++ [63]⟩⟩ : Mv)) (fun d hd R hR => ?_) ?_
        · obtain ⟨x, hx, rfl⟩ := List.mem_map.mp hd
          conv => whnf
          refine ⟨rfl, rfl, ?_⟩
          conv => whnf
          refine ⟨sz _ (by show held.length + 1 ≤ 3000; omega), ?_⟩
          rw [show Str.ofString "?" = txt [63] from rfl, txt_cat]
          conv => whnf
          refine ⟨sz _ (by show 3 ≤ 3000; decide), ?_⟩
          conv => whnf
          exact ⟨sz _ (by show 3 ≤ 3000; decide), hR⟩
        rw [ways_map]
        have lB : ((M.ways s 1 1).map fun x => (⟨[63], x.1, ⟨.fading, x.2, held ++ [63]⟩⟩ : Mv)).length ≤ 108 := by rw [List.length_map]; exact lW
        generalize ((M.ways s 1 1).map fun x => (⟨[63], x.1, ⟨.fading, x.2, held ++ [63]⟩⟩ : Mv)) = B at hq lB ⊢
        refine nq _ ?_
        clear nq
        rotate_left
        have h0 : ¬ (held.length : Int) < (R.hi : Int) := of_decide_eq_false h0
        rw [if_neg (by omega : ¬ held.length < R.hi)] at hq
        obtain ⟨B, eB⟩ : ∃ B : List Mv, B = [] := ⟨[], rfl⟩
        have lB : B.length ≤ 108 := by rw [eB]; decide
        conv => whnf
        refine ⟨sz _ (by show 0 ≤ 3000; decide), ?_⟩
        refine nq _ ?_
        clear nq
        change (_ : WS) (aM M R ⟨.fading, s, held⟩ (.own (.lst (([] : List Mv).map Mv.d))) .un .un .un) _
        rw [← eB]
        replace hq : Q (.lst (sortD ((B ++ if R.lo ≤ held.length then [(⟨[], [], ⟨.torn, s, []⟩⟩ : Mv)] else []).map Mv.d))) := by rw [eB]; exact hq
        all_goals
          conv => whnf
          refine ⟨sz _ (by show 3 ≤ 3000; decide), ?_⟩
          conv => whnf
          refine ⟨sz _ (by show 3 ≤ 3000; decide), ?_⟩
          conv => whnf
          refine ⟨sz _ (by show 1 ≤ 3000; decide), ?_⟩
          conv => whnf
          refine ⟨lH, ?_⟩
          conv => whnf
          have ec : cut [(⟨[], [], ⟨.torn, s, []⟩⟩ : Mv).d] none (some (if decide ((R.lo : Int) ≤ (held.length : Int)) = true then 1 else 0)) = (if R.lo ≤ held.length then [(⟨[], [], ⟨.torn, s, []⟩⟩ : Mv)] else []).map Mv.d := by
            by_cases h : R.lo ≤ held.length
            · rw [decide_eq_true (by omega), if_pos rfl, if_pos h]
              rfl
            · rw [decide_eq_false (by omega), if_neg (by decide), if_neg h]
              rfl
          have le1 : (if R.lo ≤ held.length then [(⟨[], [], ⟨.torn, s, []⟩⟩ : Mv)] else []).length ≤ 1 := by split <;> first | exact Nat.le_refl 1 | exact Nat.zero_le 1
          change _ + (cut [(⟨[], [], ⟨.torn, s, []⟩⟩ : Mv).d] none (some (if decide ((R.lo : Int) ≤ (held.length : Int)) = true then 1 else 0))).length ≤ sizeLine ∧ Dp.nx (List.set _ 9 (.own (.lst (_ ++ cut [(⟨[], [], ⟨.torn, s, []⟩⟩ : Mv).d] none (some (if decide ((R.lo : Int) ≤ (held.length : Int)) = true then 1 else 0))))))
          rw [ec]
          refine ⟨sz _ (by rw [List.length_map, List.length_map]; omega), ?_⟩
          rw [← List.map_append]
          refine np _ ?_
          clear np
          refine wSq_cut fun Dr _ _ _ nr => ?_
          conv => whnf
          refine fork_f rfl ?_
          conv => whnf
          refine nr _ ?_
          clear nr
          refine wSq_cut fun Dt _ _ _ nt => ?_
          conv => whnf
          refine fork_f rfl ?_
          conv => whnf
          refine nt _ ?_
          clear nt
          refine wSq_cut fun Du _ _ _ nu => ?_
          conv => whnf
          refine fork_f rfl ?_
          conv => whnf
          refine nu _ ?_
          clear nu
          conv => whnf
          rw [py_mvs]
          exact ⟨ok_mvs _, hq⟩
      | once =>
        obtain ⟨hk, _⟩ : R.k = .doubled ∧ 1 ≤ held.length ∧ ∀ c ∈ held, c ∈ M.ls := hph
        replace hq : Q (.lst (sortD ((M.mvIn R s held).map Mv.d))) := hq
        unfold Mach.mvIn at hq
        have hkf : R.k ≠ .faded := by rw [hk]; decide
        rw [if_neg hkf] at hq
        have lH : (txt held).length ≤ sizeLine := sz _ (by show held.length ≤ 3000; omega)
        have eI : M.into R.k s held = (M.ways s 1 1).map fun x => (⟨x.1, x.1, ⟨.once, x.2, held ++ x.1⟩⟩ : Mv) := by
          unfold Mach.into
          refine List.map_congr_left fun x _ => ?_
          rw [if_neg hkf]
        rw [eI] at hq
        refine wSq_cut fun Dc _ _ _ nc => ?_
        conv => whnf
        refine fork_f rfl ?_
        conv => whnf
        refine nc _ ?_
        clear nc
        refine wSq_cut fun Dd _ _ _ nd => ?_
        conv => whnf
        refine fork_f rfl ?_
        conv => whnf
        refine nd _ ?_
        clear nd
        refine wSq_cut fun Dp _ _ _ np => ?_
        conv => whnf
        refine fork_t rfl ?_
        refine wSq_cut fun Dq _ _ _ nq => ?_
        conv => whnf
        refine ⟨lH, ?_⟩
        conv => whnf
        refine fork_i (fun h0 => ?_) fun h0 => ?_
        have h0 : (held.length : Int) < (R.hi : Int) := of_decide_eq_true h0
        rw [if_pos (by omega : held.length < R.hi)] at hq
        conv => whnf
        refine ⟨by rw [List.length_map]; exact small_lt (Nat.le_trans lW (by decide)), .inl rfl, ?_⟩
        refine compW_map (f := mvOf fun x : Way => (⟨x.1, x.1, ⟨.once, x.2, held ++ x.1⟩⟩ : Mv)) (fun d hd R hR => ?_) ?_
        · obtain ⟨x, hx, rfl⟩ := List.mem_map.mp hd
          conv => whnf
          refine ⟨rfl, rfl, ?_⟩
          have xl := (strsA_mem (ways_mem hx).1).2.1
          conv => whnf
          refine ⟨sz _ (by show held.length + x.1.length ≤ 3000; omega), ?_⟩
          rw [txt_cat]
          conv => whnf
          refine ⟨sz _ (by show 3 ≤ 3000; decide), ?_⟩
          conv => whnf
          exact ⟨sz _ (by show 3 ≤ 3000; decide), hR⟩
        rw [ways_map]
        have lB : ((M.ways s 1 1).map fun x => (⟨x.1, x.1, ⟨.once, x.2, held ++ x.1⟩⟩ : Mv)).length ≤ 108 := by rw [List.length_map]; exact lW
        generalize ((M.ways s 1 1).map fun x => (⟨x.1, x.1, ⟨.once, x.2, held ++ x.1⟩⟩ : Mv)) = B at hq lB ⊢
        refine nq _ ?_
        clear nq
        rotate_left
        have h0 : ¬ (held.length : Int) < (R.hi : Int) := of_decide_eq_false h0
        rw [if_neg (by omega : ¬ held.length < R.hi)] at hq
        obtain ⟨B, eB⟩ : ∃ B : List Mv, B = [] := ⟨[], rfl⟩
        have lB : B.length ≤ 108 := by rw [eB]; decide
        conv => whnf
        refine ⟨sz _ (by show 0 ≤ 3000; decide), ?_⟩
        refine nq _ ?_
        clear nq
        change (_ : WS) (aM M R ⟨.once, s, held⟩ (.own (.lst (([] : List Mv).map Mv.d))) .un .un .un) _
        rw [← eB]
        replace hq : Q (.lst (sortD ((B ++ if R.lo ≤ held.length then [(⟨[], [], ⟨.twice, s, held⟩⟩ : Mv)] else []).map Mv.d))) := by rw [eB]; exact hq
        all_goals
          conv => whnf
          refine ⟨sz _ (by show 3 ≤ 3000; decide), ?_⟩
          conv => whnf
          refine ⟨sz _ (by show 3 ≤ 3000; decide), ?_⟩
          conv => whnf
          refine ⟨sz _ (by show 1 ≤ 3000; decide), ?_⟩
          conv => whnf
          refine ⟨lH, ?_⟩
          conv => whnf
          have ec : cut [(⟨[], [], ⟨.twice, s, held⟩⟩ : Mv).d] none (some (if decide ((R.lo : Int) ≤ (held.length : Int)) = true then 1 else 0)) = (if R.lo ≤ held.length then [(⟨[], [], ⟨.twice, s, held⟩⟩ : Mv)] else []).map Mv.d := by
            by_cases h : R.lo ≤ held.length
            · rw [decide_eq_true (by omega), if_pos rfl, if_pos h]
              rfl
            · rw [decide_eq_false (by omega), if_neg (by decide), if_neg h]
              rfl
          have le1 : (if R.lo ≤ held.length then [(⟨[], [], ⟨.twice, s, held⟩⟩ : Mv)] else []).length ≤ 1 := by split <;> first | exact Nat.le_refl 1 | exact Nat.zero_le 1
          change _ + (cut [(⟨[], [], ⟨.twice, s, held⟩⟩ : Mv).d] none (some (if decide ((R.lo : Int) ≤ (held.length : Int)) = true then 1 else 0))).length ≤ sizeLine ∧ Dp.nx (List.set _ 9 (.own (.lst (_ ++ cut [(⟨[], [], ⟨.twice, s, held⟩⟩ : Mv).d] none (some (if decide ((R.lo : Int) ≤ (held.length : Int)) = true then 1 else 0))))))
          rw [ec]
          refine ⟨sz _ (by rw [List.length_map, List.length_map]; omega), ?_⟩
          rw [← List.map_append]
          refine np _ ?_
          clear np
          refine wSq_cut fun Dt _ _ _ nt => ?_
          conv => whnf
          refine fork_f rfl ?_
          conv => whnf
          refine nt _ ?_
          clear nt
          refine wSq_cut fun Du _ _ _ nu => ?_
          conv => whnf
          refine fork_f rfl ?_
          conv => whnf
          refine nu _ ?_
          clear nu
          conv => whnf
          rw [py_mvs]
          exact ⟨ok_mvs _, hq⟩)

end
end T

namespace T
open PySem PySem.Spec PyProof.Rows L2 DL
section
variable {P : Program} {w : World} {K : Fg} {mg : Str → Option Value} {base : Heap}
abbrev SdP (M : Mach) (R : Rule) (d : D) : Prop := ∃ S : Sd, S.Ok M R ∧ d = S.d
theorem sides_of {M : Mach} {R : Rule} : ∀ {out : List D}, (∀ d ∈ out, SdP M R d) → ∃ Ss : List Sd, out = Ss.map Sd.d ∧ ∀ S ∈ Ss, S.Ok M R
  | [], _ => ⟨[], rfl, fun _ z => nomatch z⟩
  | d :: out, h => by
    obtain ⟨S, hS, rfl⟩ := h d List.mem_cons_self
    obtain ⟨Ss, rfl, hs⟩ := sides_of (out := out) fun y hy => h y (List.mem_cons_of_mem _ hy)
    refine ⟨S :: Ss, rfl, fun T hT => ?_⟩
    rcases List.mem_cons.mp hT with rfl | hT
    · exact hS
    · exact hs T hT
def aSd (M : Mach) (R : Rule) (fs : List D) (x5 x6 x7 x8 : Slot) : Gm := [.dat M.d, .dat R.d, .dat (.str R.k.s), .dat (.int (R.hi : Nat)), .dat (.lst fs), x5, x6, x7, x8]
def wf__law_sides : WF := fun ds ed Q => ∃ (M : Mach) (R : Rule), M.Ok ∧ R.Ok ∧ ds = [M.d, R.d] ∧ ∀ Ss : List Sd, (∀ S ∈ Ss, S.Ok M R) → Ss.length ≤ 2000 → Q (.lst (Ss.map Sd.d))
theorem len__law_sides {ds : List D} {ed : Value → Prop} {Q : D → Prop} (h : wf__law_sides ds ed Q) : ds.length = 2 := by
  obtain ⟨_, _, _, _, rfl, _⟩ := h
  rfl
abbrev N__law_sides : List Str := ["machine", "rule", "kind", "most", "found", "p", "phase", "many", "text"]
theorem sc__law_sides : FnScope N__law_sides ["machine", "rule"] (defScope (topS 55)) := ⟨rfl, rfl, rfl, by decide +kernel, rfl, by decide +kernel, by decide +kernel⟩
theorem ok__law_sides {f : Addr} {fd : FuncData}  (B : Bl mg)    (F__law_texts : DFn P w K mg base "_law_texts" 1 3 (wf__law_texts)) (F : Fun K "_law_sides" "_law_sides" (topS 55) f fd) (g : mg "_law_sides" = some (.ref f)) (b : Binds K fd ["machine", "rule"] []) : DFn P w K mg base "_law_sides" 2 2 (wf__law_sides) := by
  exact dfn_of (N := N__law_sides) F sc__law_sides g b rfl (fun ds ed Q h => len__law_sides h) (fun cdv A outer s H E hr =>
    (dss_cons (ds_par3 (i := 2) (j := 3) (l := 4) (de_ix (fun _ => rfl) (dr_pv (fun _ => pv 1)) (DE.r de_int)) (de_ix (fun _ => rfl) (dr_pv (fun _ => pv 1)) (DE.r de_int)) (DF.de (df_lst da_nil)) (fun _ => sc__law_sides.nd))
    (dss_cons (ds_for (fun _ => passes_of rfl) (fun _ => rfl) (di_range1 (fun _ => B.range) (db_cons (DE.r (de_len (fun _ => rfl) (fun _ => B.len) (db_cons (DE.r (de_ix (fun _ => rfl) (dr_pv (fun _ => pv 0)) (DE.r de_int))) db_nil))) db_nil)) (dg_pg (fun _ => pg_name (i := 5) sc__law_sides.nd rfl (.inr rfl))) (dss_cons (ds_set (i := 4) (de_addA (dr_pv (fun _ => pv 4)) (DE.r (DF.de (df_lst (da_cons (de_tup (da_cons de_str (da_cons (de_pv (fun _ => pv 5)) (da_cons de_str da_nil)))) (da_cons (de_tup (da_cons de_str (da_cons (de_pv (fun _ => pv 5)) (da_cons de_str da_nil)))) da_nil)))))) (fun _ => sc__law_sides.nd))
    (dss_cons (ds_if (DX.dt (dx_eq (dr_pv (fun _ => pv 2)) (DE.r de_str))) (dss_one (ds_set (i := 4) (de_addA (dr_pv (fun _ => pv 4)) (DE.r (DF.de (df_lc (own := [("many", 7)]) (fun _ => rfl) (fun _ => sc__law_sides.nd) (di_range2 (fun _ => B.range) (db_cons (DE.r de_int) (db_cons (DE.r (de_addA (dr_pv (fun _ => pv 3)) (DE.r de_int))) db_nil))) (dg_pg (fun _ => pg_name (i := 7) sc__law_sides.nd rfl (by first | exact Or.inl rfl | exact Or.inr rfl))) (de_tup (da_cons de_str (da_cons (de_pv (fun _ => pv 5)) (da_cons (de_mulA (DE.r de_str) (dr_pv (fun _ => pv 7))) da_nil)))) (fun _ => blkOk_by (N := N__law_sides) (sc := defScope (topS 55)) (by decide +kernel)))))) (fun _ => sc__law_sides.nd))) dss_nil)
    (dss_one (ds_if (DX.dt (dx_eq (dr_pv (fun _ => pv 2)) (DE.r de_str))) (dss_one (ds_for (fun _ => passes_of rfl) (fun _ => rfl) (di_seq (fun _ => rfl) (DF.de (df_lst (da_cons de_str (da_cons de_str da_nil))))) (dg_pg (fun _ => pg_name (i := 6) sc__law_sides.nd rfl (.inr rfl))) (dss_one (ds_set (i := 4) (de_addA (dr_pv (fun _ => pv 4)) (DE.r (DF.de (df_lc (own := [("text", 8)]) (fun _ => rfl) (fun _ => sc__law_sides.nd) (di_seq (fun _ => rfl) (de_call F__law_texts (fun _ => ⟨rfl, rfl, rfl, rfl, rfl⟩) (fun _ => takes_of rfl rfl rfl rfl) (fun _ => hr) (da_cons (de_ix (fun _ => rfl) (dr_pv (fun _ => pv 0)) (DE.r de_int)) (da_cons de_int (da_cons (de_pv (fun _ => pv 3)) da_nil))))) (dg_pg (fun _ => pg_name (i := 8) sc__law_sides.nd rfl (by first | exact Or.inl rfl | exact Or.inr rfl))) (de_tup (da_cons (de_pv (fun _ => pv 6)) (da_cons (de_pv (fun _ => pv 5)) (da_cons (de_pv (fun _ => pv 8)) da_nil)))) (fun _ => blkOk_by (N := N__law_sides) (sc := defScope (topS 55)) (by decide +kernel)))))) (fun _ => sc__law_sides.nd))))) dss_nil)))))
    (dss_one (ds_ret (de_pv (fun _ => pv 4)))))))
    (fun ds ed Q h => by
      obtain ⟨M, R, ok, okR, rfl, hq⟩ := h
      have hi3 := okR.hi3
      unfold N__law_sides
      have sz : ∀ i, i ≤ 10000 → i ≤ sizeLine := fun i h => by rw [sizeLine_eq]; omega
      conv => whnf
      refine ⟨sz _ (by show 0 ≤ 10000; decide), ?_⟩
      conv => whnf
      have ln : (rngD 0 M.rows.length).length = M.rows.length := by rw [rng_from]; unfold rngF; rw [List.length_map, List.length_range']
      refine ⟨by rw [Mach.rowsD, List.length_map]; have := ok.r6; omega, by rw [Mach.rowsD, List.length_map]; have := ok.r6; omega, ?_⟩
      rw [show ((M.rowsD.length : Int)).toNat = M.rows.length by rw [Mach.rowsD, List.length_map]; rfl]
      rw [rng_from]
      refine ⟨.inr (by rw [← rng_from, ln]; have := ok.r6; omega), ?_⟩
      refine forW_ind (fun r G => ∃ k m, r = rngF k m ∧ k + m = M.rows.length ∧ ∃ (Ss : List Sd) (x5 x6 x7 x8 : Slot), (∀ S ∈ Ss, S.Ok M R) ∧ Ss.length ≤ 250 * k ∧ G = aSd M R (Ss.map Sd.d) x5 x6 x7 x8) ?_ ?_ _ _ ⟨0, M.rows.length, rfl, by omega, [], _, _, _, _, (fun _ z => nomatch z), Nat.zero_le _, rfl⟩
      · rintro d r G ⟨k, m, hr, hm, Ss, x5, x6, x7, x8, hSs, hl, rfl⟩ next
        obtain ⟨m', rfl, rfl, rfl⟩ := rngF_cons hr
        have r6 := ok.r6
        have hk : k < M.rows.length := by omega
        have oW : Sd.Ok M R ⟨.whole, k, []⟩ := ⟨hk, Nat.zero_le _, rfl⟩
        have oT : Sd.Ok M R ⟨.torn, k, []⟩ := ⟨hk, Nat.zero_le _, rfl⟩
        conv => whnf
        refine ⟨sz _ (by show 3 ≤ 10000; decide), ?_⟩
        conv => whnf
        refine ⟨sz _ (by show 3 ≤ 10000; decide), ?_⟩
        conv => whnf
        refine ⟨sz _ (by show 2 ≤ 10000; decide), ?_⟩
        conv => whnf
        refine ⟨sz _ (by rw [List.length_map]; show Ss.length + 2 ≤ 10000; omega), ?_⟩
        obtain ⟨Ts, eTs, hTs, lTs⟩ : ∃ Ts : List Sd, Ss.map Sd.d ++ [D.tup [.str "whole", .int (k : Nat), .str ""], .tup [.str "torn", .int (k : Nat), .str ""]] = Ts.map Sd.d ∧ (∀ S ∈ Ts, S.Ok M R) ∧ Ts.length ≤ 250 * k + 2 := ⟨Ss ++ [⟨.whole, k, []⟩, ⟨.torn, k, []⟩], by rw [List.map_append]; rfl, fun S hS => by
          rcases List.mem_append.mp hS with h | h
          · exact hSs S h
          rcases List.mem_cons.mp h with rfl | h
          · exact oW
          · rw [List.mem_singleton.mp h]; exact oT, by rw [List.length_append]; show Ss.length + 2 ≤ _; omega⟩
        rw [eTs]
        rcases R with ⟨kd, lo, hi⟩
        have hi3 : hi ≤ 3 := hi3
        have fin := fun (Us : List Sd) (hU : ∀ S ∈ Us, S.Ok M ⟨kd, lo, hi⟩) (lU : Us.length ≤ 250 * k + 250) (y6 y7 y8 : Slot) => next (aSd M ⟨kd, lo, hi⟩ (Us.map Sd.d) (.dat (.int (k : Nat))) y6 y7 y8) ⟨k + 1, m', rfl, by omega, Us, _, _, _, _, hU, by omega, rfl⟩
        cases kd with
        | faded =>
          conv => whnf
          refine fork_t rfl ?_
          conv => whnf
          have lr : ∀ n, (rngD 1 n).length = n := fun n => by unfold rngD; rw [List.length_map, List.length_range]
          refine ⟨⟨by decide, by decide, by show -(2 ^ 62) ≤ ((hi : Nat) : Int) + 1; omega, by show ((hi : Nat) : Int) + 1 < 2 ^ 62; omega⟩, ?_⟩
          rw [show (((Rule.hi ⟨.faded, lo, hi⟩ : Nat) : Int) + 1 - 1).toNat = hi by show ((hi : Int) + 1 - 1).toNat = hi; omega]
          refine ⟨by rw [lr]; exact small_lt (by omega), .inl rfl, ?_⟩
          refine compW_any (Pr := SdP M ⟨.faded, lo, hi⟩) (fun d hd S hS => ?_) (fun _ z => nomatch z) fun out hlen hout => ?_
          · obtain ⟨j, hj, rfl⟩ := List.mem_map.mp hd
            have hj := List.mem_range.mp hj
            conv => whnf
            refine ⟨by omega, by omega, by show 1 ≤ 1000; decide, ?_⟩
            rw [show (1 : Int) + (j : Nat) = ((1 + j : Nat) : Int) from rfl, show Str.ofString "?" = txt [63] from rfl, mul_one]
            conv => whnf
            refine ⟨sz _ (by show 3 ≤ 10000; decide), ?_⟩
            exact hS _ ⟨⟨.fading, k, List.replicate (1 + j) 63⟩, ⟨hk, by show (List.replicate (1 + j) 63).length ≤ hi; rw [List.length_replicate]; omega, rfl, by show 1 ≤ (List.replicate (1 + j) 63).length; rw [List.length_replicate]; omega, by show List.replicate (1 + j) 63 = List.replicate (List.replicate (1 + j) 63).length 63; rw [List.length_replicate]⟩, rfl⟩
          · rw [lr, List.length_nil] at hlen
            obtain ⟨Us, rfl, hUs⟩ := sides_of hout
            rw [List.length_map] at hlen
            conv => whnf
            refine ⟨sz _ (by rw [List.length_map, List.length_map]; omega), ?_⟩
            rw [← List.map_append]
            conv => whnf
            refine fork_f rfl ?_
            exact fin (Ts ++ Us) (fun S hS => (List.mem_append.mp hS).elim (hTs S) (hUs S)) (by rw [List.length_append]; omega) x6 x7 x8
        | doubled =>
          conv => whnf
          refine fork_f rfl ?_
          conv => whnf
          refine fork_t rfl ?_
          conv => whnf
          refine ⟨sz _ (by show 2 ≤ 10000; decide), ?_⟩
          conv => whnf
          refine ⟨.inr (by show 2 ≤ 256; decide), ?_⟩
          have lM := strsA_len (ls := M.ls) (lo := 1) (hi := hi) ok.l3 hi3
          refine forW_ind (fun r G => (∀ x ∈ r, ∃ ph : Ph, x = .str ph.s ∧ (ph = .once ∨ ph = .twice)) ∧ r.length ≤ 2 ∧ ∃ (Us : List Sd) (y6 y7 y8 : Slot), (∀ S ∈ Us, S.Ok M ⟨.doubled, lo, hi⟩) ∧ Us.length + 108 * r.length ≤ 250 * k + 218 ∧ G = aSd M ⟨.doubled, lo, hi⟩ (Us.map Sd.d) (.dat (.int (k : Nat))) y6 y7 y8) ?_ ?_ _ _ ⟨fun x hx => ?_, by decide, Ts, x6, x7, x8, hTs, by show Ts.length + 216 ≤ _; omega, rfl⟩
          · rintro d r G ⟨hph, hr2, Us, y6, y7, y8, hUs, lUs, rfl⟩ next2
            obtain ⟨ph, rfl, hph1⟩ := hph d List.mem_cons_self
            rw [List.length_cons] at hr2 lUs
            conv => whnf
            refine ⟨M.ls, 1, hi, rfl, ok.l3, hi3, ?_⟩
            conv => whnf
            refine ⟨by rw [List.length_map]; exact small_lt (by omega), .inl rfl, ?_⟩
            refine compW_any (Pr := SdP M ⟨.doubled, lo, hi⟩) (fun d hd S hS => ?_) (fun _ z => nomatch z) fun out hlen hout => ?_
            · obtain ⟨t, ht, rfl⟩ := List.mem_map.mp hd
              obtain ⟨t1, t2, t3⟩ := strsA_mem ht
              conv => whnf
              refine ⟨sz _ (by show 3 ≤ 10000; decide), ?_⟩
              rcases hph1 with rfl | rfl
              · exact hS _ ⟨⟨.once, k, t⟩, ⟨hk, t2, rfl, t1, t3⟩, rfl⟩
              · exact hS _ ⟨⟨.twice, k, t⟩, ⟨hk, t2, rfl, t1, t3⟩, rfl⟩
            · rw [List.length_map, List.length_nil] at hlen
              obtain ⟨Vs, rfl, hVs⟩ := sides_of hout
              rw [List.length_map] at hlen
              conv => whnf
              refine ⟨sz _ (by rw [List.length_map, List.length_map]; omega), ?_⟩
              rw [← List.map_append]
              exact next2 _ ⟨fun x hx => hph x (List.mem_cons_of_mem _ hx), by omega, Us ++ Vs, .dat (.str ph.s), y7, y8, fun S hS => (List.mem_append.mp hS).elim (hUs S) (hVs S), by rw [List.length_append]; omega, rfl⟩
          · rintro G ⟨_, _, Us, y6, y7, y8, hUs, lUs, rfl⟩
            exact fin Us hUs (by simp at lUs; omega) y6 y7 y8
          · rcases List.mem_cons.mp hx with rfl | hx
            · exact ⟨.once, rfl, .inl rfl⟩
            · rw [List.mem_singleton.mp hx]
              exact ⟨.twice, rfl, .inr rfl⟩
        | «open» =>
          conv => whnf
          refine fork_f rfl ?_
          conv => whnf
          refine fork_f rfl ?_
          exact fin Ts hTs (by omega) x6 x7 x8
        | closed =>
          conv => whnf
          refine fork_f rfl ?_
          conv => whnf
          refine fork_f rfl ?_
          exact fin Ts hTs (by omega) x6 x7 x8
      · rintro G ⟨k, m, hr, hm, Ss, x5, x6, x7, x8, hSs, hl, rfl⟩
        obtain rfl := rngF_nil hr
        have r6 := ok.r6
        exact hq Ss hSs (by omega))

end
end T

namespace T
open PySem PySem.Spec PyProof.Rows L2 DL
instance ev2_mach0 {M : Mach} : Ev2 fIx M.d (.int 0) True (.str (txt M.ls)) := ⟨fun _ _ q => q⟩
instance ev2_mach1 {M : Mach} : Ev2 fIx M.d (.int 1) True (.tup M.rowsD) := ⟨fun _ _ q => q⟩
instance ev2_mach2 {M : Mach} : Ev2 fIx M.d (.int 2) True (.tup M.endsD) := ⟨fun _ _ q => q⟩
instance ev2_rule0 {R : Rule} : Ev2 fIx R.d (.int 0) True (.str R.k.s) := ⟨fun _ _ q => q⟩
instance ev2_rule1 {R : Rule} : Ev2 fIx R.d (.int 1) True (.int (R.lo : Nat)) := ⟨fun _ _ q => q⟩
instance ev2_rule2 {R : Rule} : Ev2 fIx R.d (.int 2) True (.int (R.hi : Nat)) := ⟨fun _ _ q => q⟩
instance gog_mach {u : List D → Gm → (Gm → Prop) → Prop} {G G' : Gm} {C : Prop} {M : Mach} [h : GoGs u [.str (txt M.ls), .tup M.rowsD, .tup M.endsD] G C G'] : GoG (gT 3 u) M.d G C G' := ⟨fun c Q q => ⟨rfl, h.ev c Q q⟩⟩
instance gog_rule {u : List D → Gm → (Gm → Prop) → Prop} {G G' : Gm} {C : Prop} {R : Rule} [h : GoGs u [.str R.k.s, .int (R.lo : Nat), .int (R.hi : Nat)] G C G'] : GoG (gT 3 u) R.d G C G' := ⟨fun c Q q => ⟨rfl, h.ev c Q q⟩⟩
end T

namespace T
open PySem PySem.Spec PyProof.Rows L2 DL
/-! ### what is shown of machines and rules -/
theorem alpha_lt : ∀ c ∈ Str.cps "abcdefghijklmnopqrstuvwxyz" |>.toList, c < 128 := by decide +kernel
theorem Mach.Ok.sign {M : Mach} (ok : M.Ok) {c : Nat} (h : c ∈ M.ls) : c < 128 := by
  have h1 := (Bool.and_eq_true _ _ ▸ ok.ls : _ ∧ _).1
  have h2 := (Bool.and_eq_true _ _ ▸ h1 : _ ∧ _).2
  exact alpha_lt c (of_decide_eq_true (List.all_eq_true.mp h2 c h))
def goalP : Option Nat → PyData
  | none => .none
  | some k => .int (k : Nat)
theorem py_tup {α : Type} (f : α → D) (g : α → PyData) (h : ∀ x, pyD (f x) = some (g x)) (xs : List α) : pyD (.tup (xs.map f)) = some (.tuple (xs.map g)) := by
  rw [pyD, pyDs_atoms f g h]
  rfl
theorem py_goal (g : Option Nat) : pyD (goalD g) = some (goalP g) := by cases g <;> rfl
def Mach.sD (M : Mach) : PyData := .tuple [.str (txt M.ls), .tuple (M.rows.map fun r => .tuple (r.map goalP)), .tuple (M.ends.map fun k => .int (k : Nat))]
theorem Mach.sPy (M : Mach) : pyD M.d = some M.sD := by
  have e1 : pyD (.tup M.rowsD) = some (.tuple (M.rows.map fun r => .tuple (r.map goalP))) := py_tup _ _ (fun r => py_tup goalD goalP py_goal r) M.rows
  have e2 : pyD (.tup M.endsD) = some (.tuple (M.ends.map fun k => .int (k : Nat))) := py_tup _ _ (fun k => rfl) M.ends
  have e0 : pyD (.str (txt M.ls)) = some (.str (txt M.ls)) := rfl
  rw [Mach.d, pyD, pyDs, pyDs, pyDs, pyDs, e0, e1, e2]
  rfl
theorem Mach.Ok.gd {M : Mach} (ok : M.Ok) : Gd M.sD 1000 3 := by
  have l3 := ok.l3
  have r6 := ok.r6
  have e6 := ok.e6
  have a : Gd (.str (txt M.ls)) 3 0 := (Gd.str fun c hc => ok.sign hc).mono l3 (Nat.le_refl _)
  have b : Gds (M.rows.map fun r => .tuple (r.map goalP)) 132 1 := by
    have := Gds.of (wt := 21) (dp := 1) (ds := M.rows.map fun r => PyData.tuple (r.map goalP)) fun d hd => by
      obtain ⟨r, hr, rfl⟩ := List.mem_map.mp hd
      have := Gds.of (wt := 6) (dp := 0) (ds := r.map goalP) fun d hd => by
        obtain ⟨g, hg, rfl⟩ := List.mem_map.mp hd
        cases g with
        | none => exact Gd.non.mono (Nat.zero_le _) (Nat.le_refl _)
        | some k => exact Gd.int (by have := ok.goal r hr k hg; omega)
      refine this.tup.mono ?_ (Nat.le_refl _)
      have := ok.wid r hr
      rw [List.length_map]
      omega
    rw [List.length_map] at this
    exact ⟨this.sh, this.nd, this.dp, this.lv, Nat.le_trans this.wt (by omega)⟩
  have c : Gds (M.ends.map fun k => .int (k : Nat)) 42 0 := by
    have := Gds.of (wt := 6) (dp := 0) (ds := M.ends.map fun k => PyData.int (k : Nat)) fun d hd => by
      obtain ⟨k, hk, rfl⟩ := List.mem_map.mp hd
      exact Gd.int (by have := ok.en k hk; omega)
    rw [List.length_map] at this
    exact ⟨this.sh, this.nd, this.dp, this.lv, Nat.le_trans this.wt (by omega)⟩
  exact (Gds.two a (Gds.two b.tup (Gds.two c.tup Gds.nil))).tup.mono (wt := 3 + 1 + (132 + 1 + (42 + 1 + 0))) (dp := max 0 (max (1 + 1) (max (0 + 1) 0)) + 1) (by decide) (by decide)
def Rule.sD (R : Rule) : PyData := .tuple [.str R.k.s, .int (R.lo : Nat), .int (R.hi : Nat)]
theorem Rule.sPy (R : Rule) : pyD R.d = some R.sD := rfl
theorem Kd.gd (k : Kd) : Gd (.str k.s) 10 0 := by
  refine (Gd.str fun c hc => ?_).mono ?_ (Nat.le_refl _)
  · revert c
    cases k <;> decide +kernel
  · cases k <;> decide +kernel
theorem Rule.Ok.gd {R : Rule} (ok : R.Ok) : Gd R.sD 40 1 := (Gds.two R.k.gd (Gds.two (Gd.int (by have := ok.le; have := ok.hi3; omega)) (Gds.two (Gd.int (by have := ok.hi3; omega)) Gds.nil))).tup.mono (by decide) (by decide)
instance pyof_mach {M : Mach} : PyOf M.d M.sD := ⟨M.sPy⟩
instance pyof_rule {R : Rule} : PyOf R.d R.sD := ⟨rfl⟩
end T

set_option synthInstance.maxSize 100000
set_option synthInstance.maxHeartbeats 400000
namespace T
open PySem PySem.Spec PyProof.Rows L2 DL
section
variable {P : Program} {w : World} {K : Fg} {mg : Str → Option Value} {base : Heap}
/-- a thing that is asked and is no side -/
abbrev OddS (M : Mach) (R : Rule) (d : D) : Prop := Asked M d ∧ sideB M R d = false
theorem odd_no {M : Mach} {R : Rule} {d : D} (p : Pl d) (h : ∀ a b c, d ≠ .tup [a, b, c]) : OddS M R d := by
  refine ⟨⟨p, fun a b c e _ => absurd e (h a b c)⟩, ?_⟩
  unfold sideB
  split
  · rename_i a b c
    exact absurd rfl (h a b c)
  · rfl
theorem odd_st {M : Mach} {R : Rule} {a b c : D} (p : Pl (.tup [a, b, c])) (h : isWhole b 0 ((M.rows.length : Int) - 1) = false) : OddS M R (.tup [a, b, c]) := by
  refine ⟨⟨p, fun a' b' c' e hw => ?_⟩, ?_⟩
  · obtain ⟨_, e⟩ := List.cons.inj (D.tup.inj e)
    obtain ⟨e1, _⟩ := List.cons.inj e
    subst e1
    rw [h] at hw
    exact nomatch hw
  · show (isWhole b 0 ((M.rows.length : Int) - 1) && _) = false
    rw [h]
    rfl
theorem odd_at {M : Mach} {R : Rule} {a c : D} {pa pc : PyData} {k : Nat} (p : Pl (.tup [a, .int (k : Nat), c])) (ea : pyD a = some pa) (ec : pyD c = some pc) (sh : SeqAt.shaped (.tuple [pa, pc]) = true)
    (no : ∀ ph t, (ph, t) ∈ M.phs R → PyData.eqv (.str ph.s) pa = true → PyData.eqv (.str (txt t)) pc = true → False) : OddS M R (.tup [a, .int (k : Nat), c]) := by
  have e : pyD (.tup [a, c]) = some (.tuple [pa, pc]) := by
    rw [pyD, pyDs, pyDs, pyDs, ea, ec]
    rfl
  refine ⟨⟨p, fun a' b' c' e' hw => ?_⟩, ?_⟩
  · obtain ⟨e1, e'⟩ := List.cons.inj (D.tup.inj e')
    obtain ⟨_, e'⟩ := List.cons.inj e'
    obtain ⟨e3, _⟩ := List.cons.inj e'
    subst e1 e3
    exact ⟨_, e, sh⟩
  · show (isWhole (.int (k : Nat)) 0 ((M.rows.length : Int) - 1) && (match pyD (.tup [a, c]) with | some q => ((M.phs R).map phP).any (fun z => PyData.eqv z q) | none => false)) = false
    rw [e]
    have : ((M.phs R).map phP).any (fun z => PyData.eqv z (.tuple [pa, pc])) = false := by
      rw [Bool.eq_false_iff]
      intro h
      obtain ⟨z, hz, he⟩ := List.any_eq_true.mp h
      obtain ⟨⟨ph, t⟩, hp, rfl⟩ := List.mem_map.mp hz
      rw [phP, PyData.eqv, PyData.eqvAll, PyData.eqvAll, PyData.eqvAll, Bool.and_true, Bool.and_eq_true] at he
      exact no ph t hp he.1 he.2
    show (_ && ((M.phs R).map phP).any (fun z => PyData.eqv z (.tuple [pa, pc]))) = false
    rw [this, Bool.and_false]
theorem phs_mem {M : Mach} {R : Rule} {ph : Ph} {t : List Nat} (h : (ph, t) ∈ M.phs R) : (ph = .whole ∧ t = []) ∨ (ph = .torn ∧ t = []) ∨ (R.k = .faded ∧ ph = .fading ∧ t ∈ strsA [63] 1 R.hi) ∨ (R.k = .doubled ∧ (ph = .once ∨ ph = .twice) ∧ t ∈ strsA M.ls 1 R.hi) := by
  unfold Mach.phs at h
  rcases List.mem_append.mp h with h | h
  · rcases List.mem_cons.mp h with e | h
    · cases e
      exact .inl ⟨rfl, rfl⟩
    · cases List.mem_singleton.mp h
      exact .inr (.inl ⟨rfl, rfl⟩)
  · cases e : R.k with
    | faded =>
      rw [e] at h
      obtain ⟨u, hu, q⟩ := List.mem_map.mp h
      cases q
      exact .inr (.inr (.inl ⟨rfl, rfl, hu⟩))
    | doubled =>
      rw [e] at h
      rcases List.mem_append.mp h with h | h
      · obtain ⟨u, hu, q⟩ := List.mem_map.mp h
        cases q
        exact .inr (.inr (.inr ⟨rfl, .inl rfl, hu⟩))
      · obtain ⟨u, hu, q⟩ := List.mem_map.mp h
        cases q
        exact .inr (.inr (.inr ⟨rfl, .inr rfl, hu⟩))
    | «open» => rw [e] at h; exact nomatch h
    | closed => rw [e] at h; exact nomatch h
local macro_rules | `(tactic| walk_at "pl") => `(tactic| repeat' first | exact Pl.non | exact Pl.bl _ | exact Pl.int _ | refine Pl.str _ (by first | decide +kernel | (simp; done) | omega) | refine Pl.lst _ (Nat.le_of_ble_eq_true rfl) ?_ | refine Pl.tup _ (Nat.le_of_ble_eq_true rfl) ?_ | refine List.forall_mem_cons.mpr ⟨?_, ?_⟩ | exact List.forall_mem_nil _)
local macro_rules | `(tactic| walk_at "each") => `(tactic| repeat' first | exact List.forall_mem_nil _ | refine List.forall_mem_cons.mpr ⟨?_, ?_⟩)
theorem ph_inj : ∀ {p q : Ph}, p.s = q.s → p = q := fun {p q} h => by
  have h : decide (p.s = q.s) = true := decide_eq_true h
  revert h
  cases p <;> cases q <;> first | (intro _; rfl) | (intro h; exact absurd h (by decide +kernel))
theorem eqv_str {x y : Str} (h : PyData.eqv (.str x) (.str y) = true) : x = y := by
  rw [PyData.eqv] at h
  exact eq_of_beq h
theorem shape2 {a b : PyData} (ha : PyData.canLay0 a = true) (hb : PyData.canLay0 b = true) (da : PyData.depth a ≤ 5) (db : PyData.depth b ≤ 5) : SeqAt.shaped (.tuple [a, b]) = true := by
  unfold SeqAt.shaped
  rw [PyData.canLay0, PyData.canLayAll0, PyData.canLayAll0, PyData.canLayAll0, ha, hb, PyData.depth, PyData.depthAll, PyData.depthAll, PyData.depthAll]
  rw [decide_eq_true (by omega)]
  rfl
theorem odd_ph {M : Mach} {R : Rule} (p : Ph) {B : Str} (hl : B.length ≤ 100000) (hB : PyData.canLay0 (.str B) = true) (no : ∀ t, (p, t) ∈ M.phs R → txt t = B → False) : OddS M R (.tup [.str p.s, .int 0, .str B]) :=
  odd_at (k := 0) (.tup _ (Nat.le_of_ble_eq_true rfl) (by walk_at "pl"; exact .str _ (by cases p <;> decide +kernel))) (pa := .str p.s) (pc := .str B) rfl rfl (shape2 (lay_ph p) hB (by simp [PyData.depth]) (by simp [PyData.depth])) fun q t h e1 e2 => by
    obtain rfl := ph_inj (eqv_str e1)
    exact no t h (eqv_str e2)
theorem odd_al {M : Mach} {R : Rule} {A B : Str} (hl : A.length ≤ 100000) (hl2 : B.length ≤ 100000) (hA : PyData.canLay0 (.str A) = true) (hB : PyData.canLay0 (.str B) = true) (no : ∀ p : Ph, p.s ≠ A) : OddS M R (.tup [.str A, .int 0, .str B]) :=
  odd_at (k := 0) (.tup _ (Nat.le_of_ble_eq_true rfl) (by walk_at "pl")) (pa := .str A) (pc := .str B) rfl rfl (shape2 hA hB (by simp [PyData.depth]) (by simp [PyData.depth])) fun q t h e1 e2 => no q (eqv_str e1)
theorem odd_x {M : Mach} {R : Rule} (p : Ph) {c : D} {pc : PyData} (pl : Pl c) (ec : pyD c = some pc) (hc : PyData.canLay0 pc = true) (hd : PyData.depth pc ≤ 5) (no : ∀ s, PyData.eqv (.str s) pc = false) : OddS M R (.tup [.str p.s, .int 0, c]) :=
  odd_at (k := 0) (.tup _ (Nat.le_of_ble_eq_true rfl) (by walk_at "pl"; exact .str _ (by cases p <;> decide +kernel); exact pl)) (pa := .str p.s) (pc := pc) rfl ec (shape2 (lay_ph p) hc (by simp [PyData.depth]) hd) fun q t h e1 e2 => by
    rw [no] at e2
    exact nomatch e2
theorem odd_y {M : Mach} {R : Rule} {a : D} {pa : PyData} {B : Str} (hl : B.length ≤ 100000) (pl : Pl a) (ea : pyD a = some pa) (ha : PyData.canLay0 pa = true) (hd : PyData.depth pa ≤ 5) (hB : PyData.canLay0 (.str B) = true) (no : ∀ s, PyData.eqv (.str s) pa = false) : OddS M R (.tup [a, .int 0, .str B]) :=
  odd_at (k := 0) (.tup _ (Nat.le_of_ble_eq_true rfl) (by walk_at "pl"; exact pl)) (pa := pa) (pc := .str B) ea rfl (shape2 ha hB hd (by simp [PyData.depth])) fun q t h e1 e2 => by
    rw [no] at e1
    exact nomatch e1
theorem lay_a {M : Mach} (ok : M.Ok) {t : List Nat} (h : ∀ c ∈ t, c ∈ M.ls ∨ c < 128) : PyData.canLay0 (.str (txt t)) = true := lay_w fun c hc => (h c hc).elim (ok.ls128 c) id
theorem whole_over {k n : Nat} (h : n ≤ k) : isWhole (.int (k : Nat)) 0 ((n : Int) - 1) = false := by
  show (decide ((0 : Int) ≤ (k : Int)) && decide ((k : Int) ≤ (n : Int) - 1)) = false
  rw [decide_eq_false (by omega : ¬ ((k : Int) ≤ (n : Int) - 1)), Bool.and_false]
theorem no_wt {M : Mach} {R : Rule} {p : Ph} (hp : p = .whole ∨ p = .torn) {B : Str} (hB : B ≠ txt []) : ∀ t, (p, t) ∈ M.phs R → txt t = B → False := fun t h e => by
  rcases phs_mem h with ⟨_, rfl⟩ | ⟨_, rfl⟩ | ⟨_, h, _⟩ | ⟨_, h, _⟩
  · exact hB e.symm
  · exact hB e.symm
  · rcases hp with rfl | rfl <;> exact nomatch h
  · rcases hp with rfl | rfl <;> rcases h with h | h <;> exact nomatch h
theorem no_fd {M : Mach} {R : Rule} {u : List Nat} (hu : R.k = .faded → ¬ (1 ≤ u.length ∧ u.length ≤ R.hi ∧ ∀ c ∈ u, c = 63)) : ∀ t, (Ph.fading, t) ∈ M.phs R → txt t = txt u → False := fun t h e => by
  obtain rfl := txt_inj e
  rcases phs_mem h with ⟨h, _⟩ | ⟨h, _⟩ | ⟨k, _, h⟩ | ⟨_, h, _⟩
  · exact nomatch h
  · exact nomatch h
  · exact hu k ⟨(strsA_mem h).1, (strsA_mem h).2.1, fun c hc => List.mem_singleton.mp ((strsA_mem h).2.2 c hc)⟩
  · rcases h with h | h <;> exact nomatch h
theorem no_db {M : Mach} {R : Rule} {p : Ph} (hp : p = .once ∨ p = .twice) {u : List Nat} (hu : R.k = .doubled → ¬ (1 ≤ u.length ∧ u.length ≤ R.hi ∧ ∀ c ∈ u, c ∈ M.ls)) : ∀ t, (p, t) ∈ M.phs R → txt t = txt u → False := fun t h e => by
  obtain rfl := txt_inj e
  rcases phs_mem h with ⟨h, _⟩ | ⟨h, _⟩ | ⟨_, h, _⟩ | ⟨k, _, h⟩
  · rw [h] at hp; rcases hp with h | h <;> exact nomatch h
  · rw [h] at hp; rcases hp with h | h <;> exact nomatch h
  · rw [h] at hp; rcases hp with h | h <;> exact nomatch h
  · exact hu k ⟨(strsA_mem h).1, (strsA_mem h).2.1, (strsA_mem h).2.2⟩
theorem strange_of {ls : List Nat} (l3 : ls.length ≤ 3) : ∃ c r, ([97, 98, 99, 120, 121, 122].filter fun c => !decide (c ∈ ls)) = c :: r ∧ c ∉ ls ∧ c < 128 ∧ c ≠ 126 := by
  cases h : [97, 98, 99, 120, 121, 122].filter fun c => !decide (c ∈ ls) with
  | nil =>
    have nd : ([97, 98, 99, 120, 121, 122] : List Nat).Nodup := by decide
    have sub : ∀ c ∈ ([97, 98, 99, 120, 121, 122] : List Nat), c ∈ ls := fun c hc => by
      have := (List.filter_eq_nil_iff.mp h) c hc
      simpa using this
    have := nd.length_le_of_subset sub
    have e : ([97, 98, 99, 120, 121, 122] : List Nat).length = 6 := rfl
    omega
  | cons c r =>
    have hc : c ∈ ([97, 98, 99, 120, 121, 122] : List Nat).filter fun c => !decide (c ∈ ls) := by rw [h]; exact List.mem_cons_self
    obtain ⟨h1, h2⟩ := List.mem_filter.mp hc
    have k : ∀ c ∈ ([97, 98, 99, 120, 121, 122] : List Nat), c < 128 ∧ c ≠ 126 := by decide
    exact ⟨c, r, rfl, by simpa using h2, (k c h1).1, (k c h1).2⟩
theorem filter_sg (ls : List Nat) : ∀ xs : List Nat, ((sg xs).filter fun d => match sign1 d with | some c => !decide (c ∈ ls) | none => false) = sg (xs.filter fun c => !decide (c ∈ ls))
  | [] => rfl
  | x :: xs => by
    rw [List.filter_cons]
    have ih := filter_sg ls xs
    show (List.filter _ (D.str ⟨#[x]⟩ :: sg xs)) = _
    rw [List.filter_cons, ih]
    show (if (!decide (x ∈ ls)) = true then _ else _) = _
    by_cases h : (!decide (x ∈ ls)) = true
    · rw [if_pos h, if_pos h]
      rfl
    · rw [if_neg h, if_neg h]
abbrev ODD (M : Mach) (R : Rule) (k : Nat) (d : D) : Prop := ∃ L : List D, d = .lst L ∧ (∀ x ∈ L, OddS M R x) ∧ L.length ≤ k
theorem odd_app {M : Mach} {R : Rule} {L L' : List D} {k k' n : Nat} (h1 : ∀ x ∈ L, OddS M R x) (h2 : L.length ≤ k) (h3 : ∀ x ∈ L', OddS M R x) (h4 : L'.length ≤ k') (h5 : k + k' ≤ n) : ODD M R n (.lst (L ++ L')) :=
  ⟨_, rfl, fun x hx => (List.mem_append.mp hx).elim (h1 x) (h3 x), by rw [List.length_append]; omega⟩
def wf__law_odd_sides : WF := fun ds ed Q => ∃ (M : Mach) (R : Rule), M.Ok ∧ R.Ok ∧ ds = [M.d, R.d] ∧ ∀ out : List D, (∀ d ∈ out, OddS M R d) → out.length ≤ 200 → Q (.lst out)
theorem len__law_odd_sides {ds : List D} {ed : Value → Prop} {Q : D → Prop} (h : wf__law_odd_sides ds ed Q) : ds.length = 2 := by
  obtain ⟨_, _, _, _, rfl, _⟩ := h
  rfl
abbrev N__law_odd_sides : List Str := ["machine", "rule", "a", "kind", "most", "n", "found", "strange", "phase", "sign"]
theorem sc__law_odd_sides : FnScope N__law_odd_sides ["machine", "rule"] (defScope (topS 56)) := ⟨rfl, rfl, rfl, by decide +kernel, rfl, by decide +kernel, by decide +kernel⟩
theorem ok__law_odd_sides {f : Addr} {fd : FuncData}  (B : Bl mg)     (F : Fun K "_law_odd_sides" "_law_odd_sides" (topS 56) f fd) (g : mg "_law_odd_sides" = some (.ref f)) (b : Binds K fd ["machine", "rule"] []) : DFn P w K mg base "_law_odd_sides" 1 2 (wf__law_odd_sides) := by
  exact dfn_of (N := N__law_odd_sides) F sc__law_odd_sides g b rfl (fun ds ed Q h => len__law_odd_sides h) (fun cdv A outer s H E hr =>
    (dss_cons (ds_asgT (de_tup (da_cons (de_ix (fun _ => rfl) (DE.r (de_ix (fun _ => rfl) (dr_pv (fun _ => pv 0)) (DE.r de_int))) (DE.r de_int)) (da_cons (de_ix (fun _ => rfl) (dr_pv (fun _ => pv 1)) (DE.r de_int)) (da_cons (de_ix (fun _ => rfl) (dr_pv (fun _ => pv 1)) (DE.r de_int)) (da_cons (de_len (fun _ => rfl) (fun _ => B.len) (db_cons (DE.r (de_ix (fun _ => rfl) (dr_pv (fun _ => pv 0)) (DE.r de_int))) db_nil)) da_nil))))) (dg_tup (n := 4) (fun _ => rfl) (fun _ => rfl) (dgs_cons (dg_pg (fun _ => pg_name (i := 2) sc__law_odd_sides.nd rfl (.inl rfl))) (dgs_cons (dg_pg (fun _ => pg_name (i := 3) sc__law_odd_sides.nd rfl (.inl rfl))) (dgs_cons (dg_pg (fun _ => pg_name (i := 4) sc__law_odd_sides.nd rfl (.inl rfl))) (dgs_cons (dg_pg (fun _ => pg_name (i := 5) sc__law_odd_sides.nd rfl (.inl rfl))) dgs_nil))))))
    (dss_cons (ds_set (i := 6) (DF.de (df_lst (da_cons de_non (da_cons de_str (da_cons (de_tup (da_cons de_str (da_cons de_int da_nil))) (da_cons (DF.de (df_lst (da_cons de_str (da_cons de_int (da_cons de_str da_nil))))) (da_cons (de_tup (da_cons de_str (da_cons (de_pv (fun _ => pv 5)) (da_cons de_str da_nil)))) (da_cons (de_tup (da_cons de_str (da_cons (de_neg de_int) (da_cons de_str da_nil)))) (da_cons de_int (da_cons (de_tup da_nil) da_nil)))))))))) (fun _ => sc__law_odd_sides.nd))
    (dss_cons (ds_set (i := 6) (de_addA (dr_pv (fun _ => pv 6)) (DE.r (DF.de (df_lst (da_cons (de_tup (da_cons de_str (da_cons de_int (da_cons (de_pv (fun _ => pv 2)) da_nil)))) (da_cons (de_tup (da_cons de_str (da_cons de_int (da_cons de_str da_nil)))) (da_cons (de_tup (da_cons de_str (da_cons de_int (da_cons (de_pv (fun _ => pv 2)) da_nil)))) (da_cons (de_tup (da_cons de_str (da_cons de_int (da_cons de_str da_nil)))) (da_cons (de_tup (da_cons de_str (da_cons de_int (da_cons de_non da_nil)))) da_nil))))))))) (fun _ => sc__law_odd_sides.nd))
    (dss_cons (ds_set (i := 6) (de_addA (dr_pv (fun _ => pv 6)) (DE.r (DF.de (df_lst (da_cons (de_tup (da_cons de_non (da_cons de_int (da_cons de_str da_nil)))) (da_cons (de_tup (da_cons de_str (da_cons de_bl (da_cons de_str da_nil)))) (da_cons (de_tup (da_cons de_str (da_cons (de_pv (fun _ => pv 5)) (da_cons de_str da_nil)))) (da_cons (de_tup (da_cons de_str (da_cons (de_neg de_int) (da_cons de_str da_nil)))) (da_cons (de_tup (da_cons de_str (da_cons de_int (da_cons de_non da_nil)))) da_nil))))))))) (fun _ => sc__law_odd_sides.nd))
    (dss_cons (ds_set (i := 6) (de_addA (dr_pv (fun _ => pv 6)) (DE.r (DF.de (df_lst (da_cons (de_tup (da_cons (DF.de (df_lst da_nil)) (da_cons de_int (da_cons de_str da_nil)))) (da_cons (de_tup (da_cons de_str (da_cons de_int (da_cons (DF.de (df_lst da_nil)) da_nil)))) da_nil)))))) (fun _ => sc__law_odd_sides.nd))
    (dss_cons (ds_set (i := 6) (de_addA (dr_pv (fun _ => pv 6)) (DE.r (DF.de (df_lst (da_cons (de_tup (da_cons de_str (da_cons de_non (da_cons de_str da_nil)))) (da_cons (de_tup (da_cons de_str (da_cons de_str (da_cons de_str da_nil)))) (da_cons (de_tup (da_cons de_str (da_cons de_int (da_cons de_str da_nil)))) (da_cons (de_tup (da_cons de_str (da_cons de_int (da_cons de_str (da_cons de_int da_nil))))) (da_cons (de_tup (da_cons de_str (da_cons de_int (da_cons (de_tup da_nil) da_nil)))) (da_cons de_dict0 da_nil)))))))))) (fun _ => sc__law_odd_sides.nd))
    (dss_cons (ds_if (DX.dt (dx_eq (dr_pv (fun _ => pv 3)) (DE.r de_str))) (dss_cons (ds_set (i := 6) (de_addA (dr_pv (fun _ => pv 6)) (DE.r (DF.de (df_lst (da_cons (de_tup (da_cons de_str (da_cons de_int (da_cons de_str da_nil)))) (da_cons (de_tup (da_cons de_str (da_cons de_int (da_cons (de_mulA (DE.r de_str) (DE.r (de_addA (dr_pv (fun _ => pv 4)) (DE.r de_int)))) da_nil)))) (da_cons (de_tup (da_cons de_str (da_cons de_int (da_cons (de_pv (fun _ => pv 2)) da_nil)))) (da_cons (de_tup (da_cons de_str (da_cons de_int (da_cons (de_pv (fun _ => pv 2)) da_nil)))) da_nil)))))))) (fun _ => sc__law_odd_sides.nd))
    (dss_cons (ds_set (i := 6) (de_addA (dr_pv (fun _ => pv 6)) (DE.r (DF.de (df_lst (da_cons (de_tup (da_cons de_str (da_cons de_int (da_cons (de_addA (DE.r de_str) (dr_pv (fun _ => pv 2))) da_nil)))) (da_cons (de_tup (da_cons de_str (da_cons de_int (da_cons (de_addA (dr_pv (fun _ => pv 2)) (DE.r de_str)) da_nil)))) (da_cons (de_tup (da_cons de_str (da_cons de_int (da_cons de_non da_nil)))) (da_cons (de_tup (da_cons de_str (da_cons de_int (da_cons (de_pv (fun _ => pv 2)) da_nil)))) da_nil)))))))) (fun _ => sc__law_odd_sides.nd))
    (dss_one (ds_set (i := 6) (de_addA (dr_pv (fun _ => pv 6)) (DE.r (DF.de (df_lst (da_cons (de_tup (da_cons de_str (da_cons (de_pv (fun _ => pv 5)) (da_cons de_str da_nil)))) (da_cons (de_tup (da_cons de_str (da_cons (de_neg de_int) (da_cons de_str da_nil)))) (da_cons (de_tup (da_cons de_str (da_cons de_int (da_cons (de_tup (da_cons de_str da_nil)) da_nil)))) da_nil))))))) (fun _ => sc__law_odd_sides.nd))))) (dss_one (ds_if (DX.dt (dx_eq (dr_pv (fun _ => pv 3)) (DE.r de_str))) (dss_cons (ds_set (i := 6) (de_addA (dr_pv (fun _ => pv 6)) (DE.r (DF.de (df_lst (da_cons (de_tup (da_cons de_str (da_cons de_int (da_cons de_str da_nil)))) (da_cons (de_tup (da_cons de_str (da_cons de_int (da_cons de_str da_nil)))) (da_cons (de_tup (da_cons de_str (da_cons de_int (da_cons (de_mulA (dr_pv (fun _ => pv 2)) (DE.r (de_addA (dr_pv (fun _ => pv 4)) (DE.r de_int)))) da_nil)))) (da_cons (de_tup (da_cons de_str (da_cons de_int (da_cons de_str da_nil)))) da_nil)))))))) (fun _ => sc__law_odd_sides.nd))
    (dss_cons (ds_set (i := 7) (de_ix (fun _ => rfl) (DE.r (DF.de (df_lcIf (own := [("sign", 9)]) (fun _ => rfl) (fun _ => sc__law_odd_sides.nd) (di_seq (fun _ => rfl) de_str) (dg_pg (fun _ => pg_name (i := 9) sc__law_odd_sides.nd rfl (by first | exact Or.inl rfl | exact Or.inr rfl))) (DX.dt (dx_notIn (fun _ => rfl) (dr_pv (fun _ => pv 9)) (DE.r (de_ix (fun _ => rfl) (dr_pv (fun _ => pv 0)) (DE.r de_int))))) (de_pv (fun _ => pv 9)) (fun _ => blkOk_by (N := N__law_odd_sides) (sc := defScope (topS 56)) (by decide +kernel))))) (DE.r de_int)) (fun _ => sc__law_odd_sides.nd))
    (dss_cons (ds_set (i := 6) (de_addA (dr_pv (fun _ => pv 6)) (DE.r (DF.de (df_lst (da_cons (de_tup (da_cons de_str (da_cons de_int (da_cons de_str da_nil)))) (da_cons (de_tup (da_cons de_str (da_cons de_int (da_cons (de_pv (fun _ => pv 7)) da_nil)))) (da_cons (de_tup (da_cons de_str (da_cons de_int (da_cons (de_pv (fun _ => pv 7)) da_nil)))) (da_cons (de_tup (da_cons de_str (da_cons de_int (da_cons de_str da_nil)))) da_nil)))))))) (fun _ => sc__law_odd_sides.nd))
    (dss_cons (ds_set (i := 6) (de_addA (dr_pv (fun _ => pv 6)) (DE.r (DF.de (df_lst (da_cons (de_tup (da_cons de_str (da_cons de_int (da_cons (de_mulA (dr_pv (fun _ => pv 2)) (DE.r (de_addA (dr_pv (fun _ => pv 4)) (DE.r de_int)))) da_nil)))) (da_cons (de_tup (da_cons de_str (da_cons de_int (da_cons de_str da_nil)))) (da_cons (de_tup (da_cons de_str (da_cons de_int (da_cons (de_addA (dr_pv (fun _ => pv 2)) (dr_pv (fun _ => pv 7))) da_nil)))) da_nil))))))) (fun _ => sc__law_odd_sides.nd))
    (dss_one (ds_for (fun _ => passes_of rfl) (fun _ => rfl) (di_seq (fun _ => rfl) (DF.de (df_lst (da_cons de_str (da_cons de_str da_nil))))) (dg_pg (fun _ => pg_name (i := 8) sc__law_odd_sides.nd rfl (.inl rfl))) (dss_one (ds_set (i := 6) (de_addA (dr_pv (fun _ => pv 6)) (DE.r (DF.de (df_lst (da_cons (de_tup (da_cons (de_pv (fun _ => pv 8)) (da_cons (de_pv (fun _ => pv 5)) (da_cons (de_pv (fun _ => pv 2)) da_nil)))) (da_cons (de_tup (da_cons (de_pv (fun _ => pv 8)) (da_cons (de_neg de_int) (da_cons (de_pv (fun _ => pv 2)) da_nil)))) (da_cons (de_tup (da_cons (de_pv (fun _ => pv 8)) (da_cons de_bl (da_cons (de_pv (fun _ => pv 2)) da_nil)))) (da_cons (de_tup (da_cons (de_pv (fun _ => pv 8)) (da_cons de_int (da_cons de_non da_nil)))) (da_cons (de_tup (da_cons (de_pv (fun _ => pv 8)) (da_cons de_int (da_cons (de_tup (da_cons (de_pv (fun _ => pv 2)) da_nil)) da_nil)))) da_nil))))))))) (fun _ => sc__law_odd_sides.nd))))))))) (dss_one (ds_set (i := 6) (de_addA (dr_pv (fun _ => pv 6)) (DE.r (DF.de (df_lst (da_cons (de_tup (da_cons de_str (da_cons de_int (da_cons de_str da_nil)))) (da_cons (de_tup (da_cons de_str (da_cons de_int (da_cons (de_pv (fun _ => pv 2)) da_nil)))) (da_cons (de_tup (da_cons de_str (da_cons de_int (da_cons (de_pv (fun _ => pv 2)) da_nil)))) (da_cons (de_tup (da_cons de_str (da_cons de_int (da_cons de_str da_nil)))) (da_cons (de_tup (da_cons de_str (da_cons de_int (da_cons de_str da_nil)))) da_nil))))))))) (fun _ => sc__law_odd_sides.nd))))))
    (dss_one (ds_ret (de_pv (fun _ => pv 6))))))))))))
    (fun ds ed Q h => by
      obtain ⟨M, R, ok, okR, rfl, hq⟩ := h
      have hi3 := okR.hi3
      unfold N__law_odd_sides
      have sz : ∀ i, i ≤ 3000 → i ≤ sizeLine := fun i h => by rw [sizeLine_eq]; omega
      have l0 : 0 < M.ls.length := List.length_pos_iff.mpr ok.l0
      have l3 := ok.l3
      have r6 := ok.r6
      refine start ?_
      refine sq_asgT ⟨l0, by omega⟩ trivial ?_
      obtain ⟨a, ha⟩ : ∃ a, M.ls.getD 0 0 = a := ⟨_, rfl⟩
      have ain : a ∈ M.ls := by rw [← ha, List.getD_eq_getElem?_getD, List.getElem?_eq_getElem l0]; exact List.getElem_mem _
      rw [ha, show (M.rowsD.length : Int) = (M.rows.length : Nat) by rw [Mach.rowsD, List.length_map]]
      have laya : PyData.canLay0 (.str (txt [a])) = true := lay_a ok fun c hc => .inl (by rw [List.mem_singleton.mp hc]; exact ain)
      refine sq_setP (ODD M R 8) trivial ⟨_, rfl, ?_, Nat.le_of_ble_eq_true rfl⟩ fun y hy => setg_go ?_
      · walk_at "each"
        · exact odd_no (by walk_at "pl") (by intro _ _ _ e; cases e)
        · exact odd_no (by walk_at "pl") (by intro _ _ _ e; cases e)
        · exact odd_no (by walk_at "pl") (by intro _ _ _ e; cases e)
        · exact odd_no (by walk_at "pl") (by intro _ _ _ e; cases e)
        · exact odd_st (by walk_at "pl") (whole_over (Nat.le_refl _))
        · exact odd_st (by walk_at "pl") rfl
        · exact odd_no (by walk_at "pl") (by intro _ _ _ e; cases e)
        · exact odd_no (by walk_at "pl") (by intro _ _ _ e; cases e)
      obtain ⟨L1, rfl, o1, n1⟩ := hy
      refine sq_setP (ODD M R 13) (sz _ (by show L1.length + 5 ≤ 3000; omega)) (odd_app (k' := 5) o1 n1 ?_ (Nat.le_of_ble_eq_true rfl) (by decide)) fun y hy => setg_go ?_
      · walk_at "each"
        · exact odd_ph .whole (Nat.le_of_ble_eq_true rfl) laya (no_wt (.inl rfl) fun e => nomatch txt_inj e)
        · exact odd_ph .torn (by decide +kernel) (by decide +kernel) (no_wt (.inr rfl) (by decide +kernel))
        · exact odd_ph .torn (Nat.le_of_ble_eq_true rfl) laya (no_wt (.inr rfl) fun e => nomatch txt_inj e)
        · exact odd_al (by decide +kernel) (by decide +kernel) (by decide +kernel) (by decide +kernel) (by intro p; cases p <;> decide +kernel)
        · exact odd_x .whole .non rfl rfl (by decide) fun _ => rfl
      obtain ⟨L2, rfl, o2, n2⟩ := hy
      refine sq_setP (ODD M R 18) (sz _ (by show L2.length + 5 ≤ 3000; omega)) (odd_app (k' := 5) o2 n2 ?_ (Nat.le_of_ble_eq_true rfl) (by decide)) fun y hy => setg_go ?_
      · walk_at "each"
        · exact odd_y (by decide +kernel) .non rfl rfl (by decide) (by decide +kernel) fun _ => rfl
        · exact odd_st (by walk_at "pl") rfl
        · exact odd_st (by walk_at "pl") (whole_over (Nat.le_refl _))
        · exact odd_st (by walk_at "pl") rfl
        · exact odd_x .torn .non rfl rfl (by decide) fun _ => rfl
      obtain ⟨L3, rfl, o3, n3⟩ := hy
      refine sq_setP (ODD M R 20) (sz _ (by show L3.length + 2 ≤ 3000; omega)) (odd_app (k' := 2) o3 n3 ?_ (Nat.le_of_ble_eq_true rfl) (by decide)) fun y hy => setg_go ?_
      · walk_at "each"
        · exact odd_y (by decide +kernel) (by walk_at "pl") (pa := .list []) rfl rfl (by decide) (by decide +kernel) fun _ => rfl
        · exact odd_x .whole (by walk_at "pl") (pc := .list []) rfl rfl (by decide) fun _ => rfl
      obtain ⟨L4, rfl, o4, n4⟩ := hy
      refine sq_setP (ODD M R 26) (sz _ (by show L4.length + 6 ≤ 3000; omega)) (odd_app (k' := 6) o4 n4 ?_ (Nat.le_of_ble_eq_true rfl) (by decide)) fun y hy => setg_go ?_
      · walk_at "each"
        · exact odd_st (by walk_at "pl") rfl
        · exact odd_st (by walk_at "pl") rfl
        · exact odd_al (by decide +kernel) (by decide +kernel) (by decide +kernel) (by decide +kernel) (by intro p; cases p <;> decide +kernel)
        · exact odd_no (by walk_at "pl") (by intro _ _ _ e; cases e)
        · exact odd_x .whole (by walk_at "pl") (pc := .tuple []) rfl rfl (by decide) fun _ => rfl
        · exact odd_no (.dic _ _) (by intro _ _ _ e; cases e)
      obtain ⟨L5, rfl, o5, n5⟩ := hy
      have fin : ∀ (L : List D) (x7 x8 x9 : Slot), (∀ x ∈ L, OddS M R x) → L.length ≤ 200 → wRet (wVar 6) [.dat M.d, .dat R.d, .dat (.str (txt [a])), .dat (.str R.k.s), .dat (.int (R.hi : Nat)), .dat (.int (M.rows.length : Nat)), .dat (.lst L), x7, x8, x9] (dEnds ed Q) := fun L x7 x8 x9 h1 h2 => hq L h1 h2
      have lsno : ∀ c, c ∉ (Str.ofString "abcdefghijklmnopqrstuvwxyz").cps.toList → c ∉ M.ls := fun c hc h => by
        have h1 := (Bool.and_eq_true _ _ ▸ ok.ls : _ ∧ _).1
        have h1 := (Bool.and_eq_true _ _ ▸ h1 : _ ∧ _).2
        exact absurd (of_decide_eq_true (List.all_eq_true.mp h1 c h)) hc
      have ls63 : 63 ∉ M.ls := lsno 63 (by decide +kernel)
      have a63 : a ≠ 63 := fun e => ls63 (e ▸ ain)
      rcases R with ⟨kd, lo, hi⟩
      have hi3 : hi ≤ 3 := hi3
      cases kd with
      | faded =>
        refine sq_if trivial (fun _ => ?_) fun h => absurd h (by show ¬ (decide (Kd.faded.s = Str.ofString "faded")) = false; decide +kernel)
        refine sq_sq ?_
        refine sq_setP (ODD M _ 30) ⟨⟨by show (0 : Int) ≤ (hi : Int) + 1; omega, by show (hi : Int) + 1 ≤ 1000; omega, by decide +kernel⟩, sz _ (by show L5.length + 4 ≤ 3000; omega)⟩ (odd_app (k' := 4) o5 n5 ?_ (Nat.le_of_ble_eq_true rfl) (by decide)) fun y hy => setg_go ?_
        · walk_at "each"
          · exact odd_ph .fading (by decide +kernel) (by decide +kernel) (no_fd (u := []) fun _ h => absurd h.1 (by decide))
          · rw [show Str.ofString "?" = txt [63] from rfl, show (((Rule.hi ⟨.faded, lo, hi⟩ : Nat) : Int) + 1) = ((hi + 1 : Nat) : Int) from rfl, mul_one]; exact odd_ph .fading (by show (List.replicate (hi + 1) 63).length ≤ 100000; rw [List.length_replicate]; omega) (lay_a ok fun c hc => .inr (by rw [(List.mem_replicate.mp hc).2]; decide)) (no_fd fun _ h => by have := h.2.1; rw [List.length_replicate] at this; exact absurd this (by show ¬ hi + 1 ≤ hi; omega))
          · exact odd_ph .fading (Nat.le_of_ble_eq_true rfl) laya (no_fd fun _ h => a63 (h.2.2 a List.mem_cons_self))
          · exact odd_ph .once (Nat.le_of_ble_eq_true rfl) laya (no_db (.inl rfl) fun h => nomatch h)
        obtain ⟨L6, rfl, o6, n6⟩ := hy
        refine sq_sq ?_
        refine sq_setP (ODD M _ 34) ⟨⟨sz _ (Nat.le_of_ble_eq_true rfl), sz _ (Nat.le_of_ble_eq_true rfl)⟩, sz _ (by show L6.length + 4 ≤ 3000; omega)⟩ (odd_app (k' := 4) o6 n6 ?_ (Nat.le_of_ble_eq_true rfl) (by decide)) fun y hy => setg_go ?_
        · walk_at "each"
          · rw [show Str.ofString "?" = txt [63] from rfl, txt_cat]; exact odd_ph .fading (Nat.le_of_ble_eq_true rfl) (lay_a ok fun c hc => by rcases List.mem_cons.mp hc with rfl | hc; exact .inr (by decide); exact .inl (by rw [List.mem_singleton.mp hc]; exact ain)) (no_fd fun _ h => a63 (h.2.2 a (List.mem_cons_of_mem _ List.mem_cons_self)))
          · rw [show Str.ofString "?" = txt [63] from rfl, txt_cat]; exact odd_ph .fading (Nat.le_of_ble_eq_true rfl) (lay_a ok fun c hc => by rcases List.mem_cons.mp hc with rfl | hc; exact .inl ain; exact .inr (by rw [List.mem_singleton.mp hc]; decide)) (no_fd fun _ h => a63 (h.2.2 a List.mem_cons_self))
          · exact odd_x .fading .non rfl rfl (by decide) fun _ => rfl
          · exact odd_ph .twice (Nat.le_of_ble_eq_true rfl) laya (no_db (.inr rfl) fun h => nomatch h)
        obtain ⟨L7, rfl, o7, n7⟩ := hy
        refine sq_setP (ODD M _ 37) (sz _ (by show L7.length + 3 ≤ 3000; omega)) (odd_app (k' := 3) o7 n7 ?_ (Nat.le_of_ble_eq_true rfl) (by decide)) fun y hy => setg_go ?_
        · walk_at "each"
          · exact odd_st (by walk_at "pl") (whole_over (Nat.le_refl _))
          · exact odd_st (by walk_at "pl") rfl
          · exact odd_x .fading (by walk_at "pl") (pc := .tuple [.str (Str.ofString "?")]) rfl (by decide +kernel) (by decide +kernel) fun _ => rfl
        obtain ⟨L8, rfl, o8, n8⟩ := hy
        exact fin L8 _ _ _ o8 (by omega)
      | doubled =>
        refine sq_if trivial (fun h => absurd h (by show ¬ (decide (Kd.doubled.s = Str.ofString "faded")) = true; decide +kernel)) fun _ => ?_
        refine sq_if trivial (fun _ => ?_) fun h => absurd h (by show ¬ (decide (Kd.doubled.s = Str.ofString "doubled")) = false; decide +kernel)
        refine sq_sq ?_
        refine sq_setP (ODD M _ 30) ⟨⟨by show (0 : Int) ≤ (hi : Int) + 1; omega, by show (hi : Int) + 1 ≤ 1000; omega, Nat.le_of_ble_eq_true rfl⟩, sz _ (by show L5.length + 4 ≤ 3000; omega)⟩ (odd_app (k' := 4) o5 n5 ?_ (Nat.le_of_ble_eq_true rfl) (by decide)) fun y hy => setg_go ?_
        · walk_at "each"
          · exact odd_ph .once (by decide +kernel) (by decide +kernel) (no_db (.inl rfl) (u := []) fun _ h => absurd h.1 (by decide))
          · exact odd_ph .twice (by decide +kernel) (by decide +kernel) (no_db (.inr rfl) (u := []) fun _ h => absurd h.1 (by decide))
          · rw [show (((Rule.hi ⟨.doubled, lo, hi⟩ : Nat) : Int) + 1) = ((hi + 1 : Nat) : Int) from rfl, mul_one]; exact odd_ph .once (by show (List.replicate (hi + 1) a).length ≤ 100000; rw [List.length_replicate]; omega) (lay_a ok fun c hc => .inl (by rw [(List.mem_replicate.mp hc).2]; exact ain)) (no_db (.inl rfl) fun _ h => by have := h.2.1; rw [List.length_replicate] at this; exact absurd this (by show ¬ hi + 1 ≤ hi; omega))
          · exact odd_ph .twice (by decide +kernel) (by decide +kernel) (no_db (.inr rfl) (u := [63]) fun _ h => ls63 (h.2.2 63 List.mem_cons_self))
        obtain ⟨L6, rfl, o6, n6⟩ := hy
        refine sq_sq ?_
        obtain ⟨c, r, hc, cno, c128, c126⟩ := strange_of l3
        refine sq_set (C := True) (d := wD [c]) (h := ⟨fun _ ed Q q => ?_⟩) trivial ?_
        · conv => whnf
          refine ⟨sz _ (Nat.le_of_ble_eq_true rfl), .inl rfl, ?_⟩
          refine compW_filter (f := id) (t := fun d => match sign1 d with | some c => !decide (c ∈ M.ls) | none => false) (fun d hd R Z hR hZ => ?_) ?_
          · obtain ⟨k, hk, rfl⟩ := List.mem_map.mp hd
            conv => whnf
            refine fork_i (fun h => ?_) fun h => ?_
            · exact hR (by simpa [sign1] using h)
            · exact hZ (by simpa [sign1] using h)
          · rw [List.map_id, show chars (Str.ofString "abcxyz") = sg [97, 98, 99, 120, 121, 122] from rfl, filter_sg, hc]
            exact onO_i (a := wD [c]) atI_zero q
        have layc : PyData.canLay0 (.str (txt [c])) = true := lay_a ok fun d hd => .inr (by rw [List.mem_singleton.mp hd]; exact c128)
        refine sq_sq ?_
        refine sq_setP (ODD M _ 34) (sz _ (by show L6.length + 4 ≤ 3000; omega)) (odd_app (k' := 4) o6 n6 ?_ (Nat.le_of_ble_eq_true rfl) (by decide)) fun y hy => setg_go ?_
        · walk_at "each"
          · exact odd_ph .fading (by decide +kernel) (by decide +kernel) (no_fd (u := [63]) fun h => nomatch h)
          · exact odd_ph .once (Nat.le_of_ble_eq_true rfl) layc (no_db (.inl rfl) (fun _ h => cno (h.2.2 c List.mem_cons_self)))
          · exact odd_ph .twice (Nat.le_of_ble_eq_true rfl) layc (no_db (.inr rfl) (fun _ h => cno (h.2.2 c List.mem_cons_self)))
          · exact odd_ph .once (by decide +kernel) (by decide +kernel) (no_db (.inl rfl) (u := [126]) fun _ h => lsno 126 (by decide +kernel) (h.2.2 126 List.mem_cons_self))
        obtain ⟨L7, rfl, o7, n7⟩ := hy
        refine sq_sq ?_
        refine sq_setP (ODD M _ 37) ⟨⟨⟨by show (0 : Int) ≤ (hi : Int) + 1; omega, by show (hi : Int) + 1 ≤ 1000; omega, Nat.le_of_ble_eq_true rfl⟩, sz _ (Nat.le_of_ble_eq_true rfl)⟩, sz _ (by show L7.length + 3 ≤ 3000; omega)⟩ (odd_app (k' := 3) o7 n7 ?_ (Nat.le_of_ble_eq_true rfl) (by decide)) fun y hy => setg_go ?_
        · walk_at "each"
          · rw [show (((Rule.hi ⟨.doubled, lo, hi⟩ : Nat) : Int) + 1) = ((hi + 1 : Nat) : Int) from rfl, mul_one]; exact odd_ph .twice (by show (List.replicate (hi + 1) a).length ≤ 100000; rw [List.length_replicate]; omega) (lay_a ok fun c hc => .inl (by rw [(List.mem_replicate.mp hc).2]; exact ain)) (no_db (.inr rfl) fun _ h => by have := h.2.1; rw [List.length_replicate] at this; exact absurd this (by show ¬ hi + 1 ≤ hi; omega))
          · exact odd_ph .once (by decide +kernel) (by decide +kernel) (no_db (.inl rfl) (u := [42]) fun _ h => lsno 42 (by decide +kernel) (h.2.2 42 List.mem_cons_self))
          · rw [txt_cat]; exact odd_ph .twice (Nat.le_of_ble_eq_true rfl) (lay_a ok fun d hd => by rcases List.mem_cons.mp hd with rfl | hd; exact .inl ain; exact .inr (by rw [List.mem_singleton.mp hd]; exact c128)) (no_db (.inr rfl) fun _ h => cno (h.2.2 c (List.mem_cons_of_mem _ List.mem_cons_self)))
        obtain ⟨L8, rfl, o8, n8⟩ := hy
        refine sq_for (fun i G => ∃ (L : List D) (x8 : Slot), G = [.dat M.d, .dat (Rule.d ⟨.doubled, lo, hi⟩), .dat (wD [a]), .dat (.str (Kd.s .doubled)), .dat (.int (hi : Nat)), .dat (.int (M.rows.length : Nat)), .dat (.lst L), .dat (wD [c]), x8, .un] ∧ (∀ x ∈ L, OddS M ⟨.doubled, lo, hi⟩ x) ∧ L.length ≤ 40 + 5 * i) trivial (.inl rfl) ?_ ⟨L8, _, rfl, o8, by omega⟩ ?_
        · rintro i d G hd ⟨L, x8, rfl, o, n⟩ De' LE
          have i2 : i < 2 := (List.getElem?_eq_some_iff.mp hd).1
          obtain ⟨p, rfl⟩ : ∃ p : Ph, d = .str p.s := by
            match i, i2, hd with
            | 0, _, hd => exact ⟨.once, (Option.some.inj hd).symm⟩
            | 1, _, hd => exact ⟨.twice, (Option.some.inj hd).symm⟩
          have plp : Pl (.str p.s) := .str _ (by cases p <;> decide +kernel)
          refine go_i trivial ?_
          refine la_setP (ODD M ⟨.doubled, lo, hi⟩ (45 + 5 * i)) (sz _ (by show L.length + 5 ≤ 3000; omega)) (odd_app (k' := 5) o n ?_ (Nat.le_of_ble_eq_true rfl) (by omega)) fun y hy => LE.nx _ ?_
          · walk_at "each"
            · exact odd_st (by walk_at "pl"; all_goals first | exact plp | exact .str _ (Nat.le_of_ble_eq_true rfl)) (whole_over (Nat.le_refl _))
            · exact odd_st (by walk_at "pl"; all_goals first | exact plp | exact .str _ (Nat.le_of_ble_eq_true rfl)) rfl
            · exact odd_st (by walk_at "pl"; all_goals first | exact plp | exact .str _ (Nat.le_of_ble_eq_true rfl)) rfl
            · exact odd_x p .non rfl rfl (by decide) fun _ => rfl
            · exact odd_x p (by walk_at "pl"; exact .str _ (Nat.le_of_ble_eq_true rfl)) (pc := .tuple [.str (txt [a])]) rfl (by rw [PyData.canLay0, PyData.canLayAll0, PyData.canLayAll0, laya]; rfl) (by simp [PyData.depth, PyData.depthAll]) fun _ => rfl
          obtain ⟨L9, rfl, o9, n9⟩ := hy
          exact ⟨L9, _, rfl, o9, by omega⟩
        · rintro G ⟨L, x8, rfl, o, n⟩
          exact fin L _ _ _ o (by have : [D.str (Str.ofString "once"), D.str (Str.ofString "twice")].length = 2 := rfl; omega)
      | «open» =>
        refine sq_if trivial (fun h => absurd h (by show ¬ (decide (Kd.open.s = Str.ofString "faded")) = true; decide +kernel)) fun _ => ?_
        refine sq_if trivial (fun h => absurd h (by show ¬ (decide (Kd.open.s = Str.ofString "doubled")) = true; decide +kernel)) fun _ => ?_
        refine sq_setP (ODD M _ 31) (sz _ (by show L5.length + 5 ≤ 3000; omega)) (odd_app (k' := 5) o5 n5 ?_ (Nat.le_of_ble_eq_true rfl) (by decide)) fun y hy => setg_go ?_
        · walk_at "each"
          · exact odd_ph .fading (by decide +kernel) (by decide +kernel) (no_fd (u := [63]) fun h => nomatch h)
          · exact odd_ph .once (Nat.le_of_ble_eq_true rfl) laya (no_db (.inl rfl) fun h => nomatch h)
          · exact odd_ph .twice (Nat.le_of_ble_eq_true rfl) laya (no_db (.inr rfl) fun h => nomatch h)
          · exact odd_ph .fading (by decide +kernel) (by decide +kernel) (no_fd (u := []) fun h => nomatch h)
          · exact odd_ph .once (by decide +kernel) (by decide +kernel) (no_db (.inl rfl) (u := []) fun h => nomatch h)
        obtain ⟨L6, rfl, o6, n6⟩ := hy
        exact fin L6 _ _ _ o6 (by omega)
      | closed =>
        refine sq_if trivial (fun h => absurd h (by show ¬ (decide (Kd.closed.s = Str.ofString "faded")) = true; decide +kernel)) fun _ => ?_
        refine sq_if trivial (fun h => absurd h (by show ¬ (decide (Kd.closed.s = Str.ofString "doubled")) = true; decide +kernel)) fun _ => ?_
        refine sq_setP (ODD M _ 31) (sz _ (by show L5.length + 5 ≤ 3000; omega)) (odd_app (k' := 5) o5 n5 ?_ (Nat.le_of_ble_eq_true rfl) (by decide)) fun y hy => setg_go ?_
        · walk_at "each"
          · exact odd_ph .fading (by decide +kernel) (by decide +kernel) (no_fd (u := [63]) fun h => nomatch h)
          · exact odd_ph .once (Nat.le_of_ble_eq_true rfl) laya (no_db (.inl rfl) fun h => nomatch h)
          · exact odd_ph .twice (Nat.le_of_ble_eq_true rfl) laya (no_db (.inr rfl) fun h => nomatch h)
          · exact odd_ph .fading (by decide +kernel) (by decide +kernel) (no_fd (u := []) fun h => nomatch h)
          · exact odd_ph .once (by decide +kernel) (by decide +kernel) (no_db (.inl rfl) (u := []) fun h => nomatch h)
        obtain ⟨L6, rfl, o6, n6⟩ := hy
        exact fin L6 _ _ _ o6 (by omega))

end
end T

namespace T
open PySem PySem.Spec PyProof.Rows L2 DL
/-! ### the moves of a side, in any order -/
def Mach.ms (M : Mach) (R : Rule) (S : Sd) : List Mv := match S.ph with
  | .whole => M.mvWhole R S.st
  | .twice => [S.tw]
  | .torn => M.mvTorn S.st
  | _ => M.mvIn R S.st S.held
theorem sort_mvs (xs : List Mv) : sortD (xs.map Mv.d) = (xs.mergeSort fun a b => leD a.d b.d).map Mv.d := (List.map_mergeSort (f := Mv.d) (fun _ _ _ _ => rfl)).symm
theorem mvs_ms (M : Mach) (R : Rule) (S : Sd) : ∃ xs : List Mv, xs.Perm (M.ms R S) ∧ M.mvs R S = xs.map Mv.d := by
  unfold Mach.mvs Mach.ms
  cases S.ph with
  | whole => exact ⟨_, List.mergeSort_perm _ _, sort_mvs _⟩
  | twice => exact ⟨_, .refl _, rfl⟩
  | torn => exact ⟨_, .refl _, rfl⟩
  | fading => exact ⟨_, List.mergeSort_perm _ _, sort_mvs _⟩
  | once => exact ⟨_, List.mergeSort_perm _ _, sort_mvs _⟩
structure Mv.Ok (M : Mach) (R : Rule) (m : Mv) : Prop where
  sl : m.sign.length ≤ 1
  ss : ∀ c ∈ m.sign, c < 128
  tl : m.text.length ≤ 3
  ts : ∀ c ∈ m.text, c ∈ M.ls
  to : m.to.Ok M R
theorem way_ok {M : Mach} (ok : M.Ok) {R : Rule} (okR : R.Ok) {s lo hi : Nat} (hs : s < M.rows.length) {x : Way} (h : x ∈ M.ways s lo hi) : lo ≤ x.1.length ∧ x.1.length ≤ hi ∧ (∀ c ∈ x.1, c ∈ M.ls) ∧ x.2 < M.rows.length :=
  ⟨(strsA_mem (ways_mem h).1).1, (strsA_mem (ways_mem h).1).2.1, (strsA_mem (ways_mem h).1).2.2, ways_in ok hs h⟩
theorem Sd.torn_ok {M : Mach} {R : Rule} {s : Nat} (h : s < M.rows.length) : Sd.Ok M R ⟨.torn, s, []⟩ := ⟨h, Nat.zero_le _, rfl⟩
theorem Sd.whole_ok {M : Mach} {R : Rule} {s : Nat} (h : s < M.rows.length) : Sd.Ok M R ⟨.whole, s, []⟩ := ⟨h, Nat.zero_le _, rfl⟩
theorem rep_app (n : Nat) (c : Nat) : List.replicate n c ++ [c] = List.replicate (n + 1) c := by rw [List.replicate_succ', ]
theorem into_ok {M : Mach} (ok : M.Ok) {R : Rule} (okR : R.Ok) {s : Nat} (hs : s < M.rows.length) {held : List Nat} (hl : held.length < R.hi) (hk : R.k = .faded ∧ held = List.replicate held.length 63 ∨ R.k = .doubled ∧ ∀ c ∈ held, c ∈ M.ls) {m : Mv} (h : m ∈ M.into R.k s held) : m.Ok M R := by
  obtain ⟨x, hx, rfl⟩ := List.mem_map.mp h
  obtain ⟨x1, x2, x3, x4⟩ := way_ok ok okR hs hx
  rcases hk with ⟨hk, hh⟩ | ⟨hk, hh⟩
  · rw [if_pos hk]
    refine ⟨Nat.le_refl 1, fun c hc => by rw [List.mem_singleton.mp hc]; decide, by show x.1.length ≤ 3; omega, x3, x4, ?_, hk, ?_, ?_⟩
    · show (held ++ [63]).length ≤ R.hi
      rw [List.length_append]
      exact hl
    · show 1 ≤ (held ++ [63]).length
      rw [List.length_append]
      exact Nat.le_add_left _ _
    · show held ++ [63] = List.replicate (held ++ [63]).length 63
      rw [List.length_append]
      conv => lhs; rw [hh, rep_app]
      rfl
  · rw [if_neg (by rw [hk]; decide)]
    refine ⟨by show x.1.length ≤ 1; omega, fun c hc => ok.sign (x3 c hc), by show x.1.length ≤ 3; omega, x3, x4, ?_, hk, ?_, ?_⟩
    · show (held ++ x.1).length ≤ R.hi
      rw [List.length_append]
      omega
    · show 1 ≤ (held ++ x.1).length
      rw [List.length_append]
      omega
    · intro c hc
      rcases List.mem_append.mp hc with hc | hc
      · exact hh c hc
      · exact x3 c hc
theorem ms_ok {M : Mach} (ok : M.Ok) {R : Rule} (okR : R.Ok) {S : Sd} (okS : S.Ok M R) {m : Mv} (h : m ∈ M.ms R S) : m.Ok M R := by
  obtain ⟨ph, s, held⟩ := S
  have hs : s < M.rows.length := okS.st
  have hl : held.length ≤ R.hi := okS.h3
  have hi3 := okR.hi3
  have hph := okS.ph
  have dn : Mv.Ok M R ⟨[], [], ⟨.torn, s, []⟩⟩ := ⟨Nat.zero_le _, fun _ z => (nomatch z), Nat.zero_le _, fun _ z => (nomatch z), Sd.torn_ok hs⟩
  have h : m ∈ (match ph with
    | .whole => M.mvWhole R s
    | .twice => [Sd.tw ⟨ph, s, held⟩]
    | .torn => M.mvTorn s
    | _ => M.mvIn R s held) := h
  cases ph with
  | whole =>
    rcases List.mem_append.mp h with h | h
    · obtain ⟨x, hx, rfl⟩ := List.mem_map.mp h
      obtain ⟨x1, x2, x3, x4⟩ := way_ok ok okR hs hx
      exact ⟨by show x.1.length ≤ 1; omega, fun c hc => ok.sign (x3 c hc), by show x.1.length ≤ 3; omega, x3, Sd.whole_ok x4⟩
    · split at h
      · obtain ⟨x, hx, rfl⟩ := List.mem_map.mp h
        obtain ⟨x1, x2, x3, x4⟩ := way_ok ok okR hs hx
        refine ⟨?_, ?_, by show x.1.length ≤ 3; omega, x3, Sd.torn_ok x4⟩
        · show (if R.k = .open then [42] else []).length ≤ 1
          split <;> simp
        · show ∀ c ∈ (if R.k = .open then [42] else []), c < 128
          split
          · intro c hc; rw [List.mem_singleton.mp hc]; decide
          · exact fun _ z => nomatch z
      · rename_i hk
        rcases List.mem_append.mp h with h | h
        · split at h
          · refine into_ok ok okR hs (by show 0 < R.hi; assumption) ?_ h
            cases e : R.k with
            | faded => exact .inl ⟨rfl, rfl⟩
            | doubled => exact .inr ⟨rfl, fun _ z => nomatch z⟩
            | «open» => exact absurd (.inl e) hk
            | closed => exact absurd (.inr e) hk
          · exact nomatch h
        · split at h
          · rw [List.mem_singleton.mp h]; exact dn
          · exact nomatch h
  | twice =>
    obtain ⟨hk, h1, hin⟩ : R.k = .doubled ∧ 1 ≤ held.length ∧ ∀ c ∈ held, c ∈ M.ls := hph
    rw [List.mem_singleton.mp h]
    unfold Sd.tw
    split
    · rename_i e
      have e : held.length = 1 := e
      exact ⟨Nat.le_of_eq e, fun c hc => ok.sign (hin c hc), Nat.zero_le _, fun _ z => (nomatch z), Sd.torn_ok hs⟩
    · rename_i e
      have e : ¬ held.length = 1 := e
      refine ⟨by show (held.take 1).length ≤ 1; rw [List.length_take]; omega, fun c hc => ok.sign (hin c (List.mem_of_mem_take hc)), Nat.zero_le _, fun _ z => (nomatch z), hs, ?_, hk, ?_, fun c hc => hin c (List.mem_of_mem_drop hc)⟩
      · show (held.drop 1).length ≤ R.hi
        rw [List.length_drop]
        omega
      · show 1 ≤ (held.drop 1).length
        rw [List.length_drop]
        omega
  | torn =>
    obtain ⟨x, hx, rfl⟩ := List.mem_map.mp h
    obtain ⟨x1, x2, x3, x4⟩ := way_ok ok okR hs hx
    exact ⟨by show x.1.length ≤ 1; omega, fun c hc => ok.sign (x3 c hc), by show x.1.length ≤ 3; omega, x3, Sd.torn_ok x4⟩
  | fading =>
    obtain ⟨hk, h1, hh⟩ : R.k = .faded ∧ 1 ≤ held.length ∧ held = List.replicate held.length 63 := hph
    rcases List.mem_append.mp h with h | h
    · split at h
      · exact into_ok ok okR hs (by assumption) (.inl ⟨hk, hh⟩) h
      · exact nomatch h
    · split at h
      · rw [List.mem_singleton.mp h]; first | exact dn | (rw [if_pos hk]; exact dn)
      · exact nomatch h
  | once =>
    obtain ⟨hk, h1, hin⟩ : R.k = .doubled ∧ 1 ≤ held.length ∧ ∀ c ∈ held, c ∈ M.ls := hph
    rcases List.mem_append.mp h with h | h
    · split at h
      · exact into_ok ok okR hs (by assumption) (.inr ⟨hk, hin⟩) h
      · exact nomatch h
    · split at h
      · rw [List.mem_singleton.mp h, if_neg (by rw [hk]; decide)]
        exact ⟨Nat.zero_le _, fun _ z => (nomatch z), Nat.zero_le _, fun _ z => (nomatch z), hs, hl, hk, h1, hin⟩
      · exact nomatch h
theorem ms_len {M : Mach} (ok : M.Ok) {R : Rule} (okR : R.Ok) (S : Sd) : (M.ms R S).length ≤ 250 := by
  have w1 := fun s => ways_len ok (s := s) (lo := 1) (hi := 1) (by decide)
  have w2 := fun s => ways_len ok (s := s) (lo := R.lo) (hi := R.hi) okR.hi3
  have i1 := fun k s held => into_len ok (k := k) (s := s) (held := held)
  unfold Mach.ms
  cases S.ph with
  | whole =>
    show (M.mvWhole R S.st).length ≤ 250
    unfold Mach.mvWhole
    rw [List.length_append, List.length_map]
    have := w1 S.st
    have := w2 S.st
    have := i1 R.k S.st []
    split
    · rw [List.length_map]; omega
    · rw [List.length_append]
      have : (if 0 < R.hi then M.into R.k S.st [] else []).length ≤ 108 := by split; omega; exact Nat.zero_le _
      have : (if R.lo = 0 then [(⟨[], [], ⟨.torn, S.st, []⟩⟩ : Mv)] else []).length ≤ 1 := by split; exact Nat.le_refl _; exact Nat.zero_le _
      omega
  | twice => exact (by decide : 1 ≤ 250)
  | torn =>
    show (M.mvTorn S.st).length ≤ 250
    unfold Mach.mvTorn
    rw [List.length_map]
    have := w1 S.st
    omega
  | _ =>
    show (M.mvIn R S.st S.held).length ≤ 250
    unfold Mach.mvIn
    rw [List.length_append]
    have := i1 R.k S.st S.held
    have : (if S.held.length < R.hi then M.into R.k S.st S.held else []).length ≤ 108 := by split; omega; exact Nat.zero_le _
    have : ∀ m : Mv, (if R.lo ≤ S.held.length then [m] else []).length ≤ 1 := fun m => by split; exact Nat.le_refl _; exact Nat.zero_le _
    have := this ⟨[], [], if R.k = .faded then ⟨.torn, S.st, []⟩ else ⟨.twice, S.st, S.held⟩⟩
    omega
theorem Ph.gd (p : Ph) : Gd (.str p.s) 10 0 := by
  refine (Gd.str fun c hc => ?_).mono ?_ (Nat.le_refl _)
  · revert c
    cases p <;> decide +kernel
  · cases p <;> decide +kernel
theorem Mv.Ok.gd {M : Mach} (ok : M.Ok) {R : Rule} (okR : R.Ok) {m : Mv} (h : m.Ok M R) : Gd m.p 60 2 := by
  have hi3 := okR.hi3
  have r6 := ok.r6
  have a : Gd (.str (txt m.sign)) 1 0 := (Gd.str fun c hc => h.ss c hc).mono h.sl (Nat.le_refl _)
  have b : Gd (.str (txt m.text)) 3 0 := (Gd.str fun c hc => ok.sign (h.ts c hc)).mono h.tl (Nat.le_refl _)
  have hs : ∀ c ∈ m.to.held, c < 128 := fun c hc => phs_signs ok okR _ h.to.in c hc
  have c : Gd (.str (txt m.to.held)) 3 0 := (Gd.str fun c hc => hs c hc).mono (Nat.le_trans h.to.h3 hi3) (Nat.le_refl _)
  have d : Gd (.int (m.to.st : Nat)) 6 0 := Gd.int (by have := h.to.st; omega)
  have e := (Gds.two m.to.ph.gd (Gds.two d (Gds.two c Gds.nil))).tup
  exact (Gds.two a (Gds.two b (Gds.two e Gds.nil))).tup.mono (by decide) (by decide)
def Mach.mP (M : Mach) (R : Rule) (S : Sd) : PyData := .list ((M.mvs R S).filterMap pyD)
theorem mvs_py {M : Mach} (ok : M.Ok) {R : Rule} (okR : R.Ok) {S : Sd} (okS : S.Ok M R) : ∃ p, pyD (.lst (M.mvs R S)) = some p ∧ Gd p 20000 3 ∧ (M.mvs R S).length ≤ 250 := by
  obtain ⟨xs, pm, e⟩ := mvs_ms M R S
  have hl : xs.length ≤ 250 := by rw [pm.length_eq]; exact ms_len ok okR S
  refine ⟨.list (xs.map Mv.p), by rw [e, pyD, py_mvs]; rfl, ?_, by rw [e, List.length_map]; exact hl⟩
  have := Gds.of (wt := 60) (dp := 2) (ds := xs.map Mv.p) fun d hd => by
    obtain ⟨m, hm, rfl⟩ := List.mem_map.mp hd
    exact (ms_ok ok okR okS (pm.mem_iff.mp hm)).gd ok okR
  refine this.lst.mono ?_ (Nat.le_refl _)
  rw [List.length_map]
  omega
end T

set_option synthInstance.maxSize 100000
set_option synthInstance.maxHeartbeats 400000
namespace T
open PySem PySem.Spec PyProof.Rows L2 DL
open LamX (Tabs TabB LamS lamS_by GivesTo lamEnv lamCx)
theorem pss_ex {α : Type} {X : Cx} {sts : List Stmt} {ts : α → TS} (h : ∀ a, PSs X sts (ts a)) : PSs X sts (fun D σ H => ∃ a, ts a D σ H) := ⟨fun pins s σ H D I ⟨a, z⟩ => (h a).run pins s σ H D I z⟩
section
variable {P : Program} {w : World} {K : Fg} {mg : Str → Option Value} {base : Heap}
abbrev N__law_word : List Str := ["call", "e"]
theorem sc__law_word : FnScope N__law_word ["call"] (defScope (topS 53)) := ⟨rfl, rfl, rfl, by decide +kernel, rfl, by decide +kernel, by decide +kernel⟩
abbrev csW (cNoSide cTearError : Addr) : List Cw := [(.ref cNoSide, "side"), (.ref cTearError, "odd")]
theorem word_call {X : Cx} {k : Nat} {cNoSide cTearError cL Pt gC : Addr} {fdC : FuncData} {params : Arguments} {body : Expr} {scope : Scope} {lpos p pos : Pos} {Tb : List (Addr × Str)} {q0 : Str} (hm : (Pt, q0) ∈ Tb) (hu : ∀ t ∈ Tb, t.1 = Pt → t.2 = q0) (X_NoSide : XFact K mg "NoSide" cNoSide) (X_TearError : XFact K mg "TearError" cTearError) (hX : X.prog = P ∧ X.w = w ∧ X.K = K ∧ X.mg = mg ∧ X.base = base) (Fc : Fun K "_law_word" "_law_word" (topS 53) gC fdC) (gc : mg "_law_word" = some (.ref gC)) (bc : Binds K fdC ["call"] [])
    (TB : TabB base mg cL Pt) (cd : X.env.code = .ref cL) (hg : Gl X "_law_word") (hr : Room (k + 2) X.A) (L : LamS X.env.scope scope) (hdef : defaultsOf params X.env = ([], [])) (hbind : ∀ (q : Str) (cl : List (Str × Addr)) (pm cv ctv : Value), bindArgs (PySem.W.kla_fn "<lambda>" q params body scope cl pm cv ctv) ⟨[], []⟩ = pure [])
    {t : XK → TE} (hb : ∀ (A : Around) (outer : List Env) (s : Shared) (H : Hp) (E : XK) (f d : Addr), Room k (A.deeper (lamEnv X scope s.heap.objs.size f d)) → PE (lamCx X A outer s H E scope f d) body (t E)) (hq0 : q0 = lamN X := by rfl) :
    PE X (.Call (.Name "_law_word" p) [.Lambda params body scope lpos] [] pos) (tLamS Tb Pt (TWord K (csW cNoSide cTearError) "none") t) := by
  obtain ⟨rfl, rfl, rfl, rfl, rfl⟩ := hX
  subst hq0
  obtain ⟨oc, od, kV, doc, pm, an, cdv, ct, osl, rfl, lk, hcd⟩ := Fc.ex
  refine pe_lamS (T := Tb) (TT := TWord X.K (csW cNoSide cTearError) "none") (Ng := N__law_word) (a := "call") (c := cL) (g := gC) hg gc Fc.kp lk hcd bc sc__law_word rfl (by first | exact Or.inl rfl | exact Or.inr (Or.inl rfl)) ?_ TB cd hm hu hr L hdef hbind hb
  exact word_gives (i := 1) sc__law_word.nd rfl (fun s H => rfl) (fun f => rfl) (fun s H => (.cons ⟨rfl, by decide, .inl X_NoSide.g⟩ (.cons ⟨rfl, by decide, .inl X_TearError.g⟩ .nil)))
def aL (p : Addr) (x2 x3 x4 x5 x6 x7 x8 x9 x10 : Slot) : Gm := [.un, .dat (.obj (.ref p)), x2, x3, x4, x5, x6, x7, x8, x9, x10]
abbrev sLaw : Stmt := topS 57
abbrev N_law : List Str := ["script", "pen", "turn", "machine", "rule", "text", "side", "due", "again", "told", "odd"]
theorem sc_law : FnScope N_law ["script"] (defScope sLaw) := ⟨rfl, rfl, rfl, by decide +kernel, rfl, by decide +kernel, by decide +kernel⟩
abbrev qL : Str := (envOfC "law" (defScope sLaw) 0 0 .none).qual ++ "<lambda>"
theorem ok_law {f fo cL Pt gC a : Addr} {fdo fdC : FuncData} {oc kV doc pm ct : Value} {od an : Option Addr} {osl : Array (Option Value)} {cNoMachine cNoRule cNoSide cTearError : Addr} {s : Shared} {H : Hp} {ns : List Int}
    (B : Bl mg) (X_NoSide : XFact K mg "NoSide" cNoSide) (X_TearError : XFact K mg "TearError" cTearError)
    
    (F__law_open : FnOk P w K mg base (L2.CX P w) 1 fo fdo ["script"] (spOpen K)) (go : mg "_law_open" = some (.ref fo)) (ko : PySem.W.keepIn K (.ref fo) = true) (bo : Binds K fdo ["script"] [])
    (F__law_any_machine : PFn P w K mg base "_law_any_machine" 4 1 1000000 (wf__law_any_machine))
    (F__law_any_rule : PFn P w K mg base "_law_any_rule" 4 0 6 (wf__law_any_rule))
    (F__law_moves : DFn P w K mg base "_law_moves" 3 3 (wf__law_moves))
    (F__law_odd_sides : DFn P w K mg base "_law_odd_sides" 1 2 (wf__law_odd_sides))
    (F__law_sides : DFn P w K mg base "_law_sides" 2 2 (wf__law_sides))
    (F_moves_of : DFnN P w K mg base "moves_of" 6 3 (wf_moves_of cNoMachine cNoRule cNoSide))
    (F__law_word : Fun K "_law_word" "_law_word" (topS 53) gC fdC) (g__law_word : mg "_law_word" = some (.ref gC)) (b__law_word : Binds K fdC ["call"] [])
    (x_SS : PySem.W.exmOne K (.ref cNoSide) (.ref cNoSide) = some true) 
    (lk : K.lookup f = some ⟨oc, od, .func (PySem.W.fnOf "law" "law" (defArgs sLaw) (defBody sLaw) (defScope sLaw) .none kV doc pm an (.ref cL) ct), osl⟩) (hcd : PySem.W.codeIn K (.ref cL) "law" = true) (TB : TabB base mg cL Pt) 
    (hrA : Room 12 callerA) (e0 : Env0 P w K mg base callerA [] s H) (hT : H Pt = some (.tbl #[]))  (hS : SqL K H a (ns.map V.int))
    (hbd : ∀ (s : Shared) (u : Value), BindsTo s (PySem.W.fnOf "law" "law" (defArgs sLaw) (defBody sLaw) (defScope sLaw) .none kV doc pm an (.ref cL) ct) ⟨[u], []⟩ [("script", u)]) :
    codeAny (model P w) callerA (.call (.ref f) ⟨[.ref a], []⟩) (CR (L2.CX P w) [] P w H s (fun v _ => v = .bl true) fun _ _ _ => False) s := by
  refine law_body (k := 11) lk hcd sc_law hrA e0 hbd fun hr => ?_
  have hgd : (callerA.deeper (envOfC "law" (defScope sLaw) s.heap.objs.size f (.ref cL))).guards = some [] := caller_guards ..
  have nd := sc_law.nd
  have hm : (Pt, qL) ∈ [(Pt, qL)] := List.mem_cons_self
  have hu : ∀ t ∈ [(Pt, qL)], t.1 = Pt → t.2 = qL := fun t ht e => by
    rw [List.mem_singleton.mp ht]
  have der := fun p : Addr => by
    have hpn : ∀ Q : Pn, (HasT [(Pt, qL)] Q ∧ ∃ c, HasPen p Q c) → ∃ c, HasPen p Q c := fun Q h => h.2
    have hTn : ∀ Q : Pn, (HasT [(Pt, qL)] Q ∧ ∃ c, HasPen p Q c) → HasT [(Pt, qL)] Q := fun Q h => h.1
    have hlam := fun (Q : Pn) (h : HasT [(Pt, qL)] Q ∧ ∃ c, HasPen p Q c) => hasT_lam hm h.1
    have t : DSs (fun _ : Unit => cxOf (L2.CX P w) P w K mg base N_law "law" (defScope sLaw) f (.ref cL) callerA [] s H fun _ _ _ => False) K ⟨fun cls d _ H => False, fun Q => HasT [(Pt, qL)] Q ∧ ∃ c, HasPen p Q c⟩ _ (defBody sLaw).tail _ :=
(dss_cons (ds_for (fun _ => passes_of rfl) (fun _ => rfl) (di_range1 (fun _ => B.range) (db_cons (DE.r de_int) db_nil)) (dg_pg (fun _ => pg_name (i := 2) sc_law.nd rfl (.inl rfl))) (dss_cons (ds_asgT (de_tup (da_cons (de_callPT (p := p) F__law_any_machine (fun _ => ⟨rfl, rfl, rfl, rfl, rfl⟩) hpn (fun _ => takes_of rfl rfl rfl rfl) (fun _ => hr) (da_cons (de_pv (fun _ => pv 1)) (da_cons de_int da_nil))) (da_cons (de_callPT (p := p) F__law_any_rule (fun _ => ⟨rfl, rfl, rfl, rfl, rfl⟩) hpn (fun _ => takes_of rfl rfl rfl rfl) (fun _ => hr) (da_cons (de_pv (fun _ => pv 1)) da_nil)) da_nil))) (dg_tup (n := 2) (fun _ => rfl) (fun _ => rfl) (dgs_cons (dg_pg (fun _ => pg_name (i := 3) sc_law.nd rfl (.inr rfl))) (dgs_cons (dg_pg (fun _ => pg_name (i := 4) sc_law.nd rfl (.inr rfl))) dgs_nil))))
    (dss_cons (ds_set (i := 5) (de_repr (fun _ => rfl) (fun _ => hr) (fun _ => hgd) (fun _ => B.repr) (db_cons (DE.r (de_tup (da_cons (de_pv (fun _ => pv 3)) (da_cons (de_pv (fun _ => pv 4)) da_nil)))) db_nil)) (fun _ => sc_law.nd))
    (dss_cons (ds_for (fun _ => passes_of rfl) (fun _ => rfl) (di_seq (fun _ => rfl) (de_call F__law_sides (fun _ => ⟨rfl, rfl, rfl, rfl, rfl⟩) (fun _ => takes_of rfl rfl rfl rfl) (fun _ => hr) (da_cons (de_pv (fun _ => pv 3)) (da_cons (de_pv (fun _ => pv 4)) da_nil)))) (dg_pg (fun _ => pg_name (i := 6) sc_law.nd rfl (.inl rfl))) (dss_cons (ds_set (i := 7) (de_call F__law_moves (fun _ => ⟨rfl, rfl, rfl, rfl, rfl⟩) (fun _ => takes_of rfl rfl rfl rfl) (fun _ => hr) (da_cons (de_pv (fun _ => pv 3)) (da_cons (de_pv (fun _ => pv 4)) (da_cons (de_pv (fun _ => pv 6)) da_nil)))) (fun _ => sc_law.nd))
    (dss_one (ds_for (fun _ => passes_of rfl) (fun _ => rfl) (di_range1 (fun _ => B.range) (db_cons (DE.r de_int) db_nil)) (dg_pg (fun _ => pg_name (i := 8) sc_law.nd rfl (.inl rfl))) (dss_cons (ds_setO (i := 9) (df_callN F_moves_of (fun _ => ⟨rfl, rfl, rfl, rfl, rfl⟩) (fun _ => takes_of rfl rfl rfl rfl) (fun _ => hr) (da_cons (de_pv (fun _ => pv 3)) (da_cons (de_pv (fun _ => pv 4)) (da_cons (de_pv (fun _ => pv 6)) da_nil)))) (fun _ => sc_law.nd))
    (dss_cons (ds_if (DX.dt (dx_ne (DE.r (de_repr (fun _ => rfl) (fun _ => hr) (fun _ => hgd) (fun _ => B.repr) (db_cons (dr_pv (fun _ => pv 9)) db_nil))) (DE.r (de_repr (fun _ => rfl) (fun _ => hr) (fun _ => hgd) (fun _ => B.repr) (db_cons (dr_pv (fun _ => pv 7)) db_nil))))) (dss_one (ds_ret de_bl)) dss_nil)
    (dss_one (ds_append (i := 9) (fun _ => rfl) (fun _ => pv 9) de_non))))))))
    (dss_cons (ds_for (fun _ => passes_of rfl) (fun _ => rfl) (di_seq (fun _ => rfl) (de_call F__law_odd_sides (fun _ => ⟨rfl, rfl, rfl, rfl, rfl⟩) (fun _ => takes_of rfl rfl rfl rfl) (fun _ => hr) (da_cons (de_pv (fun _ => pv 3)) (da_cons (de_pv (fun _ => pv 4)) da_nil)))) (dg_pg (fun _ => pg_name (i := 10) sc_law.nd rfl (.inr rfl))) (dss_one (ds_if (DX.dt (dx_ne (DE.r (de_lam (k := 9) (fun _ t hb => by refine word_call (P := P) (w := w) hm hu X_NoSide X_TearError ?_ F__law_word g__law_word b__law_word TB ?_ ?_ hr ?_ ?_ ?_ hb <;> first | exact ⟨rfl, rfl, rfl, rfl, rfl⟩ | rfl | exact lamS_by (sc := defScope (topS 57)) (by decide +kernel) | (intro _ _ _ _ _; rfl)) hlam (fun E =>
      (DF.de (df_callN F_moves_of (fun _ => ⟨rfl, rfl, rfl, rfl, rfl⟩) (fun _ => takes_of rfl rfl rfl rfl) (fun l => l.room) (da_cons (de_pv (fun _ => pv 3)) (da_cons (de_pv (fun _ => pv 4)) (da_cons (de_pv (fun _ => pv 10)) da_nil)))))))) (DE.r de_str))) (dss_one (ds_ret de_bl)) dss_nil)))
    (dss_one (ds_if (DX.dt (dx_ne (DE.r (de_repr (fun _ => rfl) (fun _ => hr) (fun _ => hgd) (fun _ => B.repr) (db_cons (DE.r (de_tup (da_cons (de_pv (fun _ => pv 3)) (da_cons (de_pv (fun _ => pv 4)) da_nil)))) db_nil))) (dr_pv (fun _ => pv 5)))) (dss_one (ds_ret de_bl)) dss_nil)))))))
    (dss_one (ds_ret de_bl)))
    exact t
  refine ⟨_, pss_cons (ps_set (i := 1) nd rfl (by first | exact .inl rfl | exact .inr rfl) (pe_callS F__law_open (hr.mono (by decide)) (by rfl) go ko bo (fun σ => passAt (takes_of rfl rfl rfl rfl) σ) (pa_cons (pv 0) pa_nil))) (pss_ex fun p => (der p).choose_spec.1 ()), ?_⟩
  refine ⟨.ref a, rfl, a, ns, rfl, hS, fun H' p c ex np nc pok => ⟨p, ?_⟩⟩
  refine rest_penT (N := N_law) (E := fun _ _ _ => False) (Q := fun v _ => v = .bl true) (der p) (by decide) (by decide +kernel) pok (fun t ht => ?_) ?_ fun _ => rfl
  · rw [List.mem_singleton.mp ht]; exact ex _ _ hT
  clear der
  unfold N_law
  have sz : ∀ i, i ≤ 30000 → i ≤ sizeLine := fun i h => by rw [sizeLine_eq]; omega
  have tellS : ∀ {F : Str → Prop}, F "side" → told K (.ref cNoSide) F (csW cNoSide cTearError) := fun h => ⟨true, x_SS, fun _ => h, fun z => nomatch z⟩
  show wSq _ _ (aL p .un .un .un .un .un .un .un .un .un) _
  refine sq_for (fun i G => ∃ x2 x3 x4 x5 x6 x7 x8 x9 x10 : Slot, G = aL p x2 x3 x4 x5 x6 x7 x8 x9 x10) (by decide) (.inr (by show 2 ≤ 256; decide)) ?_ ⟨_, _, _, _, _, _, _, _, _, rfl⟩ ?_
  · rintro i d G hd ⟨x2, x3, x4, x5, x6, x7, x8, x9, x10, rfl⟩ De' LE
    unfold aL
    refine go_i trivial ?_
    refine sq_asgTW ?_
    refine tup_i (cons_i (callP_i trivial ⟨6, rfl, by decide, by decide, fun M ok r6 => ?_⟩))
    refine cons_i (callP_i trivial ⟨rfl, fun R okR => nil_i ⟨sz _ (by show 2 ≤ 30000; decide), go_i trivial ?_⟩⟩)
    have gMR := (Gds.two ok.gd (Gds.two okR.gd Gds.nil)).tup
    refine sq_setW (repr_i (p := .tuple [M.sD, R.sD]) trivial PyOf.eq gMR (by decide) (by decide) (setg_go ?_))
    refine sq_forW (seq_i (call_i trivial ⟨M, R, ok, okR, rfl, fun Ss hS lS => ⟨.inl rfl, for_n (fun i G => ∃ x6 x7 x8 x9 : Slot, G = [.un, .dat (.obj (.ref p)), .dat d, .dat M.d, .dat R.d, .dat (.str (PyData.shown (.tuple [M.sD, R.sD]))), x6, x7, x8, x9, x10]) ?_ ⟨_, _, _, _, rfl⟩ ?_⟩⟩))
    · rintro j e G hj ⟨x6, x7, x8, x9, rfl⟩ De2 L2
      obtain ⟨S, hSm, rfl⟩ := List.mem_map.mp (List.mem_of_getElem? hj)
      have okS := hS S hSm
      obtain ⟨pm, e1, g1, l1⟩ := mvs_py ok okR okS
      refine go_i trivial ?_
      refine sq_setW (call_i trivial ⟨M, R, S, ok, okR, okS, rfl, setg_go ?_⟩)
      refine la_for (fun _ G => ∃ x8 x9 : Slot, G = [.un, .dat (.obj (.ref p)), .dat d, .dat M.d, .dat R.d, .dat (.str (PyData.shown (.tuple [M.sD, R.sD]))), .dat S.d, .dat (.lst (M.mvs R S)), x8, x9, x10]) (by decide) (.inl rfl) ?_ ⟨_, _, rfl⟩ ?_
      · rintro k e G _ ⟨x8, x9, rfl⟩ De3 L3
        refine go_i trivial ?_
        refine sq_setOW (callN_i trivial ⟨M, R, S.d, ok, okR, okS.asked ok okR, rfl, .inl ⟨S, okS, rfl, setg_go ?_⟩⟩)
        refine sq_ifW (b_i (e2_i (repr_i trivial e1 g1 (by decide) (by decide) (repr_i trivial e1 g1 (by decide) (by decide) ?_))))
        refine fork_f (by show (!decide (_ = _)) = false; rw [decide_eq_true rfl]; rfl) ?_
        refine sq_pass ?_
        refine la_app (by rw [sizeLine_eq]; omega) trivial ?_
        exact L3.nx _ ⟨_, _, rfl⟩
      · rintro G ⟨x8, x9, rfl⟩
        exact L2.nx _ ⟨_, _, _, _, rfl⟩
    · rintro G ⟨x6, x7, x8, x9, rfl⟩
      refine sq_forW (seq_i (call_i trivial ⟨M, R, ok, okR, rfl, fun out ho lo => ⟨.inl rfl, for_n (fun i G => ∃ x10 : Slot, G = [.un, .dat (.obj (.ref p)), .dat d, .dat M.d, .dat R.d, .dat (.str (PyData.shown (.tuple [M.sD, R.sD]))), x6, x7, x8, x9, x10]) ?_ ⟨_, rfl⟩ ?_⟩⟩))
      · rintro j e G hj ⟨x10, rfl⟩ De2 L2
        obtain ⟨ask, no⟩ := ho e (List.mem_of_getElem? hj)
        refine go_i trivial ?_
        refine la_ifW (b_i (e2_i (lam_i (f_i (callN_i trivial ⟨M, R, e, ok, okR, ask, rfl, .inr ⟨no, ?_⟩⟩)))))
        refine tellS ?_
        refine fork_f rfl ?_
        exact L2.nx _ ⟨_, rfl⟩
      · rintro G ⟨x10, rfl⟩
        refine la_ifW (b_i (e2_i (repr_i (p := .tuple [M.sD, R.sD]) trivial PyOf.eq gMR (by decide) (by decide) ?_)))
        refine fork_f (by show (!decide (_ = _)) = false; rw [decide_eq_true rfl]; rfl) ?_
        exact LE.nx _ ⟨_, _, _, _, _, _, _, _, _, rfl⟩
  · rintro G ⟨x2, x3, x4, x5, x6, x7, x8, x9, x10, rfl⟩
    exact rfl
end
end T

namespace T
open PySem PySem.Spec PyProof.Rows L2 DL
theorem fin {l : PySem.W.OpenLaw} {w : World} {K : Fg} {h : Heap} {mg : Str → Option Value} {fa : Addr} (KX : K.In h) (G : h.Ns mainGlobals mg) (hfa : mg "law" = some (.ref fa))
    (z_isi : PySem.W.nsIn K mainGlobals "isinstance" = some none)
    (z_len : PySem.W.nsIn K mainGlobals "len" = some none)
    (z_bool : PySem.W.nsIn K mainGlobals "bool" = some none)
    (z_int : PySem.W.nsIn K mainGlobals "int" = some none)
    (z_str : PySem.W.nsIn K mainGlobals "str" = some none)
    (z_list : PySem.W.nsIn K mainGlobals "list" = some none)
    (z_tuple : PySem.W.nsIn K mainGlobals "tuple" = some none)
    (z_dict : PySem.W.nsIn K mainGlobals "dict" = some none)
    (z_all : PySem.W.nsIn K mainGlobals "all" = some none)
    (z_any : PySem.W.nsIn K mainGlobals "any" = some none)
    (z_range : PySem.W.nsIn K mainGlobals "range" = some none)
    (z_enumerate : PySem.W.nsIn K mainGlobals "enumerate" = some none)
    (z_zip : PySem.W.nsIn K mainGlobals "zip" = some none)
    (z_sorted : PySem.W.nsIn K mainGlobals "sorted" = some none)
    (z_set : PySem.W.nsIn K mainGlobals "set" = some none)
    (z_repr : PySem.W.nsIn K mainGlobals "repr" = some none)
    (z_min : PySem.W.nsIn K mainGlobals "min" = some none)
    (z_max : PySem.W.nsIn K mainGlobals "max" = some none)
    (z_sum : PySem.W.nsIn K mainGlobals "sum" = some none)
    (z_reversed : PySem.W.nsIn K mainGlobals "reversed" = some none)
    (z_type : PySem.W.nsIn K mainGlobals "type" = some none)
    (z_abs : PySem.W.nsIn K mainGlobals "abs" = some none)
    {tk_SMALL_LETTERS : Tok}
    (a_SMALL_LETTERS : PySem.W.nsIn K mainGlobals "SMALL_LETTERS" = some (some (.str "abcdefghijklmnopqrstuvwxyz" tk_SMALL_LETTERS)))
    {tk_MOST_LETTERS : Tok}
    (a_MOST_LETTERS : PySem.W.nsIn K mainGlobals "MOST_LETTERS" = some (some (.int 3 tk_MOST_LETTERS)))
    {tk_MOST_STATES : Tok}
    (a_MOST_STATES : PySem.W.nsIn K mainGlobals "MOST_STATES" = some (some (.int 6 tk_MOST_STATES)))
    {dBOUNDS : Addr} {es_BOUNDS : Array DictEntry} {n_BOUNDS : Nat}
    (a_BOUNDS : PySem.W.nsIn K mainGlobals "BOUNDS" = some (some (.ref dBOUNDS)))
    (l_BOUNDS : K.lookup dBOUNDS = some ⟨.type "dict", none, .dict es_BOUNDS n_BOUNDS, #[]⟩)
    (t_BOUNDS : PySem.W.KeysLit w.params es_BOUNDS.toList)
    (w_BOUNDS : (dBOUNDS == sysModules) = false)
    (v_BOUNDS : es_BOUNDS.toList.map kvOf = kv_BOUNDS.map some)
    {cNoMachine : Addr}
    (a_NoMachine : PySem.W.nsIn K mainGlobals "NoMachine" = some (some (.ref cNoMachine)))
    (q_NoMachine : PySem.W.excIn K cNoMachine veM "ValueError.__new__" = true)
    (k_NoMachine : PySem.W.keepIn K (.ref cNoMachine) = true)
    (b_NoMachine : PySem.W.subIn K (.ref cNoMachine) (.type "BaseException") = some true)
    (t_NoMachine : PySem.W.typeIn K (.ref cNoMachine) = some (.type "type"))
    {cNoRule : Addr}
    (a_NoRule : PySem.W.nsIn K mainGlobals "NoRule" = some (some (.ref cNoRule)))
    (q_NoRule : PySem.W.excIn K cNoRule veM "ValueError.__new__" = true)
    (k_NoRule : PySem.W.keepIn K (.ref cNoRule) = true)
    (b_NoRule : PySem.W.subIn K (.ref cNoRule) (.type "BaseException") = some true)
    (t_NoRule : PySem.W.typeIn K (.ref cNoRule) = some (.type "type"))
    {cNoSide : Addr}
    (a_NoSide : PySem.W.nsIn K mainGlobals "NoSide" = some (some (.ref cNoSide)))
    (q_NoSide : PySem.W.excIn K cNoSide veM "ValueError.__new__" = true)
    (k_NoSide : PySem.W.keepIn K (.ref cNoSide) = true)
    (b_NoSide : PySem.W.subIn K (.ref cNoSide) (.type "BaseException") = some true)
    (t_NoSide : PySem.W.typeIn K (.ref cNoSide) = some (.type "type"))
    {cTearError : Addr}
    (a_TearError : PySem.W.nsIn K mainGlobals "TearError" = some (some (.ref cTearError)))
    (q_TearError : PySem.W.excIn K cTearError veM "ValueError.__new__" = true)
    (k_TearError : PySem.W.keepIn K (.ref cTearError) = true)
    (b_TearError : PySem.W.subIn K (.ref cTearError) (.type "BaseException") = some true)
    (t_TearError : PySem.W.typeIn K (.ref cTearError) = some (.type "type"))
    {f_is_whole : Addr} {oc_is_whole kV_is_whole dc_is_whole pm_is_whole cd_is_whole ct_is_whole : Value} {od_is_whole an_is_whole : Option Addr} {sl_is_whole : Array (Option Value)}
    (a_is_whole : PySem.W.nsIn K mainGlobals "is_whole" = some (some (.ref f_is_whole)))
    (l_is_whole : K.lookup f_is_whole = some ⟨oc_is_whole, od_is_whole, .func (PySem.W.fnOf "is_whole" "is_whole" (defArgs (topS 7)) (defBody (topS 7)) (defScope (topS 7)) .none kV_is_whole dc_is_whole pm_is_whole an_is_whole cd_is_whole ct_is_whole), sl_is_whole⟩)
    (c_is_whole : PySem.W.codeIn K cd_is_whole "is_whole" = true)
    (k_is_whole : PySem.W.keepIn K (.ref f_is_whole) = true)
    {f_is_text : Addr} {oc_is_text kV_is_text dc_is_text pm_is_text cd_is_text ct_is_text : Value} {od_is_text an_is_text : Option Addr} {sl_is_text : Array (Option Value)}
    (a_is_text : PySem.W.nsIn K mainGlobals "is_text" = some (some (.ref f_is_text)))
    (l_is_text : K.lookup f_is_text = some ⟨oc_is_text, od_is_text, .func (PySem.W.fnOf "is_text" "is_text" (defArgs (topS 8)) (defBody (topS 8)) (defScope (topS 8)) .none kV_is_text dc_is_text pm_is_text an_is_text cd_is_text ct_is_text), sl_is_text⟩)
    (c_is_text : PySem.W.codeIn K cd_is_text "is_text" = true)
    (k_is_text : PySem.W.keepIn K (.ref f_is_text) = true)
    {f_is_ascending : Addr} {oc_is_ascending kV_is_ascending dc_is_ascending pm_is_ascending cd_is_ascending ct_is_ascending : Value} {od_is_ascending an_is_ascending : Option Addr} {sl_is_ascending : Array (Option Value)}
    (a_is_ascending : PySem.W.nsIn K mainGlobals "is_ascending" = some (some (.ref f_is_ascending)))
    (l_is_ascending : K.lookup f_is_ascending = some ⟨oc_is_ascending, od_is_ascending, .func (PySem.W.fnOf "is_ascending" "is_ascending" (defArgs (topS 9)) (defBody (topS 9)) (defScope (topS 9)) .none kV_is_ascending dc_is_ascending pm_is_ascending an_is_ascending cd_is_ascending ct_is_ascending), sl_is_ascending⟩)
    (c_is_ascending : PySem.W.codeIn K cd_is_ascending "is_ascending" = true)
    (k_is_ascending : PySem.W.keepIn K (.ref f_is_ascending) = true)
    {f_strings_of : Addr} {oc_strings_of kV_strings_of dc_strings_of pm_strings_of cd_strings_of ct_strings_of : Value} {od_strings_of an_strings_of : Option Addr} {sl_strings_of : Array (Option Value)}
    (a_strings_of : PySem.W.nsIn K mainGlobals "strings_of" = some (some (.ref f_strings_of)))
    (l_strings_of : K.lookup f_strings_of = some ⟨oc_strings_of, od_strings_of, .func (PySem.W.fnOf "strings_of" "strings_of" (defArgs (topS 10)) (defBody (topS 10)) (defScope (topS 10)) .none kV_strings_of dc_strings_of pm_strings_of an_strings_of cd_strings_of ct_strings_of), sl_strings_of⟩)
    (c_strings_of : PySem.W.codeIn K cd_strings_of "strings_of" = true)
    (k_strings_of : PySem.W.keepIn K (.ref f_strings_of) = true)
    {f__are_letters : Addr} {oc__are_letters kV__are_letters dc__are_letters pm__are_letters cd__are_letters ct__are_letters : Value} {od__are_letters an__are_letters : Option Addr} {sl__are_letters : Array (Option Value)}
    (a__are_letters : PySem.W.nsIn K mainGlobals "_are_letters" = some (some (.ref f__are_letters)))
    (l__are_letters : K.lookup f__are_letters = some ⟨oc__are_letters, od__are_letters, .func (PySem.W.fnOf "_are_letters" "_are_letters" (defArgs (topS 15)) (defBody (topS 15)) (defScope (topS 15)) .none kV__are_letters dc__are_letters pm__are_letters an__are_letters cd__are_letters ct__are_letters), sl__are_letters⟩)
    (c__are_letters : PySem.W.codeIn K cd__are_letters "_are_letters" = true)
    (k__are_letters : PySem.W.keepIn K (.ref f__are_letters) = true)
    {f__is_state : Addr} {oc__is_state kV__is_state dc__is_state pm__is_state cd__is_state ct__is_state : Value} {od__is_state an__is_state : Option Addr} {sl__is_state : Array (Option Value)}
    (a__is_state : PySem.W.nsIn K mainGlobals "_is_state" = some (some (.ref f__is_state)))
    (l__is_state : K.lookup f__is_state = some ⟨oc__is_state, od__is_state, .func (PySem.W.fnOf "_is_state" "_is_state" (defArgs (topS 17)) (defBody (topS 17)) (defScope (topS 17)) .none kV__is_state dc__is_state pm__is_state an__is_state cd__is_state ct__is_state), sl__is_state⟩)
    (c__is_state : PySem.W.codeIn K cd__is_state "_is_state" = true)
    (k__is_state : PySem.W.keepIn K (.ref f__is_state) = true)
    {f__are_states : Addr} {oc__are_states kV__are_states dc__are_states pm__are_states cd__are_states ct__are_states : Value} {od__are_states an__are_states : Option Addr} {sl__are_states : Array (Option Value)}
    (a__are_states : PySem.W.nsIn K mainGlobals "_are_states" = some (some (.ref f__are_states)))
    (l__are_states : K.lookup f__are_states = some ⟨oc__are_states, od__are_states, .func (PySem.W.fnOf "_are_states" "_are_states" (defArgs (topS 16)) (defBody (topS 16)) (defScope (topS 16)) .none kV__are_states dc__are_states pm__are_states an__are_states cd__are_states ct__are_states), sl__are_states⟩)
    (c__are_states : PySem.W.codeIn K cd__are_states "_are_states" = true)
    (k__are_states : PySem.W.keepIn K (.ref f__are_states) = true)
    {f__are_ends : Addr} {oc__are_ends kV__are_ends dc__are_ends pm__are_ends cd__are_ends ct__are_ends : Value} {od__are_ends an__are_ends : Option Addr} {sl__are_ends : Array (Option Value)}
    (a__are_ends : PySem.W.nsIn K mainGlobals "_are_ends" = some (some (.ref f__are_ends)))
    (l__are_ends : K.lookup f__are_ends = some ⟨oc__are_ends, od__are_ends, .func (PySem.W.fnOf "_are_ends" "_are_ends" (defArgs (topS 18)) (defBody (topS 18)) (defScope (topS 18)) .none kV__are_ends dc__are_ends pm__are_ends an__are_ends cd__are_ends ct__are_ends), sl__are_ends⟩)
    (c__are_ends : PySem.W.codeIn K cd__are_ends "_are_ends" = true)
    (k__are_ends : PySem.W.keepIn K (.ref f__are_ends) = true)
    {f_is_machine : Addr} {oc_is_machine kV_is_machine dc_is_machine pm_is_machine cd_is_machine ct_is_machine : Value} {od_is_machine an_is_machine : Option Addr} {sl_is_machine : Array (Option Value)}
    (a_is_machine : PySem.W.nsIn K mainGlobals "is_machine" = some (some (.ref f_is_machine)))
    (l_is_machine : K.lookup f_is_machine = some ⟨oc_is_machine, od_is_machine, .func (PySem.W.fnOf "is_machine" "is_machine" (defArgs (topS 14)) (defBody (topS 14)) (defScope (topS 14)) .none kV_is_machine dc_is_machine pm_is_machine an_is_machine cd_is_machine ct_is_machine), sl_is_machine⟩)
    (c_is_machine : PySem.W.codeIn K cd_is_machine "is_machine" = true)
    (k_is_machine : PySem.W.keepIn K (.ref f_is_machine) = true)
    {f_need_machine : Addr} {oc_need_machine kV_need_machine dc_need_machine pm_need_machine cd_need_machine ct_need_machine : Value} {od_need_machine an_need_machine : Option Addr} {sl_need_machine : Array (Option Value)}
    (a_need_machine : PySem.W.nsIn K mainGlobals "need_machine" = some (some (.ref f_need_machine)))
    (l_need_machine : K.lookup f_need_machine = some ⟨oc_need_machine, od_need_machine, .func (PySem.W.fnOf "need_machine" "need_machine" (defArgs (topS 19)) (defBody (topS 19)) (defScope (topS 19)) .none kV_need_machine dc_need_machine pm_need_machine an_need_machine cd_need_machine ct_need_machine), sl_need_machine⟩)
    (c_need_machine : PySem.W.codeIn K cd_need_machine "need_machine" = true)
    (k_need_machine : PySem.W.keepIn K (.ref f_need_machine) = true)
    {f_state_behind : Addr} {oc_state_behind kV_state_behind dc_state_behind pm_state_behind cd_state_behind ct_state_behind : Value} {od_state_behind an_state_behind : Option Addr} {sl_state_behind : Array (Option Value)}
    (a_state_behind : PySem.W.nsIn K mainGlobals "state_behind" = some (some (.ref f_state_behind)))
    (l_state_behind : K.lookup f_state_behind = some ⟨oc_state_behind, od_state_behind, .func (PySem.W.fnOf "state_behind" "state_behind" (defArgs (topS 20)) (defBody (topS 20)) (defScope (topS 20)) .none kV_state_behind dc_state_behind pm_state_behind an_state_behind cd_state_behind ct_state_behind), sl_state_behind⟩)
    (c_state_behind : PySem.W.codeIn K cd_state_behind "state_behind" = true)
    (k_state_behind : PySem.W.keepIn K (.ref f_state_behind) = true)
    {f_is_rule : Addr} {oc_is_rule kV_is_rule dc_is_rule pm_is_rule cd_is_rule ct_is_rule : Value} {od_is_rule an_is_rule : Option Addr} {sl_is_rule : Array (Option Value)}
    (a_is_rule : PySem.W.nsIn K mainGlobals "is_rule" = some (some (.ref f_is_rule)))
    (l_is_rule : K.lookup f_is_rule = some ⟨oc_is_rule, od_is_rule, .func (PySem.W.fnOf "is_rule" "is_rule" (defArgs (topS 23)) (defBody (topS 23)) (defScope (topS 23)) .none kV_is_rule dc_is_rule pm_is_rule an_is_rule cd_is_rule ct_is_rule), sl_is_rule⟩)
    (c_is_rule : PySem.W.codeIn K cd_is_rule "is_rule" = true)
    (k_is_rule : PySem.W.keepIn K (.ref f_is_rule) = true)
    {f_need_rule : Addr} {oc_need_rule kV_need_rule dc_need_rule pm_need_rule cd_need_rule ct_need_rule : Value} {od_need_rule an_need_rule : Option Addr} {sl_need_rule : Array (Option Value)}
    (a_need_rule : PySem.W.nsIn K mainGlobals "need_rule" = some (some (.ref f_need_rule)))
    (l_need_rule : K.lookup f_need_rule = some ⟨oc_need_rule, od_need_rule, .func (PySem.W.fnOf "need_rule" "need_rule" (defArgs (topS 24)) (defBody (topS 24)) (defScope (topS 24)) .none kV_need_rule dc_need_rule pm_need_rule an_need_rule cd_need_rule ct_need_rule), sl_need_rule⟩)
    (c_need_rule : PySem.W.codeIn K cd_need_rule "need_rule" = true)
    (k_need_rule : PySem.W.keepIn K (.ref f_need_rule) = true)
    {f__ways_on : Addr} {oc__ways_on kV__ways_on dc__ways_on pm__ways_on cd__ways_on ct__ways_on : Value} {od__ways_on an__ways_on : Option Addr} {sl__ways_on : Array (Option Value)}
    (a__ways_on : PySem.W.nsIn K mainGlobals "_ways_on" = some (some (.ref f__ways_on)))
    (l__ways_on : K.lookup f__ways_on = some ⟨oc__ways_on, od__ways_on, .func (PySem.W.fnOf "_ways_on" "_ways_on" (defArgs (topS 30)) (defBody (topS 30)) (defScope (topS 30)) .none kV__ways_on dc__ways_on pm__ways_on an__ways_on cd__ways_on ct__ways_on), sl__ways_on⟩)
    (c__ways_on : PySem.W.codeIn K cd__ways_on "_ways_on" = true)
    (k__ways_on : PySem.W.keepIn K (.ref f__ways_on) = true)
    {f__moves_into_stretch : Addr} {oc__moves_into_stretch kV__moves_into_stretch dc__moves_into_stretch pm__moves_into_stretch cd__moves_into_stretch ct__moves_into_stretch : Value} {od__moves_into_stretch an__moves_into_stretch : Option Addr} {sl__moves_into_stretch : Array (Option Value)}
    (a__moves_into_stretch : PySem.W.nsIn K mainGlobals "_moves_into_stretch" = some (some (.ref f__moves_into_stretch)))
    (l__moves_into_stretch : K.lookup f__moves_into_stretch = some ⟨oc__moves_into_stretch, od__moves_into_stretch, .func (PySem.W.fnOf "_moves_into_stretch" "_moves_into_stretch" (defArgs (topS 33)) (defBody (topS 33)) (defScope (topS 33)) .none kV__moves_into_stretch dc__moves_into_stretch pm__moves_into_stretch an__moves_into_stretch cd__moves_into_stretch ct__moves_into_stretch), sl__moves_into_stretch⟩)
    (c__moves_into_stretch : PySem.W.codeIn K cd__moves_into_stretch "_moves_into_stretch" = true)
    (k__moves_into_stretch : PySem.W.keepIn K (.ref f__moves_into_stretch) = true)
    {f__moves_of_whole : Addr} {oc__moves_of_whole kV__moves_of_whole dc__moves_of_whole pm__moves_of_whole cd__moves_of_whole ct__moves_of_whole : Value} {od__moves_of_whole an__moves_of_whole : Option Addr} {sl__moves_of_whole : Array (Option Value)}
    (a__moves_of_whole : PySem.W.nsIn K mainGlobals "_moves_of_whole" = some (some (.ref f__moves_of_whole)))
    (l__moves_of_whole : K.lookup f__moves_of_whole = some ⟨oc__moves_of_whole, od__moves_of_whole, .func (PySem.W.fnOf "_moves_of_whole" "_moves_of_whole" (defArgs (topS 31)) (defBody (topS 31)) (defScope (topS 31)) .none kV__moves_of_whole dc__moves_of_whole pm__moves_of_whole an__moves_of_whole cd__moves_of_whole ct__moves_of_whole), sl__moves_of_whole⟩)
    (c__moves_of_whole : PySem.W.codeIn K cd__moves_of_whole "_moves_of_whole" = true)
    (k__moves_of_whole : PySem.W.keepIn K (.ref f__moves_of_whole) = true)
    {f__moves_within_stretch : Addr} {oc__moves_within_stretch kV__moves_within_stretch dc__moves_within_stretch pm__moves_within_stretch cd__moves_within_stretch ct__moves_within_stretch : Value} {od__moves_within_stretch an__moves_within_stretch : Option Addr} {sl__moves_within_stretch : Array (Option Value)}
    (a__moves_within_stretch : PySem.W.nsIn K mainGlobals "_moves_within_stretch" = some (some (.ref f__moves_within_stretch)))
    (l__moves_within_stretch : K.lookup f__moves_within_stretch = some ⟨oc__moves_within_stretch, od__moves_within_stretch, .func (PySem.W.fnOf "_moves_within_stretch" "_moves_within_stretch" (defArgs (topS 32)) (defBody (topS 32)) (defScope (topS 32)) .none kV__moves_within_stretch dc__moves_within_stretch pm__moves_within_stretch an__moves_within_stretch cd__moves_within_stretch ct__moves_within_stretch), sl__moves_within_stretch⟩)
    (c__moves_within_stretch : PySem.W.codeIn K cd__moves_within_stretch "_moves_within_stretch" = true)
    (k__moves_within_stretch : PySem.W.keepIn K (.ref f__moves_within_stretch) = true)
    {f__moves : Addr} {oc__moves kV__moves dc__moves pm__moves cd__moves ct__moves : Value} {od__moves an__moves : Option Addr} {sl__moves : Array (Option Value)}
    (a__moves : PySem.W.nsIn K mainGlobals "_moves" = some (some (.ref f__moves)))
    (l__moves : K.lookup f__moves = some ⟨oc__moves, od__moves, .func (PySem.W.fnOf "_moves" "_moves" (defArgs (topS 29)) (defBody (topS 29)) (defScope (topS 29)) .none kV__moves dc__moves pm__moves an__moves cd__moves ct__moves), sl__moves⟩)
    (c__moves : PySem.W.codeIn K cd__moves "_moves" = true)
    (k__moves : PySem.W.keepIn K (.ref f__moves) = true)
    {f__phases : Addr} {oc__phases kV__phases dc__phases pm__phases cd__phases ct__phases : Value} {od__phases an__phases : Option Addr} {sl__phases : Array (Option Value)}
    (a__phases : PySem.W.nsIn K mainGlobals "_phases" = some (some (.ref f__phases)))
    (l__phases : K.lookup f__phases = some ⟨oc__phases, od__phases, .func (PySem.W.fnOf "_phases" "_phases" (defArgs (topS 27)) (defBody (topS 27)) (defScope (topS 27)) .none kV__phases dc__phases pm__phases an__phases cd__phases ct__phases), sl__phases⟩)
    (c__phases : PySem.W.codeIn K cd__phases "_phases" = true)
    (k__phases : PySem.W.keepIn K (.ref f__phases) = true)
    {f__is_side : Addr} {oc__is_side kV__is_side dc__is_side pm__is_side cd__is_side ct__is_side : Value} {od__is_side an__is_side : Option Addr} {sl__is_side : Array (Option Value)}
    (a__is_side : PySem.W.nsIn K mainGlobals "_is_side" = some (some (.ref f__is_side)))
    (l__is_side : K.lookup f__is_side = some ⟨oc__is_side, od__is_side, .func (PySem.W.fnOf "_is_side" "_is_side" (defArgs (topS 28)) (defBody (topS 28)) (defScope (topS 28)) .none kV__is_side dc__is_side pm__is_side an__is_side cd__is_side ct__is_side), sl__is_side⟩)
    (c__is_side : PySem.W.codeIn K cd__is_side "_is_side" = true)
    (k__is_side : PySem.W.keepIn K (.ref f__is_side) = true)
    {f_moves_of : Addr} {oc_moves_of kV_moves_of dc_moves_of pm_moves_of cd_moves_of ct_moves_of : Value} {od_moves_of an_moves_of : Option Addr} {sl_moves_of : Array (Option Value)}
    (a_moves_of : PySem.W.nsIn K mainGlobals "moves_of" = some (some (.ref f_moves_of)))
    (l_moves_of : K.lookup f_moves_of = some ⟨oc_moves_of, od_moves_of, .func (PySem.W.fnOf "moves_of" "moves_of" (defArgs (topS 26)) (defBody (topS 26)) (defScope (topS 26)) .none kV_moves_of dc_moves_of pm_moves_of an_moves_of cd_moves_of ct_moves_of), sl_moves_of⟩)
    (c_moves_of : PySem.W.codeIn K cd_moves_of "moves_of" = true)
    (k_moves_of : PySem.W.keepIn K (.ref f_moves_of) = true)
    {f__law_spread : Addr} {oc__law_spread kV__law_spread dc__law_spread pm__law_spread cd__law_spread ct__law_spread : Value} {od__law_spread an__law_spread : Option Addr} {sl__law_spread : Array (Option Value)}
    (a__law_spread : PySem.W.nsIn K mainGlobals "_law_spread" = some (some (.ref f__law_spread)))
    (l__law_spread : K.lookup f__law_spread = some ⟨oc__law_spread, od__law_spread, .func (PySem.W.fnOf "_law_spread" "_law_spread" (defArgs (topS 36)) (defBody (topS 36)) (defScope (topS 36)) .none kV__law_spread dc__law_spread pm__law_spread an__law_spread cd__law_spread ct__law_spread), sl__law_spread⟩)
    (c__law_spread : PySem.W.codeIn K cd__law_spread "_law_spread" = true)
    (k__law_spread : PySem.W.keepIn K (.ref f__law_spread) = true)
    {f__law_take : Addr} {oc__law_take kV__law_take dc__law_take pm__law_take cd__law_take ct__law_take : Value} {od__law_take an__law_take : Option Addr} {sl__law_take : Array (Option Value)}
    (a__law_take : PySem.W.nsIn K mainGlobals "_law_take" = some (some (.ref f__law_take)))
    (l__law_take : K.lookup f__law_take = some ⟨oc__law_take, od__law_take, .func (PySem.W.fnOf "_law_take" "_law_take" (defArgs (topS 37)) (defBody (topS 37)) (defScope (topS 37)) .none kV__law_take dc__law_take pm__law_take an__law_take cd__law_take ct__law_take), sl__law_take⟩)
    (c__law_take : PySem.W.codeIn K cd__law_take "_law_take" = true)
    (k__law_take : PySem.W.keepIn K (.ref f__law_take) = true)
    {f__law_one_of : Addr} {oc__law_one_of kV__law_one_of dc__law_one_of pm__law_one_of cd__law_one_of ct__law_one_of : Value} {od__law_one_of an__law_one_of : Option Addr} {sl__law_one_of : Array (Option Value)}
    (a__law_one_of : PySem.W.nsIn K mainGlobals "_law_one_of" = some (some (.ref f__law_one_of)))
    (l__law_one_of : K.lookup f__law_one_of = some ⟨oc__law_one_of, od__law_one_of, .func (PySem.W.fnOf "_law_one_of" "_law_one_of" (defArgs (topS 38)) (defBody (topS 38)) (defScope (topS 38)) .none kV__law_one_of dc__law_one_of pm__law_one_of an__law_one_of cd__law_one_of ct__law_one_of), sl__law_one_of⟩)
    (c__law_one_of : PySem.W.codeIn K cd__law_one_of "_law_one_of" = true)
    (k__law_one_of : PySem.W.keepIn K (.ref f__law_one_of) = true)
    {f__law_any_machine : Addr} {oc__law_any_machine kV__law_any_machine dc__law_any_machine pm__law_any_machine cd__law_any_machine ct__law_any_machine : Value} {od__law_any_machine an__law_any_machine : Option Addr} {sl__law_any_machine : Array (Option Value)}
    (a__law_any_machine : PySem.W.nsIn K mainGlobals "_law_any_machine" = some (some (.ref f__law_any_machine)))
    (l__law_any_machine : K.lookup f__law_any_machine = some ⟨oc__law_any_machine, od__law_any_machine, .func (PySem.W.fnOf "_law_any_machine" "_law_any_machine" (defArgs (topS 39)) (defBody (topS 39)) (defScope (topS 39)) .none kV__law_any_machine dc__law_any_machine pm__law_any_machine an__law_any_machine cd__law_any_machine ct__law_any_machine), sl__law_any_machine⟩)
    (c__law_any_machine : PySem.W.codeIn K cd__law_any_machine "_law_any_machine" = true)
    (k__law_any_machine : PySem.W.keepIn K (.ref f__law_any_machine) = true)
    {f__law_any_rule : Addr} {oc__law_any_rule kV__law_any_rule dc__law_any_rule pm__law_any_rule cd__law_any_rule ct__law_any_rule : Value} {od__law_any_rule an__law_any_rule : Option Addr} {sl__law_any_rule : Array (Option Value)}
    (a__law_any_rule : PySem.W.nsIn K mainGlobals "_law_any_rule" = some (some (.ref f__law_any_rule)))
    (l__law_any_rule : K.lookup f__law_any_rule = some ⟨oc__law_any_rule, od__law_any_rule, .func (PySem.W.fnOf "_law_any_rule" "_law_any_rule" (defArgs (topS 44)) (defBody (topS 44)) (defScope (topS 44)) .none kV__law_any_rule dc__law_any_rule pm__law_any_rule an__law_any_rule cd__law_any_rule ct__law_any_rule), sl__law_any_rule⟩)
    (c__law_any_rule : PySem.W.codeIn K cd__law_any_rule "_law_any_rule" = true)
    (k__law_any_rule : PySem.W.keepIn K (.ref f__law_any_rule) = true)
    {f__law_run : Addr} {oc__law_run kV__law_run dc__law_run pm__law_run cd__law_run ct__law_run : Value} {od__law_run an__law_run : Option Addr} {sl__law_run : Array (Option Value)}
    (a__law_run : PySem.W.nsIn K mainGlobals "_law_run" = some (some (.ref f__law_run)))
    (l__law_run : K.lookup f__law_run = some ⟨oc__law_run, od__law_run, .func (PySem.W.fnOf "_law_run" "_law_run" (defArgs (topS 40)) (defBody (topS 40)) (defScope (topS 40)) .none kV__law_run dc__law_run pm__law_run an__law_run cd__law_run ct__law_run), sl__law_run⟩)
    (c__law_run : PySem.W.codeIn K cd__law_run "_law_run" = true)
    (k__law_run : PySem.W.keepIn K (.ref f__law_run) = true)
    {f__law_texts_on : Addr} {oc__law_texts_on kV__law_texts_on dc__law_texts_on pm__law_texts_on cd__law_texts_on ct__law_texts_on : Value} {od__law_texts_on an__law_texts_on : Option Addr} {sl__law_texts_on : Array (Option Value)}
    (a__law_texts_on : PySem.W.nsIn K mainGlobals "_law_texts_on" = some (some (.ref f__law_texts_on)))
    (l__law_texts_on : K.lookup f__law_texts_on = some ⟨oc__law_texts_on, od__law_texts_on, .func (PySem.W.fnOf "_law_texts_on" "_law_texts_on" (defArgs (topS 47)) (defBody (topS 47)) (defScope (topS 47)) .none kV__law_texts_on dc__law_texts_on pm__law_texts_on an__law_texts_on cd__law_texts_on ct__law_texts_on), sl__law_texts_on⟩)
    (c__law_texts_on : PySem.W.codeIn K cd__law_texts_on "_law_texts_on" = true)
    (k__law_texts_on : PySem.W.keepIn K (.ref f__law_texts_on) = true)
    {f__law_moves : Addr} {oc__law_moves kV__law_moves dc__law_moves pm__law_moves cd__law_moves ct__law_moves : Value} {od__law_moves an__law_moves : Option Addr} {sl__law_moves : Array (Option Value)}
    (a__law_moves : PySem.W.nsIn K mainGlobals "_law_moves" = some (some (.ref f__law_moves)))
    (l__law_moves : K.lookup f__law_moves = some ⟨oc__law_moves, od__law_moves, .func (PySem.W.fnOf "_law_moves" "_law_moves" (defArgs (topS 48)) (defBody (topS 48)) (defScope (topS 48)) .none kV__law_moves dc__law_moves pm__law_moves an__law_moves cd__law_moves ct__law_moves), sl__law_moves⟩)
    (c__law_moves : PySem.W.codeIn K cd__law_moves "_law_moves" = true)
    (k__law_moves : PySem.W.keepIn K (.ref f__law_moves) = true)
    {f__law_texts : Addr} {oc__law_texts kV__law_texts dc__law_texts pm__law_texts cd__law_texts ct__law_texts : Value} {od__law_texts an__law_texts : Option Addr} {sl__law_texts : Array (Option Value)}
    (a__law_texts : PySem.W.nsIn K mainGlobals "_law_texts" = some (some (.ref f__law_texts)))
    (l__law_texts : K.lookup f__law_texts = some ⟨oc__law_texts, od__law_texts, .func (PySem.W.fnOf "_law_texts" "_law_texts" (defArgs (topS 54)) (defBody (topS 54)) (defScope (topS 54)) .none kV__law_texts dc__law_texts pm__law_texts an__law_texts cd__law_texts ct__law_texts), sl__law_texts⟩)
    (c__law_texts : PySem.W.codeIn K cd__law_texts "_law_texts" = true)
    (k__law_texts : PySem.W.keepIn K (.ref f__law_texts) = true)
    {f__law_sides : Addr} {oc__law_sides kV__law_sides dc__law_sides pm__law_sides cd__law_sides ct__law_sides : Value} {od__law_sides an__law_sides : Option Addr} {sl__law_sides : Array (Option Value)}
    (a__law_sides : PySem.W.nsIn K mainGlobals "_law_sides" = some (some (.ref f__law_sides)))
    (l__law_sides : K.lookup f__law_sides = some ⟨oc__law_sides, od__law_sides, .func (PySem.W.fnOf "_law_sides" "_law_sides" (defArgs (topS 55)) (defBody (topS 55)) (defScope (topS 55)) .none kV__law_sides dc__law_sides pm__law_sides an__law_sides cd__law_sides ct__law_sides), sl__law_sides⟩)
    (c__law_sides : PySem.W.codeIn K cd__law_sides "_law_sides" = true)
    (k__law_sides : PySem.W.keepIn K (.ref f__law_sides) = true)
    {f__law_odd_sides : Addr} {oc__law_odd_sides kV__law_odd_sides dc__law_odd_sides pm__law_odd_sides cd__law_odd_sides ct__law_odd_sides : Value} {od__law_odd_sides an__law_odd_sides : Option Addr} {sl__law_odd_sides : Array (Option Value)}
    (a__law_odd_sides : PySem.W.nsIn K mainGlobals "_law_odd_sides" = some (some (.ref f__law_odd_sides)))
    (l__law_odd_sides : K.lookup f__law_odd_sides = some ⟨oc__law_odd_sides, od__law_odd_sides, .func (PySem.W.fnOf "_law_odd_sides" "_law_odd_sides" (defArgs (topS 56)) (defBody (topS 56)) (defScope (topS 56)) .none kV__law_odd_sides dc__law_odd_sides pm__law_odd_sides an__law_odd_sides cd__law_odd_sides ct__law_odd_sides), sl__law_odd_sides⟩)
    (c__law_odd_sides : PySem.W.codeIn K cd__law_odd_sides "_law_odd_sides" = true)
    (k__law_odd_sides : PySem.W.keepIn K (.ref f__law_odd_sides) = true)
    {f__law_open : Addr} {oc__law_open kV__law_open dc__law_open pm__law_open cd__law_open ct__law_open : Value} {od__law_open an__law_open : Option Addr} {sl__law_open : Array (Option Value)}
    (a__law_open : PySem.W.nsIn K mainGlobals "_law_open" = some (some (.ref f__law_open)))
    (l__law_open : K.lookup f__law_open = some ⟨oc__law_open, od__law_open, .func (PySem.W.fnOf "_law_open" "_law_open" (defArgs (topS 35)) (defBody (topS 35)) (defScope (topS 35)) .none kV__law_open dc__law_open pm__law_open an__law_open cd__law_open ct__law_open), sl__law_open⟩)
    (c__law_open : PySem.W.codeIn K cd__law_open "_law_open" = true)
    (k__law_open : PySem.W.keepIn K (.ref f__law_open) = true)
    {f__law_word : Addr} {oc__law_word kV__law_word dc__law_word pm__law_word cd__law_word ct__law_word : Value} {od__law_word an__law_word : Option Addr} {sl__law_word : Array (Option Value)}
    (a__law_word : PySem.W.nsIn K mainGlobals "_law_word" = some (some (.ref f__law_word)))
    (l__law_word : K.lookup f__law_word = some ⟨oc__law_word, od__law_word, .func (PySem.W.fnOf "_law_word" "_law_word" (defArgs (topS 53)) (defBody (topS 53)) (defScope (topS 53)) .none kV__law_word dc__law_word pm__law_word an__law_word cd__law_word ct__law_word), sl__law_word⟩)
    (c__law_word : PySem.W.codeIn K cd__law_word "_law_word" = true)
    (k__law_word : PySem.W.keepIn K (.ref f__law_word) = true)
    (x_SS : PySem.W.exmOne K (.ref cNoSide) (.ref cNoSide) = some true)
    {oc kV doc pm ct : Value} {od an : Option Addr} {osl : Array (Option Value)} {cL Pt : Addr}
    {fL : Addr}
    (a_law : PySem.W.nsIn K mainGlobals "law" = some (some (.ref fL)))
    (l_law : K.lookup fL = some ⟨oc, od, .func (PySem.W.fnOf "law" "law" (defArgs sLaw) (defBody sLaw) (defScope sLaw) .none kV doc pm an (.ref cL) ct), osl⟩)
    (c_law : PySem.W.codeIn K (.ref cL) "law" = true)
    (tab : h.get? Pt = some { cls := .none, data := .fields #[] })
    (nT : K.lookup Pt = none)
    (hd : PySem.W.codeHdIn K cL Pt = true) :
    DL.LawC l w K 63 mg fa h := by
  obtain rfl : fL = fa := by
    have e := hfa.symm.trans (PySem.W.mg_of KX G a_law)
    cases e
    rfl
  have B : Bl mg := ⟨PySem.W.mg_none_of KX G z_isi, PySem.W.mg_none_of KX G z_len, PySem.W.mg_none_of KX G z_bool, PySem.W.mg_none_of KX G z_int, PySem.W.mg_none_of KX G z_str, PySem.W.mg_none_of KX G z_list, PySem.W.mg_none_of KX G z_tuple, PySem.W.mg_none_of KX G z_dict, PySem.W.mg_none_of KX G z_all, PySem.W.mg_none_of KX G z_any, PySem.W.mg_none_of KX G z_range, PySem.W.mg_none_of KX G z_enumerate, PySem.W.mg_none_of KX G z_zip, PySem.W.mg_none_of KX G z_sorted, PySem.W.mg_none_of KX G z_set, PySem.W.mg_none_of KX G z_repr, PySem.W.mg_none_of KX G z_min, PySem.W.mg_none_of KX G z_max, PySem.W.mg_none_of KX G z_sum, PySem.W.mg_none_of KX G z_reversed, PySem.W.mg_none_of KX G z_type, PySem.W.mg_none_of KX G z_abs⟩
  have C_SMALL_LETTERS : GC mg "SMALL_LETTERS" gc_SMALL_LETTERS := ⟨_, .str "abcdefghijklmnopqrstuvwxyz", PySem.W.mg_of KX G a_SMALL_LETTERS, ⟨_, rfl⟩, .str _⟩
  have C_MOST_LETTERS : GC mg "MOST_LETTERS" gc_MOST_LETTERS := ⟨_, .int 3, PySem.W.mg_of KX G a_MOST_LETTERS, ⟨_, rfl⟩, .int _⟩
  have C_MOST_STATES : GC mg "MOST_STATES" gc_MOST_STATES := ⟨_, .int 6, PySem.W.mg_of KX G a_MOST_STATES, ⟨_, rfl⟩, .int _⟩
  have D_BOUNDS : DicF K w mg "BOUNDS" dBOUNDS kv_BOUNDS := ⟨PySem.W.mg_of KX G a_BOUNDS, es_BOUNDS, n_BOUNDS, ⟨l_BOUNDS, t_BOUNDS, w_BOUNDS⟩, v_BOUNDS⟩
  have X_NoMachine : XFact K mg "NoMachine" cNoMachine := ⟨PySem.W.mg_of KX G a_NoMachine, q_NoMachine, k_NoMachine, b_NoMachine, t_NoMachine⟩
  have X_NoRule : XFact K mg "NoRule" cNoRule := ⟨PySem.W.mg_of KX G a_NoRule, q_NoRule, k_NoRule, b_NoRule, t_NoRule⟩
  have X_NoSide : XFact K mg "NoSide" cNoSide := ⟨PySem.W.mg_of KX G a_NoSide, q_NoSide, k_NoSide, b_NoSide, t_NoSide⟩
  have X_TearError : XFact K mg "TearError" cTearError := ⟨PySem.W.mg_of KX G a_TearError, q_TearError, k_TearError, b_TearError, t_TearError⟩
  have fn_is_whole := fun_mk (st := (topS 7)) l_is_whole c_is_whole k_is_whole
  have g_is_whole := PySem.W.mg_of KX G a_is_whole
  have b_is_whole := fn_is_whole.binds (ps := ["thing", "low", "high"]) fun _ _ _ _ _ _ us hl => match us, hl with | [_, _, _], _ => rfl
  have fn_is_text := fun_mk (st := (topS 8)) l_is_text c_is_text k_is_text
  have g_is_text := PySem.W.mg_of KX G a_is_text
  have b_is_text := fn_is_text.binds (ps := ["thing", "signs", "most"]) fun _ _ _ _ _ _ us hl => match us, hl with | [_, _, _], _ => rfl
  have fn_is_ascending := fun_mk (st := (topS 9)) l_is_ascending c_is_ascending k_is_ascending
  have g_is_ascending := PySem.W.mg_of KX G a_is_ascending
  have b_is_ascending := fn_is_ascending.binds (ps := ["parts"]) fun _ _ _ _ _ _ us hl => match us, hl with | [_], _ => rfl
  have fn_strings_of := fun_mk (st := (topS 10)) l_strings_of c_strings_of k_strings_of
  have g_strings_of := PySem.W.mg_of KX G a_strings_of
  have b_strings_of := fn_strings_of.binds (ps := ["letters", "least", "most"]) fun _ _ _ _ _ _ us hl => match us, hl with | [_, _, _], _ => rfl
  have fn__are_letters := fun_mk (st := (topS 15)) l__are_letters c__are_letters k__are_letters
  have g__are_letters := PySem.W.mg_of KX G a__are_letters
  have b__are_letters := fn__are_letters.binds (ps := ["thing"]) fun _ _ _ _ _ _ us hl => match us, hl with | [_], _ => rfl
  have fn__is_state := fun_mk (st := (topS 17)) l__is_state c__is_state k__is_state
  have g__is_state := PySem.W.mg_of KX G a__is_state
  have b__is_state := fn__is_state.binds (ps := ["thing", "width", "many"]) fun _ _ _ _ _ _ us hl => match us, hl with | [_, _, _], _ => rfl
  have fn__are_states := fun_mk (st := (topS 16)) l__are_states c__are_states k__are_states
  have g__are_states := PySem.W.mg_of KX G a__are_states
  have b__are_states := fn__are_states.binds (ps := ["thing", "width"]) fun _ _ _ _ _ _ us hl => match us, hl with | [_, _], _ => rfl
  have fn__are_ends := fun_mk (st := (topS 18)) l__are_ends c__are_ends k__are_ends
  have g__are_ends := PySem.W.mg_of KX G a__are_ends
  have b__are_ends := fn__are_ends.binds (ps := ["thing", "many"]) fun _ _ _ _ _ _ us hl => match us, hl with | [_, _], _ => rfl
  have fn_is_machine := fun_mk (st := (topS 14)) l_is_machine c_is_machine k_is_machine
  have g_is_machine := PySem.W.mg_of KX G a_is_machine
  have b_is_machine := fn_is_machine.binds (ps := ["thing"]) fun _ _ _ _ _ _ us hl => match us, hl with | [_], _ => rfl
  have fn_need_machine := fun_mk (st := (topS 19)) l_need_machine c_need_machine k_need_machine
  have g_need_machine := PySem.W.mg_of KX G a_need_machine
  have b_need_machine := fn_need_machine.binds (ps := ["machine"]) fun _ _ _ _ _ _ us hl => match us, hl with | [_], _ => rfl
  have fn_state_behind := fun_mk (st := (topS 20)) l_state_behind c_state_behind k_state_behind
  have g_state_behind := PySem.W.mg_of KX G a_state_behind
  have b_state_behind := fn_state_behind.binds (ps := ["machine", "state", "word"]) fun _ _ _ _ _ _ us hl => match us, hl with | [_, _, _], _ => rfl
  have fn_is_rule := fun_mk (st := (topS 23)) l_is_rule c_is_rule k_is_rule
  have g_is_rule := PySem.W.mg_of KX G a_is_rule
  have b_is_rule := fn_is_rule.binds (ps := ["thing"]) fun _ _ _ _ _ _ us hl => match us, hl with | [_], _ => rfl
  have fn_need_rule := fun_mk (st := (topS 24)) l_need_rule c_need_rule k_need_rule
  have g_need_rule := PySem.W.mg_of KX G a_need_rule
  have b_need_rule := fn_need_rule.binds (ps := ["rule"]) fun _ _ _ _ _ _ us hl => match us, hl with | [_], _ => rfl
  have fn__ways_on := fun_mk (st := (topS 30)) l__ways_on c__ways_on k__ways_on
  have g__ways_on := PySem.W.mg_of KX G a__ways_on
  have b__ways_on := fn__ways_on.binds (ps := ["machine", "state", "least", "most"]) fun _ _ _ _ _ _ us hl => match us, hl with | [_, _, _, _], _ => rfl
  have fn__moves_into_stretch := fun_mk (st := (topS 33)) l__moves_into_stretch c__moves_into_stretch k__moves_into_stretch
  have g__moves_into_stretch := PySem.W.mg_of KX G a__moves_into_stretch
  have b__moves_into_stretch := fn__moves_into_stretch.binds (ps := ["machine", "kind", "state", "held"]) fun _ _ _ _ _ _ us hl => match us, hl with | [_, _, _, _], _ => rfl
  have fn__moves_of_whole := fun_mk (st := (topS 31)) l__moves_of_whole c__moves_of_whole k__moves_of_whole
  have g__moves_of_whole := PySem.W.mg_of KX G a__moves_of_whole
  have b__moves_of_whole := fn__moves_of_whole.binds (ps := ["machine", "rule", "state"]) fun _ _ _ _ _ _ us hl => match us, hl with | [_, _, _], _ => rfl
  have fn__moves_within_stretch := fun_mk (st := (topS 32)) l__moves_within_stretch c__moves_within_stretch k__moves_within_stretch
  have g__moves_within_stretch := PySem.W.mg_of KX G a__moves_within_stretch
  have b__moves_within_stretch := fn__moves_within_stretch.binds (ps := ["machine", "rule", "side"]) fun _ _ _ _ _ _ us hl => match us, hl with | [_, _, _], _ => rfl
  have fn__moves := fun_mk (st := (topS 29)) l__moves c__moves k__moves
  have g__moves := PySem.W.mg_of KX G a__moves
  have b__moves := fn__moves.binds (ps := ["machine", "rule", "side"]) fun _ _ _ _ _ _ us hl => match us, hl with | [_, _, _], _ => rfl
  have fn__phases := fun_mk (st := (topS 27)) l__phases c__phases k__phases
  have g__phases := PySem.W.mg_of KX G a__phases
  have b__phases := fn__phases.binds (ps := ["machine", "rule"]) fun _ _ _ _ _ _ us hl => match us, hl with | [_, _], _ => rfl
  have fn__is_side := fun_mk (st := (topS 28)) l__is_side c__is_side k__is_side
  have g__is_side := PySem.W.mg_of KX G a__is_side
  have b__is_side := fn__is_side.binds (ps := ["machine", "phases", "thing"]) fun _ _ _ _ _ _ us hl => match us, hl with | [_, _, _], _ => rfl
  have fn_moves_of := fun_mk (st := (topS 26)) l_moves_of c_moves_of k_moves_of
  have g_moves_of := PySem.W.mg_of KX G a_moves_of
  have b_moves_of := fn_moves_of.binds (ps := ["machine", "rule", "side"]) fun _ _ _ _ _ _ us hl => match us, hl with | [_, _, _], _ => rfl
  have fn__law_spread := fun_mk (st := (topS 36)) l__law_spread c__law_spread k__law_spread
  have g__law_spread := PySem.W.mg_of KX G a__law_spread
  have b__law_spread := fn__law_spread.binds (ps := ["cell", "k"]) fun _ _ _ _ _ _ us hl => match us, hl with | [_, _], _ => rfl
  have fn__law_take := fun_mk (st := (topS 37)) l__law_take c__law_take k__law_take
  have g__law_take := PySem.W.mg_of KX G a__law_take
  have b__law_take := fn__law_take.binds (ps := ["pen", "many"]) fun _ _ _ _ _ _ us hl => match us, hl with | [_, _], _ => rfl
  have fn__law_one_of := fun_mk (st := (topS 38)) l__law_one_of c__law_one_of k__law_one_of
  have g__law_one_of := PySem.W.mg_of KX G a__law_one_of
  have b__law_one_of := fn__law_one_of.binds (ps := ["pen", "some"]) fun _ _ _ _ _ _ us hl => match us, hl with | [_, _], _ => rfl
  have fn__law_any_machine := fun_mk (st := (topS 39)) l__law_any_machine c__law_any_machine k__law_any_machine
  have g__law_any_machine := PySem.W.mg_of KX G a__law_any_machine
  have b__law_any_machine := fn__law_any_machine.binds (ps := ["pen", "many"]) fun _ _ _ _ _ _ us hl => match us, hl with | [_, _], _ => rfl
  have fn__law_any_rule := fun_mk (st := (topS 44)) l__law_any_rule c__law_any_rule k__law_any_rule
  have g__law_any_rule := PySem.W.mg_of KX G a__law_any_rule
  have b__law_any_rule := fn__law_any_rule.binds (ps := ["pen"]) fun _ _ _ _ _ _ us hl => match us, hl with | [_], _ => rfl
  have fn__law_run := fun_mk (st := (topS 40)) l__law_run c__law_run k__law_run
  have g__law_run := PySem.W.mg_of KX G a__law_run
  have b__law_run := fn__law_run.binds (ps := ["machine", "state", "word"]) fun _ _ _ _ _ _ us hl => match us, hl with | [_, _, _], _ => rfl
  have fn__law_texts_on := fun_mk (st := (topS 47)) l__law_texts_on c__law_texts_on k__law_texts_on
  have g__law_texts_on := PySem.W.mg_of KX G a__law_texts_on
  have b__law_texts_on := fn__law_texts_on.binds (ps := ["machine", "state", "rule"]) fun _ _ _ _ _ _ us hl => match us, hl with | [_, _, _], _ => rfl
  have fn__law_moves := fun_mk (st := (topS 48)) l__law_moves c__law_moves k__law_moves
  have g__law_moves := PySem.W.mg_of KX G a__law_moves
  have b__law_moves := fn__law_moves.binds (ps := ["machine", "rule", "side"]) fun _ _ _ _ _ _ us hl => match us, hl with | [_, _, _], _ => rfl
  have fn__law_texts := fun_mk (st := (topS 54)) l__law_texts c__law_texts k__law_texts
  have g__law_texts := PySem.W.mg_of KX G a__law_texts
  have b__law_texts := fn__law_texts.binds (ps := ["letters", "least", "most"]) fun _ _ _ _ _ _ us hl => match us, hl with | [_, _, _], _ => rfl
  have fn__law_sides := fun_mk (st := (topS 55)) l__law_sides c__law_sides k__law_sides
  have g__law_sides := PySem.W.mg_of KX G a__law_sides
  have b__law_sides := fn__law_sides.binds (ps := ["machine", "rule"]) fun _ _ _ _ _ _ us hl => match us, hl with | [_, _], _ => rfl
  have fn__law_odd_sides := fun_mk (st := (topS 56)) l__law_odd_sides c__law_odd_sides k__law_odd_sides
  have g__law_odd_sides := PySem.W.mg_of KX G a__law_odd_sides
  have b__law_odd_sides := fn__law_odd_sides.binds (ps := ["machine", "rule"]) fun _ _ _ _ _ _ us hl => match us, hl with | [_, _], _ => rfl
  have fn__law_open := fun_mk (st := (topS 35)) l__law_open c__law_open k__law_open
  have g__law_open := PySem.W.mg_of KX G a__law_open
  have b__law_open := fn__law_open.binds (ps := ["script"]) fun _ _ _ _ _ _ us hl => match us, hl with | [_], _ => rfl
  have fn__law_word := fun_mk (st := (topS 53)) l__law_word c__law_word k__law_word
  have g__law_word := PySem.W.mg_of KX G a__law_word
  have b__law_word := fn__law_word.binds (ps := ["call"]) fun _ _ _ _ _ _ us hl => match us, hl with | [_], _ => rfl
  have c1 : ∀ t ∈ [(cL, Pt)], h.get? t.2 = some DL.tObj := fun t ht => by
    rw [List.mem_singleton.mp ht]; exact tab
  have c2 : ∀ t ∈ [(cL, Pt)], K.lookup t.2 = none := fun t ht => by
    rw [List.mem_singleton.mp ht]; exact nT
  have c3 : ∀ t ∈ [(cL, Pt)], PySem.W.CodeHd h t.1 t.2 := fun t ht => by
    rw [List.mem_singleton.mp ht]; exact PySem.W.codeHd_of_K KX hd
  refine ⟨_, c1, c2, c3, fun base s H a ns _ _ tb e0 hT hS _ => ?_⟩
  have TB0 := tb _ List.mem_cons_self
  have hT0 := hT _ List.mem_cons_self
  generalize l.prog = P at e0 ⊢
  have F_is_whole := ok_is_whole (P := P) (w := w) (base := base) B fn_is_whole g_is_whole b_is_whole
  have F_is_text := ok_is_text (P := P) (w := w) (base := base) B fn_is_text g_is_text b_is_text
  have F_is_ascending := ok_is_ascending (P := P) (w := w) (base := base) B fn_is_ascending g_is_ascending b_is_ascending
  have F_strings_of := ok_strings_of (P := P) (w := w) (base := base) B fn_strings_of g_strings_of b_strings_of
  have F__are_letters := ok__are_letters (P := P) (w := w) (base := base) B C_MOST_LETTERS C_SMALL_LETTERS F_is_ascending F_is_text fn__are_letters g__are_letters b__are_letters
  have F__is_state := ok__is_state (P := P) (w := w) (base := base) B F_is_whole fn__is_state g__is_state b__is_state
  have F__are_states := ok__are_states (P := P) (w := w) (base := base) B C_MOST_STATES F__is_state fn__are_states g__are_states b__are_states
  have F__are_ends := ok__are_ends (P := P) (w := w) (base := base) B F_is_ascending F_is_whole fn__are_ends g__are_ends b__are_ends
  have F_is_machine := ok_is_machine (P := P) (w := w) (base := base) B F__are_ends F__are_letters F__are_states fn_is_machine g_is_machine b_is_machine
  have F_need_machine := ok_need_machine (P := P) (w := w) (base := base) B X_NoMachine F_is_machine fn_need_machine g_need_machine b_need_machine
  have F_state_behind := ok_state_behind (P := P) (w := w) (base := base) B fn_state_behind g_state_behind b_state_behind
  have F_is_rule := ok_is_rule (P := P) (w := w) (base := base) B D_BOUNDS F_is_whole fn_is_rule g_is_rule b_is_rule
  have F_need_rule := ok_need_rule (P := P) (w := w) (base := base) B X_NoRule F_is_rule fn_need_rule g_need_rule b_need_rule
  have F__ways_on := ok__ways_on (P := P) (w := w) (base := base) B F_state_behind F_strings_of fn__ways_on g__ways_on b__ways_on
  have F__moves_into_stretch := ok__moves_into_stretch (P := P) (w := w) (base := base) B F__ways_on fn__moves_into_stretch g__moves_into_stretch b__moves_into_stretch
  have F__moves_of_whole := ok__moves_of_whole (P := P) (w := w) (base := base) B F__moves_into_stretch F__ways_on fn__moves_of_whole g__moves_of_whole b__moves_of_whole
  have F__moves_within_stretch := ok__moves_within_stretch (P := P) (w := w) (base := base) B F__moves_into_stretch fn__moves_within_stretch g__moves_within_stretch b__moves_within_stretch
  have F__moves := ok__moves (P := P) (w := w) (base := base) B F__moves_of_whole F__moves_within_stretch F__ways_on fn__moves g__moves b__moves
  have F__phases := ok__phases (P := P) (w := w) (base := base) B F_strings_of fn__phases g__phases b__phases
  have F__is_side := ok__is_side (P := P) (w := w) (base := base) B F_is_whole fn__is_side g__is_side b__is_side
  have F_moves_of := ok_moves_of (P := P) (w := w) (base := base) B X_NoSide F__is_side F__moves F__phases F_need_machine F_need_rule fn_moves_of g_moves_of b_moves_of
  have F__law_spread := ok__law_spread (P := P) (w := w) (base := base) B fn__law_spread g__law_spread b__law_spread
  have F__law_take := ok__law_take (P := P) (w := w) (base := base) B F__law_spread fn__law_take g__law_take b__law_take
  have F__law_one_of := ok__law_one_of (P := P) (w := w) (base := base) B F__law_take fn__law_one_of g__law_one_of b__law_one_of
  have F__law_any_machine := ok__law_any_machine (P := P) (w := w) (base := base) B F__law_one_of F__law_take fn__law_any_machine g__law_any_machine b__law_any_machine
  have F__law_any_rule := ok__law_any_rule (P := P) (w := w) (base := base) B F__law_one_of F__law_take fn__law_any_rule g__law_any_rule b__law_any_rule
  have F__law_run := ok__law_run (P := P) (w := w) (base := base) B fn__law_run g__law_run b__law_run
  have F__law_texts_on := ok__law_texts_on (P := P) (w := w) (base := base) B F__law_run fn__law_texts_on g__law_texts_on b__law_texts_on
  have F__law_moves := ok__law_moves (P := P) (w := w) (base := base) B F__law_run F__law_texts_on fn__law_moves g__law_moves b__law_moves
  have F__law_texts := ok__law_texts (P := P) (w := w) (base := base) B fn__law_texts g__law_texts b__law_texts
  have F__law_sides := ok__law_sides (P := P) (w := w) (base := base) B F__law_texts fn__law_sides g__law_sides b__law_sides
  have F__law_odd_sides := ok__law_odd_sides (P := P) (w := w) (base := base) B fn__law_odd_sides g__law_odd_sides b__law_odd_sides
  let Tb : List (Addr × Str) := [(Pt, qL)]
  exact ok_law B X_NoSide X_TearError (ok__law_open B fn__law_open) g__law_open k__law_open b__law_open F__law_any_machine F__law_any_rule F__law_moves F__law_odd_sides F__law_sides F_moves_of fn__law_word g__law_word b__law_word x_SS  l_law c_law TB0  ⟨rfl, by decide, by decide⟩ e0 hT0 hS (fun s u => .of_eq rfl)

end T

open PySem PySem.W PyProof.Rows in
set_option Elab.async false in
set_option maxRecDepth 100000 in
set_option maxHeartbeats 0 in
theorem PySem.Challenge.cw_tearwords_k37_moves_of_sides_holds : PySem.Challenge.rw_tearwords_k37_moves_of_sides.Holds := by
  w_on; o_law; k_head; (case hw => w_witness2)
  k_fill
  refine DL.walk_at (n := 63) rfl (by decide) rfl (fun w h Y => PySem.W.km_in_of Y) ?F
  case F =>
    intro w mg fa h Y KX G hmg
    refine' T.fin KX G hmg ?z_isi ?z_len ?z_bool ?z_int ?z_str ?z_list ?z_tuple ?z_dict ?z_all ?z_any ?z_range ?z_enumerate ?z_zip ?z_sorted ?z_set ?z_repr ?z_min ?z_max ?z_sum ?z_reversed ?z_type ?z_abs ?a_SMALL_LETTERS ?a_MOST_LETTERS ?a_MOST_STATES ?a_BOUNDS ?l_BOUNDS ?t_BOUNDS ?w_BOUNDS ?v_BOUNDS ?a_NoMachine ?q_NoMachine ?k_NoMachine ?b_NoMachine ?t_NoMachine ?a_NoRule ?q_NoRule ?k_NoRule ?b_NoRule ?t_NoRule ?a_NoSide ?q_NoSide ?k_NoSide ?b_NoSide ?t_NoSide ?a_TearError ?q_TearError ?k_TearError ?b_TearError ?t_TearError ?a_is_whole ?l_is_whole ?c_is_whole ?k_is_whole ?a_is_text ?l_is_text ?c_is_text ?k_is_text ?a_is_ascending ?l_is_ascending ?c_is_ascending ?k_is_ascending ?a_strings_of ?l_strings_of ?c_strings_of ?k_strings_of ?a__are_letters ?l__are_letters ?c__are_letters ?k__are_letters ?a__is_state ?l__is_state ?c__is_state ?k__is_state ?a__are_states ?l__are_states ?c__are_states ?k__are_states ?a__are_ends ?l__are_ends ?c__are_ends ?k__are_ends ?a_is_machine ?l_is_machine ?c_is_machine ?k_is_machine ?a_need_machine ?l_need_machine ?c_need_machine ?k_need_machine ?a_state_behind ?l_state_behind ?c_state_behind ?k_state_behind ?a_is_rule ?l_is_rule ?c_is_rule ?k_is_rule ?a_need_rule ?l_need_rule ?c_need_rule ?k_need_rule ?a__ways_on ?l__ways_on ?c__ways_on ?k__ways_on ?a__moves_into_stretch ?l__moves_into_stretch ?c__moves_into_stretch ?k__moves_into_stretch ?a__moves_of_whole ?l__moves_of_whole ?c__moves_of_whole ?k__moves_of_whole ?a__moves_within_stretch ?l__moves_within_stretch ?c__moves_within_stretch ?k__moves_within_stretch ?a__moves ?l__moves ?c__moves ?k__moves ?a__phases ?l__phases ?c__phases ?k__phases ?a__is_side ?l__is_side ?c__is_side ?k__is_side ?a_moves_of ?l_moves_of ?c_moves_of ?k_moves_of ?a__law_spread ?l__law_spread ?c__law_spread ?k__law_spread ?a__law_take ?l__law_take ?c__law_take ?k__law_take ?a__law_one_of ?l__law_one_of ?c__law_one_of ?k__law_one_of ?a__law_any_machine ?l__law_any_machine ?c__law_any_machine ?k__law_any_machine ?a__law_any_rule ?l__law_any_rule ?c__law_any_rule ?k__law_any_rule ?a__law_run ?l__law_run ?c__law_run ?k__law_run ?a__law_texts_on ?l__law_texts_on ?c__law_texts_on ?k__law_texts_on ?a__law_moves ?l__law_moves ?c__law_moves ?k__law_moves ?a__law_texts ?l__law_texts ?c__law_texts ?k__law_texts ?a__law_sides ?l__law_sides ?c__law_sides ?k__law_sides ?a__law_odd_sides ?l__law_odd_sides ?c__law_odd_sides ?k__law_odd_sides ?a__law_open ?l__law_open ?c__law_open ?k__law_open ?a__law_word ?l__law_word ?c__law_word ?k__law_word ?x_SS ?a_law ?l_law ?c_law ?tab ?nT ?hd
    (case z_isi => k_is)
    (case z_len => k_is)
    (case z_bool => k_is)
    (case z_int => k_is)
    (case z_str => k_is)
    (case z_list => k_is)
    (case z_tuple => k_is)
    (case z_dict => k_is)
    (case z_all => k_is)
    (case z_any => k_is)
    (case z_range => k_is)
    (case z_enumerate => k_is)
    (case z_zip => k_is)
    (case z_sorted => k_is)
    (case z_set => k_is)
    (case z_repr => k_is)
    (case z_min => k_is)
    (case z_max => k_is)
    (case z_sum => k_is)
    (case z_reversed => k_is)
    (case z_type => k_is)
    (case z_abs => k_is)
    (case a_SMALL_LETTERS => k_is)
    (case a_MOST_LETTERS => k_is)
    (case a_MOST_STATES => k_is)
    (case a_BOUNDS => k_is)
    (case l_BOUNDS => k_is)
    (case t_BOUNDS => exact ⟨⟨_, _, rfl, rfl⟩, ⟨_, _, rfl, rfl⟩, ⟨_, _, rfl, rfl⟩, ⟨_, _, rfl, rfl⟩, trivial⟩)
    (case w_BOUNDS => kernel_rfl)
    (case v_BOUNDS => kernel_rfl)
    (case a_NoMachine => k_is)
    (case q_NoMachine => kernel_rfl)
    (case k_NoMachine => k_is)
    (case b_NoMachine => k_is)
    (case t_NoMachine => k_is)
    (case a_NoRule => k_is)
    (case q_NoRule => kernel_rfl)
    (case k_NoRule => k_is)
    (case b_NoRule => k_is)
    (case t_NoRule => k_is)
    (case a_NoSide => k_is)
    (case q_NoSide => kernel_rfl)
    (case k_NoSide => k_is)
    (case b_NoSide => k_is)
    (case t_NoSide => k_is)
    (case a_TearError => k_is)
    (case q_TearError => kernel_rfl)
    (case k_TearError => k_is)
    (case b_TearError => k_is)
    (case t_TearError => k_is)
    (case a_is_whole => k_is)
    (case l_is_whole => k_is)
    (case c_is_whole => k_is)
    (case k_is_whole => k_is)
    (case a_is_text => k_is)
    (case l_is_text => k_is)
    (case c_is_text => k_is)
    (case k_is_text => k_is)
    (case a_is_ascending => k_is)
    (case l_is_ascending => k_is)
    (case c_is_ascending => k_is)
    (case k_is_ascending => k_is)
    (case a_strings_of => k_is)
    (case l_strings_of => k_is)
    (case c_strings_of => k_is)
    (case k_strings_of => k_is)
    (case a__are_letters => k_is)
    (case l__are_letters => k_is)
    (case c__are_letters => k_is)
    (case k__are_letters => k_is)
    (case a__is_state => k_is)
    (case l__is_state => k_is)
    (case c__is_state => k_is)
    (case k__is_state => k_is)
    (case a__are_states => k_is)
    (case l__are_states => k_is)
    (case c__are_states => k_is)
    (case k__are_states => k_is)
    (case a__are_ends => k_is)
    (case l__are_ends => k_is)
    (case c__are_ends => k_is)
    (case k__are_ends => k_is)
    (case a_is_machine => k_is)
    (case l_is_machine => k_is)
    (case c_is_machine => k_is)
    (case k_is_machine => k_is)
    (case a_need_machine => k_is)
    (case l_need_machine => k_is)
    (case c_need_machine => k_is)
    (case k_need_machine => k_is)
    (case a_state_behind => k_is)
    (case l_state_behind => k_is)
    (case c_state_behind => k_is)
    (case k_state_behind => k_is)
    (case a_is_rule => k_is)
    (case l_is_rule => k_is)
    (case c_is_rule => k_is)
    (case k_is_rule => k_is)
    (case a_need_rule => k_is)
    (case l_need_rule => k_is)
    (case c_need_rule => k_is)
    (case k_need_rule => k_is)
    (case a__ways_on => k_is)
    (case l__ways_on => k_is)
    (case c__ways_on => k_is)
    (case k__ways_on => k_is)
    (case a__moves_into_stretch => k_is)
    (case l__moves_into_stretch => k_is)
    (case c__moves_into_stretch => k_is)
    (case k__moves_into_stretch => k_is)
    (case a__moves_of_whole => k_is)
    (case l__moves_of_whole => k_is)
    (case c__moves_of_whole => k_is)
    (case k__moves_of_whole => k_is)
    (case a__moves_within_stretch => k_is)
    (case l__moves_within_stretch => k_is)
    (case c__moves_within_stretch => k_is)
    (case k__moves_within_stretch => k_is)
    (case a__moves => k_is)
    (case l__moves => k_is)
    (case c__moves => k_is)
    (case k__moves => k_is)
    (case a__phases => k_is)
    (case l__phases => k_is)
    (case c__phases => k_is)
    (case k__phases => k_is)
    (case a__is_side => k_is)
    (case l__is_side => k_is)
    (case c__is_side => k_is)
    (case k__is_side => k_is)
    (case a_moves_of => k_is)
    (case l_moves_of => k_is)
    (case c_moves_of => k_is)
    (case k_moves_of => k_is)
    (case a__law_spread => k_is)
    (case l__law_spread => k_is)
    (case c__law_spread => k_is)
    (case k__law_spread => k_is)
    (case a__law_take => k_is)
    (case l__law_take => k_is)
    (case c__law_take => k_is)
    (case k__law_take => k_is)
    (case a__law_one_of => k_is)
    (case l__law_one_of => k_is)
    (case c__law_one_of => k_is)
    (case k__law_one_of => k_is)
    (case a__law_any_machine => k_is)
    (case l__law_any_machine => k_is)
    (case c__law_any_machine => k_is)
    (case k__law_any_machine => k_is)
    (case a__law_any_rule => k_is)
    (case l__law_any_rule => k_is)
    (case c__law_any_rule => k_is)
    (case k__law_any_rule => k_is)
    (case a__law_run => k_is)
    (case l__law_run => k_is)
    (case c__law_run => k_is)
    (case k__law_run => k_is)
    (case a__law_texts_on => k_is)
    (case l__law_texts_on => k_is)
    (case c__law_texts_on => k_is)
    (case k__law_texts_on => k_is)
    (case a__law_moves => k_is)
    (case l__law_moves => k_is)
    (case c__law_moves => k_is)
    (case k__law_moves => k_is)
    (case a__law_texts => k_is)
    (case l__law_texts => k_is)
    (case c__law_texts => k_is)
    (case k__law_texts => k_is)
    (case a__law_sides => k_is)
    (case l__law_sides => k_is)
    (case c__law_sides => k_is)
    (case k__law_sides => k_is)
    (case a__law_odd_sides => k_is)
    (case l__law_odd_sides => k_is)
    (case c__law_odd_sides => k_is)
    (case k__law_odd_sides => k_is)
    (case a__law_open => k_is)
    (case l__law_open => k_is)
    (case c__law_open => k_is)
    (case k__law_open => k_is)
    (case a__law_word => k_is)
    (case l__law_word => k_is)
    (case c__law_word => k_is)
    (case k__law_word => k_is)
    (case x_SS => kernel_rfl)
    (case a_law => k_is)
    (case l_law => k_is)
    (case c_law => k_is)
    (case tab => exact PySem.W.km_tabs_of Y _ List.mem_cons_self)
    (case nT => kernel_rfl)
    (case hd => kernel_rfl)

