import PyProof.Rows.All
import Wide.All
import OpenK.AllK
import Wide.FinOn
import HandS.ForMost
import HandS.ForExc
import HandS.Walk
import HandS.IsInst
import HandS.StrMore
import HandS.RaiseMore
import PyProof.StrBlock2
import HandS.FStr
import HandS.TryMany
import HandS.Lambda
import HandS.Zip
import KE.GoesMore
import HandS.ExcIs
import HandS.ExcValue
import KE.KExcStr
import HandS.More
import HandS.EndTab
import HandS.Conv
import HandS.NoneIn
import HandS.Small
import KE.GoesEnum
import PyProof.ReprLen
import KE.KNestM
import PySem.Challenge.RW_tearwords_k32_words_of_machines
set_option Elab.async false
set_option linter.all false
set_option maxRecDepth 100000
set_option maxHeartbeats 4000000
namespace DL
open PySem PySem.Spec PyProof.Rows L2
abbrev Fg := PySem.W.Frag
abbrev Sg := L2.St
/-- plain data, without addresses -/
inductive D where
  | non | bl (b : Bool) | int (i : Int) | str (s : Str) | lst (xs : List D) | tup (xs : List D) | obj (v : V) | dic (ks : List Key) (vs : List D) | err (cls : Value) (m : Option Str)
def KT (K : Fg) (a : Addr) (xs : List V) : Prop := ∃ (o : Obj) (its : Array Value) (n : Nat), K.lookup a = some o ∧ o.cls = .type "tuple" ∧ o.data = .seq its n ∧ its.size ≤ sizeLine ∧ Vals xs its.toList
abbrev Av := Addr → Prop
def NL (av : Av) (H : Hp) (a : Addr) (xs : List V) : Prop := H a = some (.lst xs) ∧ ¬ av a
def NT (K : Fg) (av : Av) (H : Hp) (a : Addr) (xs : List V) : Prop := (H a = some (.tup xs) ∧ ¬ av a) ∨ KT K a xs
def ND (av : Av) (H : Hp) (a : Addr) (kvs : List (Key × V)) : Prop := H a = some (.dK kvs) ∧ ¬ av a
/-- an exception's object of the class cls, t the place of what it was made from, where that is known -/
def ErO (cls : Value) (a : Addr) (t : Option Addr) : HO := .ext fun h => ∃ (oe : Obj) (vs : Array Value), h.get? a = some oe ∧ Zc cls none oe ∧ oe.data = .fields vs ∧ ∀ b, t = some b → vs[0]? = some (.ref b)
def NE (av : Av) (H : Hp) (a : Addr) (cls : Value) (m : Option Str) : Prop := ∃ t, H a = some (ErO cls a t) ∧ ¬ av a ∧ ∀ x, m = some x → ∃ b, t = some b ∧ H b = some (.tup [.str x]) ∧ ¬ av b
section
variable {K : Fg} {av av' : Av} {H H' : Hp} {a : Addr} {xs : List V}
theorem NL.sq (h : NL av H a xs) : SqL K H a xs := .inl (.inl h.1)
theorem NT.sq (h : NT K av H a xs) : SqT K H a xs := h.elim (fun h => .inl (.inl h.1)) .inr
end
mutual
inductive Rp (K : Fg) (av : Av) (H : Hp) : V → D → Prop
  | non : Rp K av H .non .non
  | bl (b : Bool) : Rp K av H (.bl b) (.bl b)
  | int (i : Int) : Rp K av H (.int i) (.int i)
  | str (x : Str) : Rp K av H (.str x) (.str x)
  | obj (v : V) : Rp K av H v (.obj v)
  | lst {a : Addr} {xs : List V} {ds : List D} : NL av H a xs → Rps K av H xs ds → Rp K av H (.ref a) (.lst ds)
  | tup {a : Addr} {xs : List V} {ds : List D} : NT K av H a xs → Rps K av H xs ds → Rp K av H (.ref a) (.tup ds)
  | dic {a : Addr} {ks : List Key} {xs : List V} {ds : List D} : ND av H a (ks.zip xs) → ks.length = xs.length → Rps K av H xs ds → Rp K av H (.ref a) (.dic ks ds)
  | err {a : Addr} {cls : Value} {m : Option Str} : NE av H a cls m → Rp K av H (.ref a) (.err cls m)
inductive Rps (K : Fg) (av : Av) (H : Hp) : List V → List D → Prop
  | nil : Rps K av H [] []
  | cons {v : V} {vs : List V} {d : D} {ds : List D} : Rp K av H v d → Rps K av H vs ds → Rps K av H (v :: vs) (d :: ds)
end
section
variable {K : Fg} {av av' : Av} {H H' : Hp}
mutual
theorem Rp.map (f : ∀ a xs, NL av H a xs → NL av' H' a xs) (g : ∀ a xs, NT K av H a xs → NT K av' H' a xs) (k : ∀ a xs, ND av H a xs → ND av' H' a xs) (e : ∀ a c m, NE av H a c m → NE av' H' a c m) : ∀ {v : V} {d : D}, Rp K av H v d → Rp K av' H' v d
  | _, _, .non => .non
  | _, _, .bl b => .bl b
  | _, _, .int i => .int i
  | _, _, .str x => .str x
  | _, _, .obj v => .obj v
  | _, _, .lst h hs => .lst (f _ _ h) (Rps.map f g k e hs)
  | _, _, .tup h hs => .tup (g _ _ h) (Rps.map f g k e hs)
  | _, _, .dic h l hs => .dic (k _ _ h) l (Rps.map f g k e hs)
  | _, _, .err h => .err (e _ _ _ h)
theorem Rps.map (f : ∀ a xs, NL av H a xs → NL av' H' a xs) (g : ∀ a xs, NT K av H a xs → NT K av' H' a xs) (k : ∀ a xs, ND av H a xs → ND av' H' a xs) (e : ∀ a c m, NE av H a c m → NE av' H' a c m) : ∀ {vs : List V} {ds : List D}, Rps K av H vs ds → Rps K av' H' vs ds
  | _, _, .nil => .nil
  | _, _, .cons h hs => .cons (Rp.map f g k e h) (Rps.map f g k e hs)
end
/-- what stands, but for the cells in «is», stands behind -/
def Ext (is : Av) (H H' : Hp) : Prop := ∀ a o, ¬ is a → H a = some o → H' a = some o
variable {is : Av}
theorem Ext.refl (is : Av) (H : Hp) : Ext is H H := fun _ _ _ h => h
theorem Ext.trans {H1 H2 H3 : Hp} (a : Ext is H1 H2) (b : Ext is H2 H3) : Ext is H1 H3 := fun x o n h => b x o n (a x o n h)
theorem Ext.new {H : Hp} {p : Addr} {o : HO} (h : H p = none) : Ext is H (upd H p o) := fun a u _ e => by
  rw [upd_ne (ne_of_none e h)]
  exact e
theorem Ext.none {H H' : Hp} {a : Addr} (e : Ext is H H') (n : ¬ is a) (h : H' a = Option.none) : H a = Option.none := by
  cases q : H a with
  | none => rfl
  | some o => rw [e a o n q] at h; cases h
theorem NL.ext {a : Addr} {xs : List V} (e : Ext is H H') (hi : ∀ a, is a → av a) (ha : ∀ a, H a ≠ none → av' a → av a) (h : NL av H a xs) : NL av' H' a xs :=
  ⟨e a _ (fun z => h.2 (hi a z)) h.1, fun z => h.2 (ha a (by rw [h.1]; exact fun z => nomatch z) z)⟩
theorem NT.ext {a : Addr} {xs : List V} (e : Ext is H H') (hi : ∀ a, is a → av a) (ha : ∀ a, H a ≠ none → av' a → av a) (h : NT K av H a xs) : NT K av' H' a xs := by
  rcases h with ⟨r, n⟩ | h
  · exact .inl ⟨e a _ (fun z => n (hi a z)) r, fun z => n (ha a (by rw [r]; exact fun z => nomatch z) z)⟩
  · exact .inr h
theorem ND.ext {a : Addr} {xs : List (Key × V)} (e : Ext is H H') (hi : ∀ a, is a → av a) (ha : ∀ a, H a ≠ none → av' a → av a) (h : ND av H a xs) : ND av' H' a xs :=
  ⟨e a _ (fun z => h.2 (hi a z)) h.1, fun z => h.2 (ha a (by rw [h.1]; exact fun z => nomatch z) z)⟩
theorem NE.ext {a : Addr} {c : Value} {m : Option Str} (e : Ext is H H') (hi : ∀ a, is a → av a) (ha : ∀ a, H a ≠ none → av' a → av a) (h : NE av H a c m) : NE av' H' a c m := by
  obtain ⟨t, h1, h2, h3⟩ := h
  refine ⟨t, e a _ (fun z => h2 (hi a z)) h1, fun z => h2 (ha a (by rw [h1]; exact fun z => nomatch z) z), fun x hx => ?_⟩
  obtain ⟨b, e1, e2, e3⟩ := h3 x hx
  exact ⟨b, e1, e b _ (fun z => e3 (hi b z)) e2, fun z => e3 (ha b (by rw [e2]; exact fun z => nomatch z) z)⟩
theorem Rp.ext {v : V} {d : D} (e : Ext is H H') (hi : ∀ a, is a → av a) (ha : ∀ a, H a ≠ none → av' a → av a) (h : Rp K av H v d) : Rp K av' H' v d :=
  h.map (fun _ _ => NL.ext e hi ha) (fun _ _ => NT.ext e hi ha) (fun _ _ => ND.ext e hi ha) (fun _ _ _ => NE.ext e hi ha)
theorem Rps.ext {v : List V} {d : List D} (e : Ext is H H') (hi : ∀ a, is a → av a) (ha : ∀ a, H a ≠ none → av' a → av a) (h : Rps K av H v d) : Rps K av' H' v d :=
  h.map (fun _ _ => NL.ext e hi ha) (fun _ _ => NT.ext e hi ha) (fun _ _ => ND.ext e hi ha) (fun _ _ _ => NE.ext e hi ha)
theorem Rps.len : ∀ {vs : List V} {ds : List D}, Rps K av H vs ds → vs.length = ds.length
  | _, _, .nil => rfl
  | _, _, .cons _ h => congrArg (· + 1) h.len
theorem Rps.get : ∀ {vs : List V} {ds : List D} {i : Nat} {d : D}, Rps K av H vs ds → ds[i]? = some d → ∃ v, vs[i]? = some v ∧ Rp K av H v d
  | _, _, _, _, .nil, e => by simp at e
  | _, _, 0, _, .cons h _, e => by simp at e; subst e; exact ⟨_, rfl, h⟩
  | _, _, i + 1, _, .cons _ h, e => by
    obtain ⟨v, a, b⟩ := Rps.get (i := i) h (by simpa using e)
    exact ⟨v, by simpa using a, b⟩
theorem Rps.append : ∀ {vs ws : List V} {ds es : List D}, Rps K av H vs ds → Rps K av H ws es → Rps K av H (vs ++ ws) (ds ++ es)
  | _, _, _, _, .nil, h => h
  | _, _, _, _, .cons h hs, k => .cons h (hs.append k)
theorem Rps.take : ∀ (n : Nat) {vs : List V} {ds : List D}, Rps K av H vs ds → Rps K av H (vs.take n) (ds.take n)
  | 0, _, _, _ => .nil
  | _ + 1, _, _, .nil => .nil
  | n + 1, _, _, .cons h hs => .cons h (hs.take n)
theorem Rps.drop : ∀ (n : Nat) {vs : List V} {ds : List D}, Rps K av H vs ds → Rps K av H (vs.drop n) (ds.drop n)
  | 0, _, _, h => h
  | _ + 1, _, _, .nil => .nil
  | n + 1, _, _, .cons h hs => hs.drop n
theorem Rps.set : ∀ (n : Nat) {vs : List V} {ds : List D} {v : V} {d : D}, Rps K av H vs ds → Rp K av H v d → Rps K av H (vs.set n v) (ds.set n d)
  | _, _, _, _, _, .nil, _ => .nil
  | 0, _, _, _, _, .cons h hs, k => .cons k hs
  | n + 1, _, _, _, _, .cons h hs, k => .cons h (hs.set n k)
end
/-- cells that hold neither a list nor a table stay -/
def Stays (H H' : Hp) : Prop := ∀ a o, H a = some o → (∀ xs, o ≠ .lst xs) → (∀ ks, o ≠ .dK ks) → (∀ ps, o ≠ .tbl ps) → H' a = some o
theorem Stays.lst {H : Hp} {a : Addr} {xs ys : List V} (h : H a = some (.lst xs)) : Stays H (upd H a (.lst ys)) := fun b o e n _ _ => by
  rw [upd_ne (fun z : b = a => n xs (Option.some.inj (e.symm.trans (by rw [z]; exact h))))]
  exact e
/-- a list or a dict that may be written: what is at its place, its data -/
inductive Shp : D → HO → List V → List D → Prop
  | lst {xs : List V} {ds : List D} : Shp (.lst ds) (.lst xs) xs ds
  | dic {ks : List Key} {xs : List V} {ds : List D} : ks.length = xs.length → Shp (.dic ks ds) (.dK (ks.zip xs)) xs ds
theorem Shp.wr {d : D} {o : HO} {xs : List V} {ds : List D} (h : Shp d o xs ds) : (∃ xs, o = .lst xs) ∨ ∃ ks, o = .dK ks := by
  cases h
  · exact .inl ⟨_, rfl⟩
  · exact .inr ⟨_, rfl⟩
theorem Stays.wr {H : Hp} {a : Addr} {o u : HO} (h : H a = some o) (w : (∃ xs, o = .lst xs) ∨ ∃ ks, o = .dK ks) : Stays H (upd H a u) := fun b p e n n2 _ => by
  rw [upd_ne (fun z : b = a => by
    rw [z, h] at e
    cases e
    rcases w with ⟨xs, w⟩ | ⟨ks, w⟩
    · exact n xs w
    · exact n2 ks w)]
  exact e
/-- a thing that draws change: its cells, what holds while n draws are left -/
structure Pn where
  is : Av
  ok : Nat → Hp → Prop
  mono : ∀ {n m H}, ok n H → m ≤ n → ok m H
  stab : ∀ {n H H'}, ok n H → (∀ a, is a → H' a = H a) → Stays H H' → ok n H'
  al : ∀ {n H a}, ok n H → is a → H a ≠ none
def noPen : Pn := ⟨fun _ => False, fun _ _ => True, fun _ _ => trivial, fun _ _ _ => trivial, fun _ h => h.elim⟩
inductive Slot where
  | un | dat (d : D) | own (d : D)
abbrev Gm := List Slot
def Own (σ : Sg) (G : Gm) (a : Addr) : Prop := ∃ (i : Nat) (ds : D), G[i]? = some (Slot.own ds) ∧ σ[i]? = some (some (.ref a))
def SlotOk (K : Fg) (av : Av) (H : Hp) : Slot → Option V → Prop
  | .un, _ => True
  | .dat d, o => ∃ v, o = some v ∧ Rp K av H v d
  | .own d, o => ∃ a u xs ds, o = some (.ref a) ∧ H a = some u ∧ Shp d u xs ds ∧ Rps K av H xs ds
abbrev avo (av : Av) (σ : Sg) (G : Gm) : Av := fun a => av a ∨ Own σ G a
abbrev avp (av : Av) (p : Addr) : Av := fun a => av a ∨ a = p
structure LocOk (P : Pn) (K : Fg) (av : Av) (H0 : Hp) (n : Nat) (H : Hp) (σ : Sg) (G : Gm) : Prop where
  len : G.length = σ.length
  sl : ∀ (i : Nat) (s : Slot), G[i]? = some s → ∃ o, σ[i]? = some o ∧ SlotOk K (avo av σ G) H s o
  inj : ∀ (i j : Nat) (ds es : D) (a : Addr), G[i]? = some (.own ds) → G[j]? = some (.own es) → σ[i]? = some (some (.ref a)) → σ[j]? = some (some (.ref a)) → i = j
  ext : Ext P.is H0 H
  fr : ∀ a, Own σ G a → H0 a = none
  ok : P.ok n H
  pav : ∀ a, P.is a → av a
  al : ∀ a, av a → H0 a ≠ none
section
variable {P : Pn} {K : Fg} {av : Av} {H0 H H' : Hp} {n m : Nat} {σ : Sg} {G : Gm} {a p : Addr}
theorem LocOk.avNe (L : LocOk P K av H0 n H σ G) (h : av a) : H a ≠ none := by
  by_cases i : P.is a
  · exact P.al L.ok i
  · intro z
    exact L.al a h (L.ext.none i z)
theorem LocOk.ownNe (L : LocOk P K av H0 n H σ G) (h : Own σ G a) : H a ≠ none := by
  obtain ⟨i, ds, e1, e2⟩ := h
  obtain ⟨o, h1, b, _, xs, _, h2, h3, _⟩ := L.sl i _ e1
  rw [e2] at h1
  cases h1
  cases h2
  rw [h3]
  exact fun z => nomatch z
theorem LocOk.avoNe (L : LocOk P K av H0 n H σ G) (h : avo av σ G a) : H a ≠ none := h.elim L.avNe L.ownNe
theorem LocOk.isAvo (L : LocOk P K av H0 n H σ G) (h : P.is a) : avo av σ G a := .inl (L.pav a h)
theorem LocOk.ownIs (L : LocOk P K av H0 n H σ G) (h : Own σ G a) : ¬ P.is a := fun i => L.al a (L.pav a i) (L.fr a h)
theorem LocOk.le (L : LocOk P K av H0 n H σ G) (h : m ≤ n) : LocOk P K av H0 m H σ G := ⟨L.len, L.sl, L.inj, L.ext, L.fr, P.mono L.ok h, L.pav, L.al⟩
/-- the heap grows -/
theorem LocOk.grow (L : LocOk P K av H0 n H σ G) (e : Ext P.is H H') (k : P.ok m H') : LocOk P K av H0 m H' σ G := by
  refine ⟨L.len, fun i s hs => ?_, L.inj, L.ext.trans e, L.fr, k, L.pav, L.al⟩
  obtain ⟨o, h1, h2⟩ := L.sl i s hs
  refine ⟨o, h1, ?_⟩
  cases s with
  | un => trivial
  | dat d =>
    obtain ⟨v, e1, r⟩ := h2
    exact ⟨v, e1, r.ext e (fun _ => L.isAvo) (fun _ _ z => z)⟩
  | own ds =>
    obtain ⟨b, u, xs, es, e1, e2, sh, r⟩ := h2
    subst e1
    exact ⟨b, u, xs, es, rfl, e b _ (L.ownIs ⟨i, ds, hs, h1⟩) e2, sh, r.ext e (fun _ => L.isAvo) (fun _ _ z => z)⟩
theorem Pn.ex (P : Pn) (k : P.ok n H) (e : ∀ a o, H a = some o → H' a = some o) : P.ok n H' := P.stab k (fun a i => by
  cases q : H a with
  | none => exact absurd q (P.al k i)
  | some o => exact e a o q) fun a o h _ _ _ => e a o h
theorem LocOk.growEx (L : LocOk P K av H0 n H σ G) (e : ∀ a o, H a = some o → H' a = some o) : LocOk P K av H0 n H' σ G := L.grow (fun a o _ h => e a o h) (P.ex L.ok e)
theorem LocOk.new (L : LocOk P K av H0 n H σ G) {o : HO} (h : H p = none) : LocOk P K av H0 n (upd H p o) σ G := L.growEx fun a u e => by
  rw [upd_ne (ne_of_none e h)]
  exact e
end
theorem avp_of {av : Av} {H : Hp} {p : Addr} (h : H p = none) : ∀ a, H a ≠ none → avp av p a → av a := fun a k z => z.elim id fun e => absurd (e ▸ h) k
theorem SlotOk.shrink {K : Fg} {av av' : Av} {H : Hp} {s : Slot} {o : Option V} (ha : ∀ a, H a ≠ none → av' a → av a) (h : SlotOk K av H s o) : SlotOk K av' H s o := by
  cases s with
  | un => trivial
  | dat d => obtain ⟨v, e, r⟩ := h; exact ⟨v, e, r.ext (is := fun _ => False) (.refl _ _) (fun _ z => z.elim) ha⟩
  | own ds => obtain ⟨a, u, xs, es, e, e2, sh, r⟩ := h; exact ⟨a, u, xs, es, e, e2, sh, r.ext (is := fun _ => False) (.refl _ _) (fun _ z => z.elim) ha⟩
/-! ### judgements -/
abbrev WE := Gm → (Value → Prop) → (D → Prop) → Prop
abbrev WL := Gm → (Value → Prop) → (List D → Prop) → Prop
abbrev WT := Gm → (Value → Prop) → (Bool → Prop) → Prop
/-- a value whose own place may be one that the def owns: to be read alone -/
def Rq (K : Fg) (is av : Av) (H : Hp) (v : V) (d : D) : Prop := match d with
  | .lst ds => ∃ a xs, v = .ref a ∧ NL is H a xs ∧ Rps K av H xs ds
  | .dic ks ds => ∃ a xs, v = .ref a ∧ ND is H a (ks.zip xs) ∧ ks.length = xs.length ∧ Rps K av H xs ds
  | d => Rp K av H v d
/-- what the raised meet, which pens there may be -/
structure Ctl where
  w : WX
  pc : Pn → Prop
abbrev Ctl.no (C : Ctl) : Ctl := ⟨fun _ _ _ _ => False, C.pc⟩
def HW (W : Ctl) (P : Pn) (H0 : Hp) (ed : Value → Prop) : Prop := W.pc P ∧ ∀ cls σ H', ed cls → Ext P.is H0 H' → W.w cls none σ H'
theorem HW.no {W : Ctl} {P : Pn} {H0 H1 : Hp} {ed : Value → Prop} (h : HW W P H0 ed) : HW W.no P H1 fun _ => False := ⟨h.1, fun _ _ _ z => z.elim⟩
def DE {ι : Type} (X : ι → Cx) (K : Fg) (W : Ctl) (c : Nat) (e : Expr) (w : WE) : Prop := ∃ te, (∀ i, PE (X i) e te) ∧ ∀ (P : Pn) (av : Av) (H0 : Hp) (ed : Value → Prop), HW W P H0 ed → ∀ (n : Nat) (H : Hp) (σ : Sg) (G : Gm) (Qd : D → Prop),
  LocOk P K av H0 (n + c) H σ G → w G ed Qd → ∀ Q : VK, (∀ v H' d, Qd d → LocOk P K av H0 n H' σ G → Ext P.is H H' → Rp K (avo av σ G) H' v d → Q v H') → te σ H Q
def DR {ι : Type} (X : ι → Cx) (K : Fg) (W : Ctl) (c : Nat) (e : Expr) (w : WE) : Prop := ∃ te, (∀ i, PE (X i) e te) ∧ ∀ (P : Pn) (av : Av) (H0 : Hp) (ed : Value → Prop), HW W P H0 ed → ∀ (n : Nat) (H : Hp) (σ : Sg) (G : Gm) (Qd : D → Prop),
  LocOk P K av H0 (n + c) H σ G → w G ed Qd → ∀ Q : VK, (∀ v H' d, Qd d → LocOk P K av H0 n H' σ G → Ext P.is H H' → Rq K P.is (avo av σ G) H' v d → Q v H') → te σ H Q
def DF {ι : Type} (X : ι → Cx) (K : Fg) (W : Ctl) (c : Nat) (e : Expr) (w : WL) : Prop := ∃ te, (∀ i, PE (X i) e te) ∧ ∀ (P : Pn) (av : Av) (H0 : Hp) (ed : Value → Prop), HW W P H0 ed → ∀ (n : Nat) (H : Hp) (σ : Sg) (G : Gm) (Qd : List D → Prop),
  LocOk P K av H0 (n + c) H σ G → w G ed Qd → ∀ Q : VK, (∀ p xs H' ds, Qd ds → LocOk P K av H0 n H' σ G → Ext P.is H H' → H p = none → H' p = some (.lst xs) → Rps K (avp (avo av σ G) p) H' xs ds → Q (.ref p) H') → te σ H Q
def DA {ι : Type} (X : ι → Cx) (K : Fg) (W : Ctl) (c : Nat) (es : List Expr) (w : WL) : Prop := ∃ ta, (∀ i, PA (X i) es ta) ∧ ∀ (P : Pn) (av : Av) (H0 : Hp) (ed : Value → Prop), HW W P H0 ed → ∀ (n : Nat) (H : Hp) (σ : Sg) (G : Gm) (Qd : List D → Prop),
  LocOk P K av H0 (n + c) H σ G → w G ed Qd → ∀ Q : List V → Hp → Prop, (∀ vs H' ds, Qd ds → LocOk P K av H0 n H' σ G → Ext P.is H H' → Rps K (avo av σ G) H' vs ds → Q vs H') → ta σ H Q
/-- arguments of a built-in, read alone -/
inductive Rqs (K : Fg) (is av : Av) (H : Hp) : List V → List D → Prop
  | nil : Rqs K is av H [] []
  | cons {v : V} {vs : List V} {d : D} {ds : List D} : Rq K is av H v d → Rqs K is av H vs ds → Rqs K is av H (v :: vs) (d :: ds)
def DB {ι : Type} (X : ι → Cx) (K : Fg) (W : Ctl) (c : Nat) (es : List Expr) (w : WL) : Prop := ∃ ta, (∀ i, PA (X i) es ta) ∧ ∀ (P : Pn) (av : Av) (H0 : Hp) (ed : Value → Prop), HW W P H0 ed → ∀ (n : Nat) (H : Hp) (σ : Sg) (G : Gm) (Qd : List D → Prop),
  LocOk P K av H0 (n + c) H σ G → w G ed Qd → ∀ Q : List V → Hp → Prop, (∀ vs H' ds, Qd ds → LocOk P K av H0 n H' σ G → Ext P.is H H' → Rqs K P.is (avo av σ G) H' vs ds → Q vs H') → ta σ H Q
def DT {ι : Type} (X : ι → Cx) (K : Fg) (W : Ctl) (c : Nat) (e : Expr) (w : WT) : Prop := ∃ tt, (∀ i, PT (X i) e tt) ∧ ∀ (P : Pn) (av : Av) (H0 : Hp) (ed : Value → Prop), HW W P H0 ed → ∀ (n : Nat) (H : Hp) (σ : Sg) (G : Gm) (Qd : Bool → Prop),
  LocOk P K av H0 (n + c) H σ G → w G ed Qd → ∀ Q : Bool → Hp → Prop, (∀ b H', Qd b → LocOk P K av H0 n H' σ G → Ext P.is H H' → Q b H') → tt σ H Q
structure DEnds where
  nx : Gm → Prop
  rt : D → Prop
  bk : Gm → Prop
  ct : Gm → Prop
  ex : Value → Prop
  rf : List D → Prop
abbrev WS := Gm → DEnds → Prop
/-- owned cells are old ones or new ones -/
def OwN (P : Pn) (H : Hp) (σ : Sg) (G : Gm) (σ' : Sg) (G' : Gm) : Prop := ∀ a, Own σ' G' a → Own σ G a ∨ (H a = none ∧ ¬ P.is a)
/-- from a state to a later one -/
structure Rl (P : Pn) (H : Hp) (σ : Sg) (G : Gm) (H' : Hp) (σ' : Sg) (G' : Gm) : Prop where
  ext : Ext (fun a => P.is a ∨ Own σ G a) H H'
  own : OwN P H σ G σ' G'
theorem Rl.trans {P : Pn} {H H1 H2 : Hp} {σ σ1 σ2 : Sg} {G G1 G2 : Gm} (a : Rl P H σ G H1 σ1 G1) (b : Rl P H1 σ1 G1 H2 σ2 G2) : Rl P H σ G H2 σ2 G2 := by
  refine ⟨fun x o n h => b.ext x o (fun z => ?_) (a.ext x o n h), fun x z => ?_⟩
  · rcases z with z | z
    · exact n (.inl z)
    · rcases a.own x z with z | z
      · exact n (.inr z)
      · rw [h] at z; exact nomatch z.1
  · rcases b.own x z with z | ⟨z, k⟩
    · exact a.own x z
    · by_cases q : Own σ G x
      · exact .inl q
      · exact .inr ⟨a.ext.none (fun z => z.elim k q) z, k⟩
theorem Rl.of {P : Pn} {H H' : Hp} {σ σ' : Sg} {G G' : Gm} (e : Ext P.is H H') (o : ∀ a, Own σ' G' a → Own σ G a) : Rl P H σ G H' σ' G' := ⟨fun a u n h => e a u (fun z => n (.inl z)) h, fun a z => .inl (o a z)⟩
structure DD (P : Pn) (K : Fg) (av : Av) (H0 : Hp) (n : Nat) (H : Hp) (σ : Sg) (G : Gm) (De : DEnds) (D : Ends) : Prop where
  nx : ∀ σ' H' G', De.nx G' → LocOk P K av H0 n H' σ' G' → Rl P H σ G H' σ' G' → D.nx σ' H'
  bk : ∀ σ' H' G', De.bk G' → LocOk P K av H0 n H' σ' G' → Rl P H σ G H' σ' G' → D.bk σ' H'
  ct : ∀ σ' H' G', De.ct G' → LocOk P K av H0 n H' σ' G' → Rl P H σ G H' σ' G' → D.ct σ' H'
  rt : ∀ v H' d, De.rt d → Ext P.is H0 H' → P.ok n H' → Rp K av H' v d → D.rt v H'
  rf : ∀ p xs H' ds, De.rf ds → Ext P.is H0 H' → P.ok n H' → H0 p = none → H' p = some (.lst xs) → Rps K (avp av p) H' xs ds → D.rt (.ref p) H'
def DS {ι : Type} (X : ι → Cx) (K : Fg) (W : Ctl) (c : Nat) (st : Stmt) (w : WS) : Prop := ∃ ts, (∀ i, PS (X i) st ts) ∧ ∀ (P : Pn) (av : Av) (H0 : Hp) (De : DEnds), HW W P H0 De.ex → ∀ (n : Nat) (H : Hp) (σ : Sg) (G : Gm),
  LocOk P K av H0 (n + c) H σ G → w G De → ∀ D : Ends, DD P K av H0 n H σ G De D → ts D σ H
def DSs {ι : Type} (X : ι → Cx) (K : Fg) (W : Ctl) (c : Nat) (sts : List Stmt) (w : WS) : Prop := ∃ ts, (∀ i, PSs (X i) sts ts) ∧ ∀ (P : Pn) (av : Av) (H0 : Hp) (De : DEnds), HW W P H0 De.ex → ∀ (n : Nat) (H : Hp) (σ : Sg) (G : Gm),
  LocOk P K av H0 (n + c) H σ G → w G De → ∀ D : Ends, DD P K av H0 n H σ G De D → ts D σ H
end DL

namespace DL
open PySem PySem.Spec PyProof.Rows L2
section
variable {K : Fg} {is av av' : Av} {H H' : Hp} {v : V} {d : D} {vs : List V} {ds : List D}
theorem Rp.rq (h : Rp K av H v d) (hi : ∀ a, is a → av a) : Rq K is av H v d := by
  cases h with
  | lst n hs => exact ⟨_, _, rfl, ⟨n.1, fun z => n.2 (hi _ z)⟩, hs⟩
  | non => exact .non
  | bl b => exact .bl b
  | int i => exact .int i
  | str x => exact .str x
  | obj v => exact .obj v
  | tup n hs => exact .tup n hs
  | dic n l hs => exact ⟨_, _, rfl, ⟨n.1, fun z => n.2 (hi _ z)⟩, l, hs⟩
  | err n => exact .err n
theorem Rq.ext (h : Rq K is av H v d) (e : Ext is H H') (hi : ∀ a, is a → av a) : Rq K is av H' v d := by
  cases d with
  | lst ds =>
    obtain ⟨a, xs, h1, h2, h3⟩ := h
    exact ⟨a, xs, h1, ⟨e a _ h2.2 h2.1, h2.2⟩, h3.ext e hi fun _ _ z => z⟩
  | non => exact Rp.ext e hi (fun _ _ z => z) h
  | bl b => exact Rp.ext e hi (fun _ _ z => z) h
  | int i => exact Rp.ext e hi (fun _ _ z => z) h
  | str x => exact Rp.ext e hi (fun _ _ z => z) h
  | obj v => exact Rp.ext e hi (fun _ _ z => z) h
  | tup xs => exact Rp.ext e hi (fun _ _ z => z) h
  | dic ks ds =>
    obtain ⟨a, xs, h1, h2, h3, h4⟩ := h
    exact ⟨a, xs, h1, ⟨e a _ h2.2 h2.1, h2.2⟩, h3, h4.ext e hi fun _ _ z => z⟩
  | err c m => exact Rp.ext e hi (fun _ _ z => z) h
theorem Rqs.ext : ∀ {vs : List V} {ds : List D}, Rqs K is av H vs ds → Ext is H H' → (∀ a, is a → av a) → Rqs K is av H' vs ds
  | _, _, .nil, _, _ => .nil
  | _, _, .cons h hs, e, hi => .cons (h.ext e hi) (hs.ext e hi)
theorem Rps.rqs : ∀ {vs : List V} {ds : List D}, Rps K av H vs ds → (∀ a, is a → av a) → Rqs K is av H vs ds
  | _, _, .nil, _ => .nil
  | _, _, .cons h hs, hi => .cons (h.rq hi) (hs.rqs hi)
theorem Ex.ext (h : ∀ a o, H a = some o → H' a = some o) : Ext is H H' := fun a o _ q => h a o q
end
abbrev Ex (H H' : Hp) : Prop := ∀ a o, H a = some o → H' a = some o
theorem ex_new {H : Hp} {p : Addr} {o : HO} (h : H p = none) : Ex H (upd H p o) := fun a u e => by
  rw [upd_ne (ne_of_none e h)]
  exact e
section
variable {ι : Type} {X : ι → Cx} {K : Fg} {W : Ctl} {c c1 c2 c3 : Nat} {e a b t : Expr} {w wa wb : WE} {wt : WT} {pos : Pos}
/-! ### ways from one judgement to another -/
theorem DE.r (h : DE X K W c e w) : DR X K W c e w := by
  obtain ⟨te, pe, s⟩ := h
  refine ⟨te, pe, fun P av H0 ed hw n H σ G Qd L h Q q => s P av H0 ed hw n H σ G Qd L h Q fun v H' d hd L' e' r => q v H' d hd L' e' (r.rq fun _ => L'.isAvo)⟩
def wF (w : WL) : WE := fun G ed Q => w G ed fun ds => Q (.lst ds)
theorem DF.de {w : WL} (h : DF X K W c e w) : DE X K W c e (wF w) := by
  obtain ⟨te, pe, s⟩ := h
  refine ⟨te, pe, fun P av H0 ed hw n H σ G Qd L h Q q => s P av H0 ed hw n H σ G _ L h Q fun p xs H' ds hd L' e' hn hp r => q _ H' _ hd L' e' (.lst ⟨hp, fun z => ?_⟩ (r.ext (is := fun _ => False) (.refl _ _) (fun _ z => z.elim) fun _ _ z => .inl z))⟩
  exact L.avoNe z hn
theorem DF.r {w : WL} (h : DF X K W c e w) : DR X K W c e (wF w) := h.de.r
/-! ### names, constants -/
/-- one of two ways, by a bool -/
@[irreducible] def fork (b : Bool) (A B : Prop) : Prop := (b = true ∧ A) ∨ (b = false ∧ B)
theorem fork_i {b : Bool} {A B : Prop} (h1 : b = true → A) (h2 : b = false → B) : fork b A B := by
  unfold fork
  cases b with
  | true => exact .inl ⟨rfl, h1 rfl⟩
  | false => exact .inr ⟨rfl, h2 rfl⟩
theorem fork_t {b : Bool} {A B : Prop} (h : b = true) (h1 : A) : fork b A B := fork_i (fun _ => h1) fun z => absurd (h.symm.trans z) (by decide)
theorem fork_f {b : Bool} {A B : Prop} (h : b = false) (h1 : B) : fork b A B := fork_i (fun z => absurd (h.symm.trans z) (by decide)) fun _ => h1
theorem fork_tt {A B : Prop} : fork true A B = A := propext ⟨fun h => by unfold fork at h; rcases h with h | h; exact h.2; exact absurd h.1 (by decide), fun h => fork_t rfl h⟩
theorem fork_ff {A B : Prop} : fork false A B = B := propext ⟨fun h => by unfold fork at h; rcases h with h | h; exact absurd h.1 (by decide); exact h.2, fun h => fork_f rfl h⟩
def onO {α : Type} : Option α → (α → Prop) → Prop
  | some x, Q => Q x
  | none, _ => False
theorem onO_of {α : Type} {o : Option α} {Q : α → Prop} (h : onO o Q) : ∃ x, o = some x ∧ Q x := by
  cases o with
  | none => exact h.elim
  | some x => exact ⟨x, rfl, h⟩
def onB : D → (Bool → Prop) → Prop
  | .bl b, Q => Q b
  | _, _ => False
theorem onB_of {d : D} {Q : Bool → Prop} (h : onB d Q) : ∃ b, d = .bl b ∧ Q b := by cases d <;> first | exact h.elim | exact ⟨_, rfl, h⟩
def onI : D → (Int → Prop) → Prop
  | .int i, Q => Q i
  | _, _ => False
theorem onI_of {d : D} {Q : Int → Prop} (h : onI d Q) : ∃ b, d = .int b ∧ Q b := by cases d <;> first | exact h.elim | exact ⟨_, rfl, h⟩
def onS : D → (Str → Prop) → Prop
  | .str i, Q => Q i
  | _, _ => False
theorem onS_of {d : D} {Q : Str → Prop} (h : onS d Q) : ∃ b, d = .str b ∧ Q b := by cases d <;> first | exact h.elim | exact ⟨_, rfl, h⟩
def vaS : Option Slot → (D → Prop) → Prop
  | some (.dat d), Q => Q d
  | _, _ => False
theorem vaS_of {o : Option Slot} {Q : D → Prop} (h : vaS o Q) : ∃ d, o = some (.dat d) ∧ Q d := by
  cases o with
  | none => exact h.elim
  | some s => cases s <;> first | exact h.elim | exact ⟨_, rfl, h⟩
def owS : Option Slot → (List D → Prop) → Prop
  | some (.own (.lst ds)), Q => Q ds
  | _, _ => False
theorem owS_of {o : Option Slot} {Q : List D → Prop} (h : owS o Q) : ∃ d, o = some (.own (.lst d)) ∧ Q d := by
  unfold owS at h
  split at h
  · exact ⟨_, rfl, h⟩
  · exact h.elim
def wVar (i : Nat) : WE := fun G _ Q => vaS G[i]? Q
def rdS : Option Slot → (D → Prop) → Prop
  | some (.dat d), Q => Q d
  | some (.own d), Q => Q d
  | _, _ => False
def wRd (i : Nat) : WE := fun G _ Q => rdS G[i]? Q
def wC (d : D) : WE := fun _ _ Q => Q d
theorem de_pv {i : Nat} {x : Str} (h : ∀ j, PE (X j) (.Name x pos) (tVar i)) : DE X K W 0 (.Name x pos) (wVar i) := by
  refine ⟨_, h, fun P av H0 ed hw n H σ G Qd L h Q q => ?_⟩
  obtain ⟨d, h1, h2⟩ := vaS_of h
  obtain ⟨o, e1, v, e2, r⟩ := L.sl i _ h1
  subst e2
  exact ⟨v, e1, q v H d h2 L (.refl _ _) r⟩
theorem dr_pv {i : Nat} {x : Str} (h : ∀ j, PE (X j) (.Name x pos) (tVar i)) : DR X K W 0 (.Name x pos) (wRd i) := by
  refine ⟨_, h, fun P av H0 ed hw n H σ G Qd L h Q q => ?_⟩
  cases e0 : G[i]? with
  | none =>
    rw [wRd, e0] at h
    exact h.elim
  | some s =>
    rw [wRd, e0] at h
    cases s with
    | un => exact h.elim
    | dat d =>
      obtain ⟨o, e1, v, e2, r⟩ := L.sl i _ e0
      subst e2
      exact ⟨v, e1, q v H d h L (.refl _ _) (r.rq fun _ => L.isAvo)⟩
    | own ds =>
      obtain ⟨o, e1, p, u, xs, es, e2, e3, sh, r⟩ := L.sl i _ e0
      subst e2
      have oi := L.ownIs ⟨i, ds, e0, e1⟩
      cases sh with
      | lst => exact ⟨_, e1, q _ H _ h L (.refl _ _) ⟨p, xs, rfl, ⟨e3, oi⟩, r⟩⟩
      | dic hl => exact ⟨_, e1, q _ H _ h L (.refl _ _) ⟨p, xs, rfl, ⟨e3, oi⟩, hl, r⟩⟩
/-- atoms -/
inductive Atom : V → D → Prop
  | non : Atom .non .non | bl b : Atom (.bl b) (.bl b) | int i : Atom (.int i) (.int i) | str s : Atom (.str s) (.str s) | obj v : Atom v (.obj v)
theorem Atom.rp {K : Fg} {av : Av} {H : Hp} {v : V} {d : D} (h : Atom v d) : Rp K av H v d := by
  cases h
  · exact .non
  · exact .bl _
  · exact .int _
  · exact .str _
  · exact .obj _
theorem de_c {v : V} {d : D} (h : ∀ i, PE (X i) e (tC v)) (ha : Atom v d) : DE X K W 0 e (wC d) :=
  ⟨_, h, fun P av H0 ed hw n H σ G Qd L h Q q => q v H d h L (.refl _ _) ha.rp⟩
theorem de_int {i : Int} {j pos} : DE X K W 0 (.Constant (.int i) j pos) (wC (.int i)) := de_c (fun _ => pe_int) (.int i)
theorem de_bl {i : Bool} {j pos} : DE X K W 0 (.Constant (.bool i) j pos) (wC (.bl i)) := de_c (fun _ => pe_bl) (.bl i)
theorem de_str {i : Str} {j pos} : DE X K W 0 (.Constant (.str i) j pos) (wC (.str i)) := de_c (fun _ => pe_str) (.str i)
theorem de_non {j pos} : DE X K W 0 (.Constant .none j pos) (wC .non) := de_c (fun _ => pe_non) .non
theorem de_glob {x : Str} {v : V} {d : D} {u : Value} (hm : ∀ i, (X i).mg x = some u) (r : RelV v u) (ha : Atom v d) (hg : ∀ i, Gl (X i) x) (hd : (x == ("__debug__" : Str)) = false := by decide) : DE X K W 0 (.Name x pos) (wC d) := de_c (fun i => pe_glob (hg i) (hm i) r hd) ha
/-! ### operators -/
def OpS (K : Fg) (r : R2) (f : D → D → (D → Prop) → Prop) : Prop := ∀ (is av : Av) (H : Hp) (x y : V) (dx dy : D) (Qd : D → Prop), (∀ a, is a → av a) → (∀ a, av a → H a ≠ none) → Rq K is av H x dx → Rq K is av H y dy → f dx dy Qd →
  ∀ Q : VK, (∀ v H' d, Qd d → Ex H H' → Rp K av H' v d → Q v H') → r x y H Q
def OpF (K : Fg) (r : R2) (f : D → D → (List D → Prop) → Prop) : Prop := ∀ (is av : Av) (H : Hp) (x y : V) (dx dy : D) (Qd : List D → Prop), (∀ a, is a → av a) → (∀ a, av a → H a ≠ none) → Rq K is av H x dx → Rq K is av H y dy → f dx dy Qd →
  ∀ Q : VK, (∀ p xs ds, Qd ds → H p = none → Rps K av H xs ds → Q (.ref p) (upd H p (.lst xs))) → r x y H Q
/-- a comparison: a value and a test -/
def DX {ι : Type} (X : ι → Cx) (K : Fg) (W : Ctl) (c : Nat) (e : Expr) (w : WE) : Prop := ∃ te, (∀ i, PE (X i) e te ∧ PT (X i) e (tTest te)) ∧ ∀ (P : Pn) (av : Av) (H0 : Hp) (ed : Value → Prop), HW W P H0 ed → ∀ (n : Nat) (H : Hp) (σ : Sg) (G : Gm) (Qd : D → Prop),
  LocOk P K av H0 (n + c) H σ G → w G ed Qd → ∀ Q : VK, (∀ v H' d, Qd d → LocOk P K av H0 n H' σ G → Ext P.is H H' → Rp K (avo av σ G) H' v d → Q v H') → te σ H Q
theorem DX.de (h : DX X K W c e w) : DE X K W c e w := by
  obtain ⟨te, pe, s⟩ := h
  exact ⟨te, fun i => (pe i).1, s⟩
def wB (w : WE) : WT := fun G ed Q => w G ed fun d => onB d Q
theorem DX.dt (h : DX X K W c e w) : DT X K W c e (wB w) := by
  obtain ⟨te, pe, s⟩ := h
  refine ⟨_, fun i => (pe i).2, fun P av H0 ed hw n H σ G Qd L h Q q => s P av H0 ed hw n H σ G _ L h _ fun v H' d hd L' e' r => ?_⟩
  obtain ⟨b, rfl, hb⟩ := onB_of hd
  cases r
  exact ⟨b, rfl, q b H' hb L' e'⟩
def w2 (f : D → D → (D → Prop) → Prop) (wa wb : WE) : WE := fun G ed Q => wa G ed fun x => wb G ed fun y => f x y Q
def w2F (f : D → D → (List D → Prop) → Prop) (wa wb : WE) : WL := fun G ed Q => wa G ed fun x => wb G ed fun y => f x y Q
theorem two {r : R2} {f : D → D → (D → Prop) → Prop} (hf : OpS K r f) (pe : ∀ i ta tb, PE (X i) a ta → PE (X i) b tb → PE (X i) e (tOp r ta tb)) (ha : DR X K W c1 a wa) (hb : DR X K W c2 b wb) : DE X K W (c1 + c2) e (w2 f wa wb) := by
  obtain ⟨ta, pa, sa⟩ := ha
  obtain ⟨tb, pb, sb⟩ := hb
  refine ⟨_, fun i => pe i _ _ (pa i) (pb i), fun P av H0 ed hw n H σ G Qd L h Q q => ?_⟩
  refine sa P av H0 ed hw (n + c2) H σ G _ (L.le (by omega)) h _ fun x H1 dx hx L1 e1 r1 => ?_
  refine sb P av H0 ed hw n H1 σ G _ (L1.le (Nat.le_refl _)) hx _ fun y H2 dy hy L2 e2 r2 => ?_
  refine hf P.is (avo av σ G) H2 x y dx dy Qd (fun _ => L2.isAvo) (fun _ => L2.avoNe) (r1.ext e2 fun _ => L2.isAvo) r2 hy Q fun v H' d hd ex rv => ?_
  exact q v H' d hd (L2.growEx ex) (e1.trans (e2.trans (Ex.ext ex))) rv
theorem twoF {r : R2} {f : D → D → (List D → Prop) → Prop} (hf : OpF K r f) (pe : ∀ i ta tb, PE (X i) a ta → PE (X i) b tb → PE (X i) e (tOp r ta tb)) (ha : DR X K W c1 a wa) (hb : DR X K W c2 b wb) : DF X K W (c1 + c2) e (w2F f wa wb) := by
  obtain ⟨ta, pa, sa⟩ := ha
  obtain ⟨tb, pb, sb⟩ := hb
  refine ⟨_, fun i => pe i _ _ (pa i) (pb i), fun P av H0 ed hw n H σ G Qd L h Q q => ?_⟩
  refine sa P av H0 ed hw (n + c2) H σ G _ (L.le (by omega)) h _ fun x H1 dx hx L1 e1 r1 => ?_
  refine sb P av H0 ed hw n H1 σ G _ (L1.le (Nat.le_refl _)) hx _ fun y H2 dy hy L2 e2 r2 => ?_
  refine hf P.is (avo av σ G) H2 x y dx dy Qd (fun _ => L2.isAvo) (fun _ => L2.avoNe) (r1.ext e2 fun _ => L2.isAvo) r2 hy Q fun p xs ds hd hp rv => ?_
  have ni : ¬ P.is p := fun z => L2.avNe (L2.pav _ z) hp
  exact q p xs _ ds hd (L2.new hp) (e1.trans (e2.trans (.new hp))) ((e1.trans e2).none ni hp) upd_same (rv.ext (is := P.is) (.new hp) (fun _ => L2.isAvo) (avp_of hp))
theorem twoX {r : R2} {f : D → D → (D → Prop) → Prop} (hf : OpS K r f) (pe : ∀ i ta tb, PE (X i) a ta → PE (X i) b tb → PE (X i) e (tOp r ta tb) ∧ PT (X i) e (tTest (tOp r ta tb))) (ha : DR X K W c1 a wa) (hb : DR X K W c2 b wb) : DX X K W (c1 + c2) e (w2 f wa wb) := by
  obtain ⟨ta, pa, sa⟩ := ha
  obtain ⟨tb, pb, sb⟩ := hb
  refine ⟨_, fun i => pe i _ _ (pa i) (pb i), fun P av H0 ed hw n H σ G Qd L h Q q => ?_⟩
  refine sa P av H0 ed hw (n + c2) H σ G _ (L.le (by omega)) h _ fun x H1 dx hx L1 e1 r1 => ?_
  refine sb P av H0 ed hw n H1 σ G _ (L1.le (Nat.le_refl _)) hx _ fun y H2 dy hy L2 e2 r2 => ?_
  refine hf P.is (avo av σ G) H2 x y dx dy Qd (fun _ => L2.isAvo) (fun _ => L2.avoNe) (r1.ext e2 fun _ => L2.isAvo) r2 hy Q fun v H' d hd ex rv => ?_
  exact q v H' d hd (L2.growEx ex) (e1.trans (e2.trans (Ex.ext ex))) rv
def fI (C : Int → Int → Prop) (g : Int → Int → D) : D → D → (D → Prop) → Prop
  | .int i, .int j, Q => C i j ∧ Q (g i j)
  | _, _, _ => False
theorem opI {C : Int → Int → Prop} {g : Int → Int → V} {g' : Int → Int → D} (hg : ∀ i j, Atom (g i j) (g' i j)) : OpS K (rI C g) (fI C g') := by
  intro is av H x y dx dy Qd hi ha rx ry h Q q
  cases dx <;> try exact h.elim
  cases dy <;> try exact h.elim
  cases rx
  cases ry
  exact ⟨_, _, rfl, rfl, h.1, q _ H _ h.2 (fun _ _ z => z) (hg _ _).rp⟩
def fI0 (g : Int → Int → D) : D → D → (D → Prop) → Prop
  | .int i, .int j, Q => Q (g i j)
  | _, _, _ => False
theorem opI0 {g : Int → Int → V} {g' : Int → Int → D} (hg : ∀ i j, Atom (g i j) (g' i j)) : OpS K (rI0 g) (fI0 g') := by
  intro is av H x y dx dy Qd hi ha rx ry h Q q
  cases dx <;> try exact h.elim
  cases dy <;> try exact h.elim
  cases rx
  cases ry
  exact ⟨_, _, rfl, rfl, q _ H _ h (fun _ _ z => z) (hg _ _).rp⟩
def rAdd2 : R2 := fun x y H Q => rI0 (fun i j => .int (i + j)) x y H Q ∨ (∃ i j, x = .str i ∧ y = .str j ∧ i.length + j.length ≤ sizeLine ∧ Q (.str (i ++ j)) H)
def fAdd : D → D → (D → Prop) → Prop
  | .int i, .int j, Q => Q (.int (i + j))
  | .str i, .str j, Q => i.length + j.length ≤ sizeLine ∧ Q (.str (i ++ j))
  | _, _, _ => False
theorem opAdd : OpS K rAdd2 fAdd := by
  intro is av H x y dx dy Qd hi ha rx ry h Q q
  cases dx <;> try exact h.elim
  · cases dy <;> try exact h.elim
    cases rx
    cases ry
    exact .inl ⟨_, _, rfl, rfl, q _ H _ h (fun _ _ z => z) (.int _)⟩
  · cases dy <;> try exact h.elim
    cases rx
    cases ry
    exact .inr ⟨_, _, rfl, rfl, h.1, q _ H _ h.2 (fun _ _ z => z) (.str _)⟩
theorem de_add (ha : DR X K W c1 a wa) (hb : DR X K W c2 b wb) : DE X K W (c1 + c2) (.BinOp a .Add b pos) (w2 fAdd wa wb) := two opAdd (fun _ _ _ pa pb => pe_op (op_add.or op_add_str) pa pb) ha hb
theorem de_sub (ha : DR X K W c1 a wa) (hb : DR X K W c2 b wb) : DE X K W (c1 + c2) (.BinOp a .Sub b pos) (w2 (fI0 fun i j => .int (i - j)) wa wb) := two (opI0 fun _ _ => .int _) (fun _ _ _ pa pb => pe_op op_sub pa pb) ha hb
theorem de_mul (ha : DR X K W c1 a wa) (hb : DR X K W c2 b wb) : DE X K W (c1 + c2) (.BinOp a .Mult b pos) (w2 (fI CMul fun i j => .int (i * j)) wa wb) := two (opI fun _ _ => .int _) (fun _ _ _ pa pb => pe_op op_mul pa pb) ha hb
theorem de_mod (ha : DR X K W c1 a wa) (hb : DR X K W c2 b wb) : DE X K W (c1 + c2) (.BinOp a .Mod b pos) (w2 (fI (fun _ j => 0 < j) fun i j => .int (i % j)) wa wb) := two (opI fun _ _ => .int _) (fun _ _ _ pa pb => pe_op op_mod pa pb) ha hb
theorem de_fdiv (ha : DR X K W c1 a wa) (hb : DR X K W c2 b wb) : DE X K W (c1 + c2) (.BinOp a .FloorDiv b pos) (w2 (fI CDiv fun i j => .int (i / j)) wa wb) := two (opI fun _ _ => .int _) (fun _ _ _ pa pb => pe_op op_fdiv pa pb) ha hb
theorem de_pow (ha : DR X K W c1 a wa) (hb : DR X K W c2 b wb) : DE X K W (c1 + c2) (.BinOp a .Pow b pos) (w2 (fI CPow fun i j => .int (i ^ j.toNat)) wa wb) := two (opI fun _ _ => .int _) (fun _ _ _ pa pb => pe_op op_pow pa pb) ha hb
/-- lists: +, * -/
def fCat : D → D → (List D → Prop) → Prop
  | .lst xs, .lst ys, Q => xs.length + ys.length ≤ sizeLine ∧ Q (xs ++ ys)
  | _, _, _ => False
theorem opCat : OpF K rCat fCat := by
  intro is av H x y dx dy Qd hi ha rx ry h Q q
  cases dx <;> try exact h.elim
  cases dy <;> try exact h.elim
  obtain ⟨p, xs, rfl, n1, r1⟩ := rx
  obtain ⟨p2, ys, rfl, n2, r2⟩ := ry
  refine ⟨p, p2, xs, ys, rfl, rfl, n1.1, n2.1, ?_, fun z hz => ?_⟩
  · rw [r1.len, r2.len]
    exact h.1
  · exact q z _ _ h.2 hz (r1.append r2)
theorem df_cat (ha : DR X K W c1 a wa) (hb : DR X K W c2 b wb) : DF X K W (c1 + c2) (.BinOp a .Add b pos) (w2F fCat wa wb) := twoF opCat (fun _ _ _ pa pb => pe_op op_cat pa pb) ha hb
def fRep : D → D → (List D → Prop) → Prop
  | .lst xs, .int k, Q => -(2 ^ 63) ≤ k ∧ k < 2 ^ 63 ∧ xs.length * k.toNat ≤ sizeLine ∧ Q (List.replicate k.toNat xs).flatten
  | _, _, _ => False
theorem rps_rep {K : Fg} {av : Av} {H : Hp} {xs : List V} {ds : List D} (r : Rps K av H xs ds) : ∀ k : Nat, Rps K av H (List.replicate k xs).flatten (List.replicate k ds).flatten
  | 0 => .nil
  | k + 1 => by
    rw [List.replicate_succ, List.replicate_succ, List.flatten_cons, List.flatten_cons]
    exact r.append (rps_rep r k)
theorem opRep : OpF K rRep fRep := by
  intro is av H x y dx dy Qd hi ha rx ry h Q q
  cases dx <;> try exact h.elim
  cases dy <;> try exact h.elim
  obtain ⟨p, xs, rfl, n1, r1⟩ := rx
  cases ry
  refine ⟨p, _, xs, rfl, rfl, n1.1, h.1, h.2.1, ?_, fun z hz => ?_⟩
  · rw [r1.len]
    exact h.2.2.1
  · exact q z _ _ h.2.2.2 hz (rps_rep r1 _)
theorem df_rep (ha : DR X K W c1 a wa) (hb : DR X K W c2 b wb) : DF X K W (c1 + c2) (.BinOp a .Mult b pos) (w2F fRep wa wb) := twoF opRep (fun _ _ _ pa pb => pe_op op_rep pa pb) ha hb
/-! ### comparisons -/
theorem dx_lt (ha : DR X K W c1 a wa) (hb : DR X K W c2 b wb) : DX X K W (c1 + c2) (.Compare a [.Lt] [b] pos) (w2 (fI0 fun i j => .bl (decide (i < j))) wa wb) := twoX (opI0 fun _ _ => .bl _) (fun _ _ _ pa pb => ⟨pe_cmpR op_lt pa pb (nomark _), pt_cmpR op_lt pa pb (nomark _)⟩) ha hb
theorem dx_le (ha : DR X K W c1 a wa) (hb : DR X K W c2 b wb) : DX X K W (c1 + c2) (.Compare a [.LtE] [b] pos) (w2 (fI0 fun i j => .bl (decide (i ≤ j))) wa wb) := twoX (opI0 fun _ _ => .bl _) (fun _ _ _ pa pb => ⟨pe_cmpR op_le pa pb (nomark _), pt_cmpR op_le pa pb (nomark _)⟩) ha hb
theorem dx_gt (ha : DR X K W c1 a wa) (hb : DR X K W c2 b wb) : DX X K W (c1 + c2) (.Compare a [.Gt] [b] pos) (w2 (fI0 fun i j => .bl (decide (j < i))) wa wb) := twoX (opI0 fun _ _ => .bl _) (fun _ _ _ pa pb => ⟨pe_cmpR op_gt pa pb (nomark _), pt_cmpR op_gt pa pb (nomark _)⟩) ha hb
theorem dx_ge (ha : DR X K W c1 a wa) (hb : DR X K W c2 b wb) : DX X K W (c1 + c2) (.Compare a [.GtE] [b] pos) (w2 (fI0 fun i j => .bl (decide (j ≤ i))) wa wb) := twoX (opI0 fun _ _ => .bl _) (fun _ _ _ pa pb => ⟨pe_cmpR op_ge pa pb (nomark _), pt_cmpR op_ge pa pb (nomark _)⟩) ha hb
/-- a < b: ints or texts -/
def rLt2 : R2 := fun x y H Q => rI0 (fun i j => .bl (decide (i < j))) x y H Q ∨ (∃ i j, x = .str i ∧ y = .str j ∧ Q (.bl (decide (i.cps.toList < j.cps.toList))) H)
def fLt : D → D → (D → Prop) → Prop
  | .int i, .int j, Q => Q (.bl (decide (i < j)))
  | .str i, .str j, Q => Q (.bl (decide (i.cps.toList < j.cps.toList)))
  | _, _, _ => False
theorem opLt : OpS K rLt2 fLt := by
  intro is av H x y dx dy Qd hi ha rx ry h Q q
  cases dx <;> try exact h.elim
  · cases dy <;> try exact h.elim
    cases rx
    cases ry
    exact .inl ⟨_, _, rfl, rfl, q _ H _ h (fun _ _ z => z) (.bl _)⟩
  · cases dy <;> try exact h.elim
    cases rx
    cases ry
    exact .inr ⟨_, _, rfl, rfl, q _ H _ h (fun _ _ z => z) (.bl _)⟩
theorem dx_ltS (ha : DR X K W c1 a wa) (hb : DR X K W c2 b wb) : DX X K W (c1 + c2) (.Compare a [.Lt] [b] pos) (w2 fLt wa wb) := twoX opLt (fun _ _ _ pa pb => ⟨pe_cmpR (op_lt.or op_lt_str) pa pb (nomark _), pt_cmpR (op_lt.or op_lt_str) pa pb (nomark _)⟩) ha hb
/-- a == b, a != b of atoms -/
def atomV : D → Option V
  | .non => some .non | .bl b => some (.bl b) | .int i => some (.int i) | .str s => some (.str s) | _ => none
def eqA (g : Bool → Bool) : D → D → (D → Prop) → Prop
  | .non, .non, Q => Q (.bl (g true)) | .non, .int _, Q => Q (.bl (g false)) | .int _, .non, Q => Q (.bl (g false)) | .non, .bl _, Q => Q (.bl (g false)) | .bl _, .non, Q => Q (.bl (g false))
  | .non, .str _, Q => Q (.bl (g false)) | .str _, .non, Q => Q (.bl (g false)) | .int i, .int j, Q => Q (.bl (g (decide (i = j)))) | .bl i, .bl j, Q => Q (.bl (g (decide (i = j)))) | .str i, .str j, Q => Q (.bl (g (decide (i = j))))
  | .int _, .str _, Q => Q (.bl (g false)) | .str _, .int _, Q => Q (.bl (g false)) | .bl _, .str _, Q => Q (.bl (g false)) | .str _, .bl _, Q => Q (.bl (g false))
  | _, _, _ => False
theorem dec_v {α : Type} [DecidableEq α] (f : α → V) (hf : ∀ i j, f i = f j → i = j) (i j : α) : decide (f i = f j) = decide (i = j) := by
  by_cases e : i = j
  · subst e; simp
  · rw [decide_eq_false e, decide_eq_false fun z => e (hf _ _ z)]
theorem opEqA {r : R2} {g : Bool → Bool} (hr : ∀ x y H Q, scal x y = true → Q (.bl (g (decide (x = y)))) H → r x y H Q) : OpS K r (eqA g) := by
  intro is av H x y dx dy Qd hi ha rx ry h Q q
  cases dx <;> try exact h.elim
  all_goals (cases dy <;> try exact h.elim)
  all_goals (cases rx; cases ry)
  all_goals first
    | (refine hr _ _ _ _ rfl (q _ H _ h (fun _ _ z => z) ?_); exact .bl _)
    | (refine hr _ _ _ _ rfl ?_; rw [dec_v V.int fun _ _ z => V.int.inj z]; exact q _ H _ h (fun _ _ z => z) (.bl _))
    | (refine hr _ _ _ _ rfl ?_; rw [dec_v V.str fun _ _ z => V.str.inj z]; exact q _ H _ h (fun _ _ z => z) (.bl _))
    | (refine hr _ _ _ _ rfl ?_; rw [dec_v V.bl fun _ _ z => V.bl.inj z]; exact q _ H _ h (fun _ _ z => z) (.bl _))
theorem dx_eq (ha : DR X K W c1 a wa) (hb : DR X K W c2 b wb) : DX X K W (c1 + c2) (.Compare a [.Eq] [b] pos) (w2 (eqA id) wa wb) := twoX (opEqA fun _ _ _ _ h q => ⟨h, q⟩) (fun _ _ _ pa pb => ⟨pe_cmpR op_eq pa pb (nomark _), pt_cmpR op_eq pa pb (nomark _)⟩) ha hb
theorem dx_ne (ha : DR X K W c1 a wa) (hb : DR X K W c2 b wb) : DX X K W (c1 + c2) (.Compare a [.NotEq] [b] pos) (w2 (eqA not) wa wb) := twoX (opEqA fun _ _ _ _ h q => ⟨h, q⟩) (fun _ _ _ pa pb => ⟨pe_cmpR op_ne pa pb (nomark _), pt_cmpR op_ne pa pb (nomark _)⟩) ha hb
/-- a is None, a is not None -/
def isN : D → Option Bool
  | .non => some true | .obj _ => none | _ => some false
def fIsN (g : Bool → Bool) : D → D → (D → Prop) → Prop := fun x y Q => onO (isN x) fun b => isN y = some true ∧ Q (.bl (g b))
theorem opIsN {r : R2} {g : Bool → Bool} (hr : ∀ x H Q, Q (.bl (g (decide (x = .non)))) H → r x .non H Q) : OpS K r (fIsN g) := by
  intro is av H x y dx dy Qd hi ha rx ry h Q q
  obtain ⟨b, h1, h2, h3⟩ := onO_of h
  obtain rfl : dy = .non := by cases dy <;> first | rfl | (simp [isN] at h2)
  cases ry
  refine hr _ _ _ ?_
  have k : decide (x = V.non) = b := by
    cases dx with
    | obj v => simp [isN] at h1
    | lst xs => obtain ⟨p, xs, rfl, _, _⟩ := rx; simp [isN] at h1; simp [h1]
    | non => cases rx; simp [isN] at h1; simp [h1]
    | bl _ => cases rx; simp [isN] at h1; simp [h1]
    | int _ => cases rx; simp [isN] at h1; simp [h1]
    | str _ => cases rx; simp [isN] at h1; simp [h1]
    | tup _ => cases rx; simp [isN] at h1; simp [h1]
    | dic _ _ => obtain ⟨p, xs, rfl, _, _, _⟩ := rx; simp [isN] at h1; simp [h1]
    | err _ _ => cases rx; simp [isN] at h1; simp [h1]
  rw [k]
  exact q _ H _ h3 (fun _ _ z => z) (.bl _)
theorem dx_isN (ha : DR X K W c1 a wa) (hb : DR X K W c2 b wb) : DX X K W (c1 + c2) (.Compare a [.Is] [b] pos) (w2 (fIsN id) wa wb) := twoX (opIsN fun _ _ _ q => ⟨rfl, q⟩) (fun _ _ _ pa pb => ⟨pe_cmpR op_isN pa pb (nomark _), pt_cmpR op_isN pa pb (nomark _)⟩) ha hb
theorem dx_notN (ha : DR X K W c1 a wa) (hb : DR X K W c2 b wb) : DX X K W (c1 + c2) (.Compare a [.IsNot] [b] pos) (w2 (fIsN not) wa wb) := twoX (opIsN fun _ _ _ q => ⟨rfl, q⟩) (fun _ _ _ pa pb => ⟨pe_cmpR op_notN pa pb (nomark _), pt_cmpR op_notN pa pb (nomark _)⟩) ha hb
end
end DL

namespace DL
open PySem PySem.Spec PyProof.Rows L2
section
variable {ι : Type} {X : ι → Cx} {K : Fg} {W : Ctl} {c c1 c2 c3 : Nat} {e a b t : Expr} {es : List Expr} {w wa wb wc : WE} {wt wu : WT} {wl : WL} {pos p apos cpos : Pos}
/-! ### in -/
def flatD : D → Bool
  | .non => true | .bl _ => true | .int _ => true | .str _ => true | _ => false
def eqD : D → D → Bool
  | .non, .non => true
  | .bl a, .bl b => a == b
  | .bl a, .int b => (if a then 1 else 0) == b
  | .int a, .bl b => a == (if b then 1 else 0)
  | .int a, .int b => a == b
  | .str a, .str b => a == b
  | _, _ => false
def inD (x : D) (xs : List D) : Bool := xs.any fun y => eqD y x
theorem rp_flat {K : Fg} {av : Av} {H : Hp} {v : V} {d : D} (h : Rp K av H v d) (f : flatD d = true) : Atom v d := by
  cases h <;> first | (simp [flatD] at f; done) | constructor
theorem atom_flat {v : V} {d : D} (h : Atom v d) (f : flatD d = true) : flatV v = true := by cases h <;> first | rfl | (simp [flatD] at f; done)
theorem atom_eq {v u : V} {d e : D} (h : Atom v d) (k : Atom u e) (f : flatD d = true) (g : flatD e = true) : eqV v u = eqD d e := by
  cases h <;> first | (simp [flatD] at f; done) | (cases k <;> first | rfl | (simp [flatD] at g; done))
theorem rps_flat {K : Fg} {av : Av} {H : Hp} {x : V} {dx : D} (hx : Atom x dx) (fx : flatD dx = true) : ∀ {vs : List V} {ds : List D}, Rps K av H vs ds → ds.all flatD = true → vs.all flatV = true ∧ inV x vs = inD dx ds
  | _, _, .nil, _ => ⟨rfl, rfl⟩
  | v :: vs, d :: ds, .cons h hs, f => by
    rw [List.all_cons, Bool.and_eq_true] at f
    obtain ⟨h1, h2⟩ := rps_flat hx fx hs f.2
    have a := rp_flat h f.1
    refine ⟨?_, ?_⟩
    · rw [List.all_cons, atom_flat a f.1, h1]; rfl
    · show (eqV v x || inV x vs) = (eqD d dx || inD dx ds)
      rw [h2, atom_eq a hx f.1 fx]
def sign1 : D → Option Nat
  | .str s => match s.cps.toList with
    | [c] => some c
    | _ => none
  | _ => none
theorem sign1_of {d : D} {c : Nat} (h : sign1 d = some c) : d = .str ⟨#[c]⟩ := by
  cases d <;> simp only [sign1, reduceCtorEq] at h
  rename_i s
  obtain ⟨a⟩ := s
  obtain ⟨l⟩ := a
  match l, h with
  | [c'], h => cases h; rfl
def fIn (g : Bool → Bool) : D → D → (D → Prop) → Prop := fun x y Q => match y with
  | .str z => onO (sign1 x) fun c => Q (.bl (g (decide (c ∈ z.cps.toList))))
  | .lst ys => flatD x = true ∧ ys.all flatD = true ∧ Q (.bl (g (inD x ys)))
  | .tup ys => flatD x = true ∧ ys.all flatD = true ∧ Q (.bl (g (inD x ys)))
  | _ => False
def rInS (g : Bool → Bool) : R2 := fun x y H Q => ∃ (c : Nat) (z : Str), x = .str ⟨#[c]⟩ ∧ y = .str z ∧ Q (.bl (g (decide (c ∈ z.cps.toList)))) H
theorem opIn {g : Bool → Bool} {neg : Bool} (hg : ∀ b, g b = if neg then !b else b) : OpS K (fun x y H Q => rInS g x y H Q ∨ rIn K neg x y H Q) (fIn g) := by
  intro is av H x y dx dy Qd hi ha rx ry h Q q
  cases dy <;> try exact h.elim
  · obtain ⟨c, hs, h⟩ := onO_of h
    obtain rfl := sign1_of hs
    cases rx; cases ry
    exact .inl ⟨c, _, rfl, rfl, q _ H _ h (fun _ _ z => z) (.bl _)⟩
  · obtain ⟨f1, f2, h⟩ := h
    obtain ⟨p, xs, rfl, n, r⟩ := ry
    have ax : Atom x dx := by
      cases dx <;> first | (simp [flatD] at f1; done) | exact rp_flat (K := K) (av := av) (H := H) rx f1
    obtain ⟨k1, k2⟩ := rps_flat ax f1 r f2
    refine .inr ⟨p, xs, rfl, .inl n.sq, atom_flat ax f1, k1, ?_⟩
    have e := (hg (inV x xs)).symm
    rw [show (if neg = true then !inV x xs else inV x xs) = g (inV x xs) from e, k2]
    exact q _ H _ h (fun _ _ z => z) (.bl _)
  · obtain ⟨f1, f2, h⟩ := h
    cases ry with
    | tup n r =>
      have ax : Atom x dx := by
        cases dx <;> first | (simp [flatD] at f1; done) | exact rp_flat (K := K) (av := av) (H := H) rx f1
      obtain ⟨k1, k2⟩ := rps_flat ax f1 r f2
      refine .inr ⟨_, _, rfl, .inr n.sq, atom_flat ax f1, k1, ?_⟩
      rename_i p xs
      have e := (hg (inV x xs)).symm
      rw [show (if neg = true then !inV x xs else inV x xs) = g (inV x xs) from e, k2]
      exact q _ H _ h (fun _ _ z => z) (.bl _)
theorem dx_in (hK : ∀ i, (X i).K = K) (ha : DR X K W c1 a wa) (hb : DR X K W c2 b wb) (hm : behindInMarks .In b = false := by rfl) : DX X K W (c1 + c2) (.Compare a [.In] [b] pos) (w2 (fIn id) wa wb) :=
  twoX (opIn (neg := false) fun b => rfl) (fun i _ _ pa pb => by rw [← hK i]; exact ⟨pe_cmpR (op_in_sign.or op_in_seq) pa pb hm, pt_cmpR (op_in_sign.or op_in_seq) pa pb hm⟩) ha hb
theorem dx_notIn (hK : ∀ i, (X i).K = K) (ha : DR X K W c1 a wa) (hb : DR X K W c2 b wb) (hm : behindInMarks .NotIn b = false := by rfl) : DX X K W (c1 + c2) (.Compare a [.NotIn] [b] pos) (w2 (fIn not) wa wb) :=
  twoX (opIn (neg := true) fun b => rfl) (fun i _ _ pa pb => by rw [← hK i]; exact ⟨pe_cmpR (op_notIn_sign.or op_notIn_seq) pa pb hm, pt_cmpR (op_notIn_sign.or op_notIn_seq) pa pb hm⟩) ha hb
/-! ### a <= b <= c -/
def wChain (f f' : D → D → (D → Prop) → Prop) (wa wb wc : WE) : WE := fun G ed Q => wa G ed fun x => wb G ed fun y => f x y fun d => onB d fun k => fork k (wc G ed fun z => f' y z Q) (Q (.bl false))
theorem dx_chain {op op' : CmpOp} {r r' : R2} {f f' : D → D → (D → Prop) → Prop} (ho : ∀ i, OpR (X i) (compareOp op) r) (ho' : ∀ i, OpR (X i) (compareOp op') r') (hf : OpS K r f) (hf' : OpS K r' f') (ha : DR X K W c1 a wa) (hb : DR X K W c2 b wb) (hc : DR X K W c3 t wc)
    (hm : lastMarks [op, op'] [b, t] = false := by with_unfolding_all rfl) : DX X K W (c1 + c2 + c3) (.Compare a [op, op'] [b, t] pos) (wChain f f' wa wb wc) := by
  obtain ⟨ta, pa, sa⟩ := ha
  obtain ⟨tb, pb, sb⟩ := hb
  obtain ⟨tc, pc, sc⟩ := hc
  refine ⟨_, fun i => ⟨pe_chain (ho i) (ho' i) (pa i) (pb i) (pc i) hm, pt_chain (ho i) (ho' i) (pa i) (pb i) (pc i) hm⟩, fun P av H0 ed hw n H σ G Qd L h Q q => ?_⟩
  refine sa P av H0 ed hw (n + c2 + c3) H σ G _ (L.le (by omega)) h _ fun x H1 dx hx L1 e1 r1 => ?_
  refine sb P av H0 ed hw (n + c3) H1 σ G _ (L1.le (by omega)) hx _ fun y H2 dy hy L2 e2 r2 => ?_
  refine hf P.is (avo av σ G) H2 x y dx dy _ (fun _ => L2.isAvo) (fun _ => L2.avoNe) (r1.ext e2 fun _ => L2.isAvo) r2 hy _ fun v H3 d hd ex rv => ?_
  obtain ⟨k, rfl, hk⟩ := onB_of hd
  cases rv
  refine ⟨k, rfl, ?_⟩
  have e3 := e1.trans (e2.trans (Ex.ext (is := P.is) ex))
  cases k with
  | false => rw [fork_ff] at hk; exact q _ H3 _ hk ((L2.growEx ex).le (by omega)) e3 (.bl _)
  | true =>
    rw [fork_tt] at hk
    refine sc P av H0 ed hw n H3 σ G _ ((L2.growEx ex).le (by omega)) hk _ fun z H4 dz hz L4 e4 r4 => ?_
    refine hf' P.is (avo av σ G) H4 y z dy dz Qd (fun _ => L4.isAvo) (fun _ => L4.avoNe) ((r2.ext (Ex.ext ex) fun _ => L2.isAvo).ext e4 fun _ => L4.isAvo) r4 hz Q fun v H5 d hd ex5 rv5 => ?_
    exact q v H5 d hd (L4.growEx ex5) (e3.trans (e4.trans (Ex.ext ex5))) rv5
theorem dx_lele (ha : DR X K W c1 a wa) (hb : DR X K W c2 b wb) (hc : DR X K W c3 t wc) (hm : lastMarks [.LtE, .LtE] [b, t] = false := by with_unfolding_all rfl) :
    DX X K W (c1 + c2 + c3) (.Compare a [.LtE, .LtE] [b, t] pos) (wChain (fI0 fun i j => .bl (decide (i ≤ j))) (fI0 fun i j => .bl (decide (i ≤ j))) wa wb wc) :=
  dx_chain (fun _ => op_le) (fun _ => op_le) (opI0 fun _ _ => .bl _) (opI0 fun _ _ => .bl _) ha hb hc hm
theorem dx_lelt (ha : DR X K W c1 a wa) (hb : DR X K W c2 b wb) (hc : DR X K W c3 t wc) (hm : lastMarks [.LtE, .Lt] [b, t] = false := by with_unfolding_all rfl) :
    DX X K W (c1 + c2 + c3) (.Compare a [.LtE, .Lt] [b, t] pos) (wChain (fI0 fun i j => .bl (decide (i ≤ j))) (fI0 fun i j => .bl (decide (i < j))) wa wb wc) :=
  dx_chain (fun _ => op_le) (fun _ => op_lt) (opI0 fun _ _ => .bl _) (opI0 fun _ _ => .bl _) ha hb hc hm
/-! ### tests -/
theorem dt_val (h : DE X K W c e w) (he : ∀ i whole, isTrue e (X i).env whole = (do let v ← whole; standAt e.pos; holding [v] (truthy v)) := by intro _ _; rfl) : DT X K W c e (wB w) := by
  obtain ⟨te, pe, s⟩ := h
  refine ⟨_, fun i => pt_val (pe i) (he i), fun P av H0 ed hw n H σ G Qd L h Q q => s P av H0 ed hw n H σ G _ L h _ fun v H' d hd L' e' r => ?_⟩
  obtain ⟨b, rfl, hb⟩ := onB_of hd
  cases r
  exact ⟨b, rfl, q b H' hb L' e'⟩
/-- by truth -/
def truD : D → Option Bool
  | .non => some false | .bl b => some b | .int i => some (i != 0) | .lst xs => some (!xs.isEmpty) | .tup xs => some (!xs.isEmpty) | _ => none
def wTru (w : WE) : WT := fun G ed Q => w G ed fun d => onO (truD d) Q
theorem isEmpty_len {α β : Type} {xs : List α} {ys : List β} (h : xs.length = ys.length) : xs.isEmpty = ys.isEmpty := by
  cases xs <;> cases ys <;> simp at h ⊢
theorem dt_truth (hK : ∀ i, (X i).K = K) (h : DR X K W c e w) (he : ∀ i whole, isTrue e (X i).env whole = (do let v ← whole; standAt e.pos; holding [v] (truthy v)) := by intro _ _; rfl) : DT X K W c e (wTru w) := by
  obtain ⟨te, pe, s⟩ := h
  refine ⟨fun σ H Q => te σ H fun x H' => ∃ k, TruV K x H' k ∧ Q k H', fun i => (by rw [← hK i]; exact pt_truth (pe i) (he i)), fun P av H0 ed hw n H σ G Qd L h Q q => s P av H0 ed hw n H σ G _ L h _ fun v H' d hd L' e' r => ?_⟩
  obtain ⟨b, hb, hq⟩ := onO_of hd
  refine ⟨b, ?_, q b H' hq L' e'⟩
  cases d <;> simp only [truD, Option.some.injEq, reduceCtorEq] at hb
  · cases r; exact hb.symm
  · cases r; exact hb.symm
  · cases r; exact hb.symm
  · obtain ⟨p, xs, rfl, n, r⟩ := r
    exact .inl ⟨xs, n.sq, by rw [isEmpty_len r.len]; exact hb.symm⟩
  · cases r with
    | tup n r => exact .inr (.inl ⟨_, n.sq, by rw [isEmpty_len r.len]; exact hb.symm⟩)
def wAnd (t u : WT) : WT := fun G ed Q => t G ed fun b => fork b (u G ed Q) (Q false)
def wOr (t u : WT) : WT := fun G ed Q => t G ed fun b => fork b (Q true) (u G ed Q)
def wNot (t : WT) : WT := fun G ed Q => t G ed fun b => Q (!b)
/-- chains of and, or as tests -/
def DW {ι : Type} (X : ι → Cx) (K : Fg) (W : Ctl) (c : Nat) (e : Expr) (w : WT) : Prop := ∃ tt, (∀ i, PW (X i) e tt) ∧ ∀ (P : Pn) (av : Av) (H0 : Hp) (ed : Value → Prop), HW W P H0 ed → ∀ (n : Nat) (H : Hp) (σ : Sg) (G : Gm) (Qd : Bool → Prop),
  LocOk P K av H0 (n + c) H σ G → w G ed Qd → ∀ Q : Bool → Hp → Prop, (∀ b H', Qd b → LocOk P K av H0 n H' σ G → Ext P.is H H' → Q b H') → tt σ H Q
theorem DW.dt (h : DW X K W c e wt) : DT X K W c e wt := by
  obtain ⟨tt, pw, s⟩ := h
  exact ⟨tt, fun i => (pw i).pt, s⟩
theorem dw_and1 (h : DT X K W c a wt) : DW X K W c (.BoolOp .And [a] pos) wt := by
  obtain ⟨tt, pt, s⟩ := h
  exact ⟨tt, fun i => pw_and1 (pt i), s⟩
theorem dw_or1 (h : DT X K W c a wt) : DW X K W c (.BoolOp .Or [a] pos) wt := by
  obtain ⟨tt, pt, s⟩ := h
  exact ⟨tt, fun i => pw_or1 (pt i), s⟩
theorem dw_and (ha : DT X K W c1 a wt) (hb : DW X K W c2 (.BoolOp .And (b :: es) pos) wu) : DW X K W (c1 + c2) (.BoolOp .And (a :: b :: es) pos) (wAnd wt wu) := by
  obtain ⟨ta, pa, sa⟩ := ha
  obtain ⟨tb, pb, sb⟩ := hb
  refine ⟨_, fun i => pw_and (pa i) (pb i), fun P av H0 ed hw n H σ G Qd L h Q q => ?_⟩
  refine sa P av H0 ed hw (n + c2) H σ G _ (L.le (by omega)) h _ fun k H1 hk L1 e1 => ?_
  cases k with
  | false => rw [fork_ff] at hk; exact q _ _ hk (L1.le (by omega)) e1
  | true => rw [fork_tt] at hk; exact sb P av H0 ed hw n H1 σ G _ (L1.le (by omega)) hk _ fun k2 H2 hk2 L2 e2 => q _ _ hk2 L2 (e1.trans e2)
theorem dw_or (ha : DT X K W c1 a wt) (hb : DW X K W c2 (.BoolOp .Or (b :: es) pos) wu) : DW X K W (c1 + c2) (.BoolOp .Or (a :: b :: es) pos) (wOr wt wu) := by
  obtain ⟨ta, pa, sa⟩ := ha
  obtain ⟨tb, pb, sb⟩ := hb
  refine ⟨_, fun i => pw_or (pa i) (pb i), fun P av H0 ed hw n H σ G Qd L h Q q => ?_⟩
  refine sa P av H0 ed hw (n + c2) H σ G _ (L.le (by omega)) h _ fun k H1 hk L1 e1 => ?_
  cases k with
  | true => rw [fork_tt] at hk; exact q _ _ hk (L1.le (by omega)) e1
  | false => rw [fork_ff] at hk; exact sb P av H0 ed hw n H1 σ G _ (L1.le (by omega)) hk _ fun k2 H2 hk2 L2 e2 => q _ _ hk2 L2 (e1.trans e2)
theorem dt_not (h : DT X K W c a wt) : DT X K W c (.UnaryOp .Not a pos) (wNot wt) := by
  obtain ⟨tt, pt, s⟩ := h
  exact ⟨_, fun i => pt_not (pt i), fun P av H0 ed hw n H σ G Qd L h Q q => s P av H0 ed hw n H σ G _ L h _ fun k H1 hk L1 e1 => q _ _ hk L1 e1⟩
/-! ### and, or, not, if as values -/
def wAndV (wa wb : WE) : WE := fun G ed Q => wa G ed fun d => onB d fun k => fork k (wb G ed Q) (Q (.bl false))
def wOrV (wa wb : WE) : WE := fun G ed Q => wa G ed fun d => onB d fun k => fork k (Q (.bl true)) (wb G ed Q)
def wNotV (wa : WE) : WE := fun G ed Q => wa G ed fun d => onB d fun k => Q (.bl (!k))
theorem de_one {op} (h : DE X K W c a w) : DE X K W c (.BoolOp op [a] pos) w := by
  obtain ⟨te, pe, s⟩ := h
  exact ⟨te, fun i => pe_one (pe i), s⟩
theorem de_and (ha : DE X K W c1 a wa) (hb : DE X K W c2 (.BoolOp .And (b :: es) pos) wb) : DE X K W (c1 + c2) (.BoolOp .And (a :: b :: es) pos) (wAndV wa wb) := by
  obtain ⟨ta, pa, sa⟩ := ha
  obtain ⟨tb, pb, sb⟩ := hb
  refine ⟨_, fun i => pe_and (pa i) (pb i), fun P av H0 ed hw n H σ G Qd L h Q q => ?_⟩
  refine sa P av H0 ed hw (n + c2) H σ G _ (L.le (by omega)) h _ fun x H1 dx hx L1 e1 r1 => ?_
  obtain ⟨k, rfl, hk⟩ := onB_of hx
  cases r1
  refine ⟨k, rfl, ?_⟩
  cases k with
  | false => rw [fork_ff] at hk; exact q _ _ _ hk (L1.le (by omega)) e1 (.bl _)
  | true => rw [fork_tt] at hk; exact sb P av H0 ed hw n H1 σ G _ (L1.le (by omega)) hk _ fun y H2 dy hy L2 e2 r2 => q _ _ _ hy L2 (e1.trans e2) r2
theorem de_or (ha : DE X K W c1 a wa) (hb : DE X K W c2 (.BoolOp .Or (b :: es) pos) wb) : DE X K W (c1 + c2) (.BoolOp .Or (a :: b :: es) pos) (wOrV wa wb) := by
  obtain ⟨ta, pa, sa⟩ := ha
  obtain ⟨tb, pb, sb⟩ := hb
  refine ⟨_, fun i => pe_or (pa i) (pb i), fun P av H0 ed hw n H σ G Qd L h Q q => ?_⟩
  refine sa P av H0 ed hw (n + c2) H σ G _ (L.le (by omega)) h _ fun x H1 dx hx L1 e1 r1 => ?_
  obtain ⟨k, rfl, hk⟩ := onB_of hx
  cases r1
  refine ⟨k, rfl, ?_⟩
  cases k with
  | true => rw [fork_tt] at hk; exact q _ _ _ hk (L1.le (by omega)) e1 (.bl _)
  | false => rw [fork_ff] at hk; exact sb P av H0 ed hw n H1 σ G _ (L1.le (by omega)) hk _ fun y H2 dy hy L2 e2 r2 => q _ _ _ hy L2 (e1.trans e2) r2
theorem de_not (h : DE X K W c a w) : DE X K W c (.UnaryOp .Not a pos) (wNotV w) := by
  obtain ⟨te, pe, s⟩ := h
  refine ⟨_, fun i => pe_not (pe i), fun P av H0 ed hw n H σ G Qd L h Q q => s P av H0 ed hw n H σ G _ L h _ fun x H1 dx hx L1 e1 r1 => ?_⟩
  obtain ⟨k, rfl, hk⟩ := onB_of hx
  cases r1
  exact ⟨k, rfl, q _ _ _ hk L1 e1 (.bl _)⟩
def wIf (t : WT) (wa wb : WE) : WE := fun G ed Q => t G ed fun b => fork b (wa G ed Q) (wb G ed Q)
theorem de_if (hc : DT X K W c t wt) (ha : DE X K W c1 a wa) (hb : DE X K W c2 b wb) : DE X K W (c + (c1 + c2)) (.IfExp t a b pos) (wIf wt wa wb) := by
  obtain ⟨tt, pt, s⟩ := hc
  obtain ⟨ta, pa, sa⟩ := ha
  obtain ⟨tb, pb, sb⟩ := hb
  refine ⟨_, fun i => pe_ifExp (pt i) (pa i) (pb i), fun P av H0 ed hw n H σ G Qd L h Q q => s P av H0 ed hw (n + (c1 + c2)) H σ G _ (L.le (by omega)) h _ fun k H1 hk L1 e1 => ?_⟩
  cases k with
  | true => rw [fork_tt] at hk; exact sa P av H0 ed hw n H1 σ G _ (L1.le (by omega)) hk _ fun y H2 dy hy L2 e2 r2 => q _ _ _ hy L2 (e1.trans e2) r2
  | false => rw [fork_ff] at hk; exact sb P av H0 ed hw n H1 σ G _ (L1.le (by omega)) hk _ fun y H2 dy hy L2 e2 r2 => q _ _ _ hy L2 (e1.trans e2) r2
def wIfF (t : WT) (wa wb : WL) : WL := fun G ed Q => t G ed fun b => fork b (wa G ed Q) (wb G ed Q)
theorem df_if {wa wb : WL} (hc : DT X K W c t wt) (ha : DF X K W c1 a wa) (hb : DF X K W c2 b wb) : DF X K W (c + (c1 + c2)) (.IfExp t a b pos) (wIfF wt wa wb) := by
  obtain ⟨tt, pt, s⟩ := hc
  obtain ⟨ta, pa, sa⟩ := ha
  obtain ⟨tb, pb, sb⟩ := hb
  refine ⟨_, fun i => pe_ifExp (pt i) (pa i) (pb i), fun P av H0 ed hw n H σ G Qd L h Q q => s P av H0 ed hw (n + (c1 + c2)) H σ G _ (L.le (by omega)) h _ fun k H1 hk L1 e1 => ?_⟩
  have back : ∀ p H2, LocOk P K av H0 n H2 σ G → Ext P.is H1 H2 → H1 p = none → H p = none := fun p H2 L2 e2 z => e1.none (fun i => L1.avNe (L1.pav _ i) z) z
  cases k with
  | true => rw [fork_tt] at hk; exact sa P av H0 ed hw n H1 σ G _ (L1.le (by omega)) hk _ fun y xs H2 dy hy L2 e2 hn hp r2 => q _ _ _ _ hy L2 (e1.trans e2) (back y H2 L2 e2 hn) hp r2
  | false => rw [fork_ff] at hk; exact sb P av H0 ed hw n H1 σ G _ (L1.le (by omega)) hk _ fun y xs H2 dy hy L2 e2 hn hp r2 => q _ _ _ _ hy L2 (e1.trans e2) (back y H2 L2 e2 hn) hp r2
/-! ### arguments, displays -/
def wNil : WL := fun _ _ Q => Q []
def wCons (wa : WE) (wl : WL) : WL := fun G ed Q => wa G ed fun d => wl G ed fun ds => Q (d :: ds)
theorem da_nil : DA X K W 0 [] wNil := ⟨_, fun _ => pa_nil, fun P av H0 ed hw n H σ G Qd L h Q q => q _ _ _ h L (.refl _ _) .nil⟩
theorem da_cons (ha : DE X K W c1 e wa) (hr : DA X K W c2 es wl) (hs : ∀ i, starEach (e :: es) (X i).env = (false, eval e (X i).env) :: starEach es (X i).env := by intro _; rfl) : DA X K W (c1 + c2) (e :: es) (wCons wa wl) := by
  obtain ⟨ta, pa, sa⟩ := ha
  obtain ⟨tb, pb, sb⟩ := hr
  refine ⟨_, fun i => pa_cons (pa i) (pb i) (hs i), fun P av H0 ed hw n H σ G Qd L h Q q => ?_⟩
  refine sa P av H0 ed hw (n + c2) H σ G _ (L.le (by omega)) h _ fun x H1 dx hx L1 e1 r1 => ?_
  exact sb P av H0 ed hw n H1 σ G _ (L1.le (by omega)) hx _ fun y H2 dy hy L2 e2 r2 => q _ _ _ hy L2 (e1.trans e2) (.cons (r1.ext e2 (fun _ => L2.isAvo) fun _ _ z => z) r2)
theorem db_nil : DB X K W 0 [] wNil := ⟨_, fun _ => pa_nil, fun P av H0 ed hw n H σ G Qd L h Q q => q _ _ _ h L (.refl _ _) .nil⟩
theorem db_cons (ha : DR X K W c1 e wa) (hr : DB X K W c2 es wl) (hs : ∀ i, starEach (e :: es) (X i).env = (false, eval e (X i).env) :: starEach es (X i).env := by intro _; rfl) : DB X K W (c1 + c2) (e :: es) (wCons wa wl) := by
  obtain ⟨ta, pa, sa⟩ := ha
  obtain ⟨tb, pb, sb⟩ := hr
  refine ⟨_, fun i => pa_cons (pa i) (pb i) (hs i), fun P av H0 ed hw n H σ G Qd L h Q q => ?_⟩
  refine sa P av H0 ed hw (n + c2) H σ G _ (L.le (by omega)) h _ fun x H1 dx hx L1 e1 r1 => ?_
  exact sb P av H0 ed hw n H1 σ G _ (L1.le (by omega)) hx _ fun y H2 dy hy L2 e2 r2 => q _ _ _ hy L2 (e1.trans e2) (.cons (r1.ext e2 fun _ => L2.isAvo) r2)
def wSz (wl : WL) : WL := fun G ed Q => wl G ed fun ds => ds.length ≤ sizeLine ∧ Q ds
theorem df_lst (h : DA X K W c es wl) : DF X K W c (.List es pos) (wSz wl) := by
  obtain ⟨ta, pa, s⟩ := h
  refine ⟨_, fun i => pe_lst (pa i), fun P av H0 ed hw n H σ G Qd L h Q q => s P av H0 ed hw n H σ G _ L h _ fun vs H1 ds hd L1 e1 r1 => ⟨by rw [r1.len]; exact hd.1, fun p hp => ?_⟩⟩
  have ni : ¬ P.is p := fun z => L1.avNe (L1.pav _ z) hp
  exact q p vs _ ds hd.2 (L1.new hp) (e1.trans (.new hp)) (e1.none ni hp) upd_same (r1.ext (is := P.is) (.new hp) (fun _ => L1.isAvo) (avp_of hp))
def wTup (wl : WL) : WE := fun G ed Q => wl G ed fun ds => ds.length ≤ sizeLine ∧ Q (.tup ds)
theorem de_tup {x1} (h : DA X K W c es wl) : DE X K W c (.Tuple es x1 pos) (wTup wl) := by
  obtain ⟨ta, pa, s⟩ := h
  refine ⟨_, fun i => pe_tup (pa i), fun P av H0 ed hw n H σ G Qd L h Q q => s P av H0 ed hw n H σ G _ L h _ fun vs H1 ds hd L1 e1 r1 => ⟨by rw [r1.len]; exact hd.1, fun p hp => ?_⟩⟩
  exact q _ _ _ hd.2 (L1.new hp) (e1.trans (.new hp)) (.tup (.inl ⟨upd_same, fun z => L1.avoNe z hp⟩) (r1.ext (is := P.is) (.new hp) (fun _ => L1.isAvo) fun _ _ z => z))
/-! ### built-ins by name -/
def CaS (K : Fg) (r : List V → Hp → VK → Prop) (f : List D → (D → Prop) → Prop) : Prop := ∀ (is av : Av) (H : Hp) (xs : List V) (ds : List D) (Qd : D → Prop), (∀ a, is a → av a) → (∀ a, av a → H a ≠ none) → Rqs K is av H xs ds → f ds Qd →
  ∀ Q : VK, (∀ v H' d, Qd d → Ex H H' → Rp K av H' v d → Q v H') → r xs H Q
def CaF (K : Fg) (r : List V → Hp → VK → Prop) (f : List D → (List D → Prop) → Prop) : Prop := ∀ (is av : Av) (H : Hp) (xs : List V) (ds : List D) (Qd : List D → Prop), (∀ a, is a → av a) → (∀ a, av a → H a ≠ none) → Rqs K is av H xs ds → f ds Qd →
  ∀ Q : VK, (∀ p zs es, Qd es → H p = none → Rps K av H zs es → Q (.ref p) (upd H p (.lst zs))) → r xs H Q
def wCb (f : List D → (D → Prop) → Prop) (wl : WL) : WE := fun G ed Q => wl G ed fun ds => f ds Q
def wCbF (f : List D → (List D → Prop) → Prop) (wl : WL) : WL := fun G ed Q => wl G ed fun ds => f ds Q
theorem de_cb {r : List V → Hp → VK → Prop} {f : List D → (D → Prop) → Prop} (hf : CaS K r f) (pe : ∀ i t, PA (X i) es t → PE (X i) e (tCB r t)) (h : DB X K W c es wl) : DE X K W c e (wCb f wl) := by
  obtain ⟨ta, pa, s⟩ := h
  refine ⟨_, fun i => pe i _ (pa i), fun P av H0 ed hw n H σ G Qd L h Q q => s P av H0 ed hw n H σ G _ L h _ fun vs H1 ds hd L1 e1 r1 => ?_⟩
  exact hf P.is (avo av σ G) H1 vs ds Qd (fun _ => L1.isAvo) (fun _ => L1.avoNe) r1 hd Q fun v H2 d hd ex rv => q v H2 d hd (L1.growEx ex) (e1.trans (Ex.ext ex)) rv
theorem df_cb {r : List V → Hp → VK → Prop} {f : List D → (List D → Prop) → Prop} (hf : CaF K r f) (pe : ∀ i t, PA (X i) es t → PE (X i) e (tCB r t)) (h : DB X K W c es wl) : DF X K W c e (wCbF f wl) := by
  obtain ⟨ta, pa, s⟩ := h
  refine ⟨_, fun i => pe i _ (pa i), fun P av H0 ed hw n H σ G Qd L h Q q => s P av H0 ed hw n H σ G _ L h _ fun vs H1 ds hd L1 e1 r1 => ?_⟩
  refine hf P.is (avo av σ G) H1 vs ds Qd (fun _ => L1.isAvo) (fun _ => L1.avoNe) r1 hd Q fun p zs es hd hp rv => ?_
  have ni : ¬ P.is p := fun z => L1.avNe (L1.pav _ z) hp
  exact q p zs _ es hd (L1.new hp) (e1.trans (.new hp)) (e1.none ni hp) upd_same (rv.ext (is := P.is) (.new hp) (fun _ => L1.isAvo) (avp_of hp))
/-- len -/
def fLen : List D → (D → Prop) → Prop
  | [.lst xs], Q => Q (.int xs.length)
  | [.tup xs], Q => Q (.int xs.length)
  | [.str s], Q => s.length ≤ sizeLine ∧ Q (.int s.length)
  | _, _ => False
theorem caLen : CaS K (fun xs H Q => ∃ x n, xs = [x] ∧ LenV K x H n ∧ Q (.int n) H) fLen := by
  intro is av H xs ds Qd hi ha r h Q q
  unfold fLen at h
  split at h
  · cases r with
    | cons r rr =>
      cases rr
      obtain ⟨p, xs, rfl, n1, r⟩ := r
      exact ⟨_, _, rfl, .inl ⟨xs, n1.sq, r.len.symm⟩, q _ H _ h (fun _ _ z => z) (.int _)⟩
  · cases r with
    | cons r rr =>
      cases rr
      cases r with
      | tup n1 r => exact ⟨_, _, rfl, .inr ⟨_, n1.sq, r.len.symm⟩, q _ H _ h (fun _ _ z => z) (.int _)⟩
  · cases r with
    | cons r rr =>
      cases rr
      cases r
      exact ⟨_, _, rfl, ⟨h.1, rfl⟩, q _ H _ h.2 (fun _ _ z => z) (.int _)⟩
  · exact h.elim
theorem de_len (hK : ∀ i, (X i).K = K) (hm : ∀ i, (X i).mg "len" = none) (h : DB X K W c [e] wl) (hg : ∀ i, Gl (X i) "len" := by intro _; rfl) (he : ∀ i, starEach [e] (X i).env = (false, eval e (X i).env) :: starEach [] (X i).env := by intro _; rfl) : DE X K W c (.Call (.Name "len" p) [e] [] pos) (wCb fLen wl) :=
  de_cb caLen (fun i _ pa => by rw [← hK i]; exact pe_callB call_len (hg i) (hm i) PySem.boot_len pa (by decide) (by decide) (he i)) h
/-- isinstance(x, T), T a built-in class -/
def tyD : D → Option String
  | .non => some "NoneType" | .bl _ => some "bool" | .int _ => some "int" | .str _ => some "str" | .lst _ => some "list" | .tup _ => some "tuple" | .dic _ _ => some "dict" | .obj _ => none | .err _ _ => none
def isiD (d : D) (n : String) : Option Bool := (tyD d).bind fun m => kitB m n
def fIsi : List D → (D → Prop) → Prop
  | [d, .obj (.ty n)], Q => onO (isiD d n) fun b => Q (.bl b)
  | _, _ => False
theorem caIsi : CaS K (rIsi K) fIsi := by
  intro is av H xs ds Qd hi ha r h Q q
  obtain ⟨d, n, rfl⟩ : ∃ d n, ds = [d, .obj (.ty n)] := by
    unfold fIsi at h
    split at h
    · exact ⟨_, _, rfl⟩
    · exact h.elim
  obtain ⟨b, hb, h⟩ := onO_of h
  obtain ⟨m, hm, hk⟩ := Option.bind_eq_some_iff.mp hb
  cases r with
  | cons r rr =>
    cases rr with
    | cons r2 rr =>
      cases rr
      cases r2
      rename_i v
      have ty : TyX K H v (.type m) := by
        cases d <;> simp only [tyD, Option.some.injEq, reduceCtorEq] at hm <;> subst hm
        · cases r; exact .base .non
        · cases r; exact .base (.bl _)
        · cases r; exact .base (.int _)
        · cases r; exact .base (.str _)
        · obtain ⟨p, xs, rfl, n1, r⟩ := r; exact .base (.lst n1.1)
        · cases r with
          | tup n1 r =>
            rcases n1 with n1 | ⟨o, its, k, e1, e2, _⟩
            · exact .base (.tup n1.1)
            · exact .kTuple e1 e2
        · obtain ⟨p, xs, rfl, n1, _, r⟩ := r; exact .base (.dK n1.1)
      exact ⟨v, .ty n, .type m, .type n, b, rfl, .ty n, ty, kit_ty hk, q _ H _ h (fun _ _ z => z) (.bl _)⟩
theorem de_isi {e2 : Expr} (hK : ∀ i, (X i).K = K) (hm : ∀ i, (X i).mg "isinstance" = none) (h : DB X K W c [e, e2] wl) (hg : ∀ i, Gl (X i) "isinstance" := by intro _; rfl) (he : ∀ i, starEach [e, e2] (X i).env = (false, eval e (X i).env) :: starEach [e2] (X i).env := by intro _; rfl) (hpl : ∀ i, (backTo pos (starEach [e2] (X i).env)).any (·.1) = false := by intro _; rfl) :
    DE X K W c (.Call (.Name "isinstance" p) [e, e2] [] pos) (wCb fIsi wl) :=
  de_cb caIsi (fun i _ pa => by rw [← hK i]; exact pe_callB call_isi (hg i) (hm i) (by decide +kernel) pa (by decide) (by decide) (he i) (hpl i)) h
theorem de_ty {x : Str} {n : String} (hm : ∀ i, (X i).mg x = none) (hv : bootBuiltins x = some (.type n)) (hg : ∀ i, Gl (X i) x := by intro _; rfl) (hn : x ≠ "__name__" := by decide) (hd : (x == ("__debug__" : Str)) = false := by decide) : DE X K W 0 (.Name x pos) (wC (.obj (.ty n))) :=
  de_c (fun i => pe_bltn (v := .ty n) (hg i) (hm i) hv rfl hn hd) (.obj _)
/-- all, any of a list of bools -/
def fAll (g : List Bool → Bool) : List D → (D → Prop) → Prop := fun ds Q => ∃ bs : List Bool, ds = [.lst (bs.map .bl)] ∧ Q (.bl (g bs))
theorem rps_bl {K : Fg} {av : Av} {H : Hp} : ∀ {bs : List Bool} {xs : List V}, Rps K av H xs (bs.map .bl) → xs = bs.map V.bl
  | [], _, h => by cases h; rfl
  | b :: bs, _, h => by
    cases h with
    | cons h hs =>
      cases h
      rw [rps_bl hs]
      rfl
theorem caAll {g : List Bool → Bool} : CaS K (fun vs H Q => ∃ (a : Addr) (bs : List Bool), vs = [V.ref a] ∧ SqL K H a (bs.map V.bl) ∧ Q (.bl (g bs)) H) (fAll g) := by
  intro is av H xs ds Qd hi ha r h Q q
  obtain ⟨bs, rfl, h⟩ := h
  cases r with
  | cons r rr =>
    cases rr
    obtain ⟨p, ys, rfl, n, r⟩ := r
    rw [rps_bl r] at n
    exact ⟨p, bs, rfl, n.sq, q _ H _ h (fun _ _ z => z) (.bl _)⟩
theorem de_all (hK : ∀ i, (X i).K = K) (hc : ∀ i, (X i).calm = true) (hm : ∀ i, (X i).mg "all" = none) (h : DB X K W c [e] wl) (hg : ∀ i, Gl (X i) "all" := by intro _; rfl) (he : ∀ i, starEach [e] (X i).env = (false, eval e (X i).env) :: starEach [] (X i).env := by intro _; rfl) : DE X K W c (.Call (.Name "all" p) [e] [] pos) (wCb (fAll fun bs => bs.all id) wl) :=
  de_cb caAll (fun i _ pa => by rw [← hK i]; exact pe_callB (cr_all (hc i)) (hg i) (hm i) (by decide +kernel) pa (by decide) (by decide) (he i)) h
theorem de_any (hK : ∀ i, (X i).K = K) (hc : ∀ i, (X i).calm = true) (hm : ∀ i, (X i).mg "any" = none) (h : DB X K W c [e] wl) (hg : ∀ i, Gl (X i) "any" := by intro _; rfl) (he : ∀ i, starEach [e] (X i).env = (false, eval e (X i).env) :: starEach [] (X i).env := by intro _; rfl) : DE X K W c (.Call (.Name "any" p) [e] [] pos) (wCb (fAll fun bs => bs.any id) wl) :=
  de_cb caAll (fun i _ pa => by rw [← hK i]; exact pe_callB (cr_any (hc i)) (hg i) (hm i) (by decide +kernel) pa (by decide) (by decide) (he i)) h
/-- list(xs), tuple(xs) -/
def fListOf : List D → (List D → Prop) → Prop
  | [.lst xs], Q => Q xs
  | [.tup xs], Q => Q xs
  | _, _ => False
theorem fListOf_of {ds : List D} {Q : List D → Prop} (h : fListOf ds Q) : ∃ xs, (ds = [.lst xs] ∨ ds = [.tup xs]) ∧ Q xs := by
  unfold fListOf at h
  split at h
  · exact ⟨_, .inl rfl, h⟩
  · exact ⟨_, .inr rfl, h⟩
  · exact h.elim
theorem caList : CaF K (fun xs H Q => ∃ p ys, xs = [.ref p] ∧ (SqL K H p ys ∨ SqT K H p ys) ∧ ∀ l, H l = none → Q (.ref l) (upd H l (.lst ys))) fListOf := by
  intro is av H xs ds Qd hi ha r h Q q
  obtain ⟨es, rfl | rfl, h⟩ := fListOf_of h
  · cases r with
    | cons r rr =>
      cases rr
      obtain ⟨p, ys, rfl, n, r⟩ := r
      exact ⟨p, ys, rfl, .inl n.sq, fun l hl => q l _ _ h hl r⟩
  · cases r with
    | cons r rr =>
      cases rr
      cases r with
      | tup n r => exact ⟨_, _, rfl, .inr n.sq, fun l hl => q l _ _ h hl r⟩
theorem df_list (hK : ∀ i, (X i).K = K) (hm : ∀ i, (X i).mg "list" = none) (h : DB X K W c [e] wl) (hg : ∀ i, Gl (X i) "list" := by intro _; rfl) (he : ∀ i, starEach [e] (X i).env = (false, eval e (X i).env) :: starEach [] (X i).env := by intro _; rfl) : DF X K W c (.Call (.Name "list" p) [e] [] pos) (wCbF fListOf wl) :=
  df_cb caList (fun i _ pa => by rw [← hK i]; exact pe_callTy call_list_of (hg i) (hm i) (by decide +kernel) pa (by decide) (by decide) (he i)) h
def fTupOf : List D → (D → Prop) → Prop := fun ds Q => fListOf ds fun xs => Q (.tup xs)
theorem caTup : CaS K (fun xs H Q => ∃ p ys, xs = [.ref p] ∧ ((SqL K H p ys ∧ ∀ l, H l = none → Q (.ref l) (upd H l (.tup ys))) ∨ (SqT K H p ys ∧ Q (.ref p) H))) fTupOf := by
  intro is av H xs ds Qd hi ha r h Q q
  obtain ⟨es, rfl | rfl, h⟩ := fListOf_of h
  · cases r with
    | cons r rr =>
      cases rr
      obtain ⟨p, ys, rfl, n, r⟩ := r
      exact ⟨p, ys, rfl, .inl ⟨n.sq, fun l hl => q _ _ _ h (ex_new hl) (.tup (.inl ⟨upd_same, fun z => ha l z hl⟩) (r.ext (is := is) (.new hl) hi fun _ _ z => z))⟩⟩
  · cases r with
    | cons r rr =>
      cases rr
      cases r with
      | tup n r => exact ⟨_, _, rfl, .inr ⟨n.sq, q _ H _ h (fun _ _ z => z) (.tup n r)⟩⟩
theorem de_tupleOf (hK : ∀ i, (X i).K = K) (hm : ∀ i, (X i).mg "tuple" = none) (h : DB X K W c [e] wl) (hg : ∀ i, Gl (X i) "tuple" := by intro _; rfl) (he : ∀ i, starEach [e] (X i).env = (false, eval e (X i).env) :: starEach [] (X i).env := by intro _; rfl) : DE X K W c (.Call (.Name "tuple" p) [e] [] pos) (wCb fTupOf wl) :=
  de_cb caTup (fun i _ pa => by rw [← hK i]; exact pe_callTy call_tuple_of (hg i) (hm i) (by decide +kernel) pa (by decide) (by decide) (he i)) h
/-- int(n) -/
def fInt : List D → (D → Prop) → Prop
  | [.int i], Q => Q (.int i)
  | [.bl b], Q => Q (.int (if b then 1 else 0))
  | _, _ => False
theorem caInt : CaS K (fun xs H Q => (∃ i, xs = [.int i] ∧ Q (.int i) H) ∨ ∃ k, xs = [.bl k] ∧ Q (.int (if k then 1 else 0)) H) fInt := by
  intro is av H xs ds Qd hi ha r h Q q
  obtain ⟨i, rfl, h⟩ | ⟨b, rfl, h⟩ : (∃ i, ds = [.int i] ∧ Qd (.int i)) ∨ ∃ b, ds = [.bl b] ∧ Qd (.int (if b then 1 else 0)) := by
    unfold fInt at h
    split at h
    · exact .inl ⟨_, rfl, h⟩
    · exact .inr ⟨_, rfl, h⟩
    · exact h.elim
  · cases r with
    | cons r rr =>
      cases rr
      cases r
      exact .inl ⟨_, rfl, q _ H _ h (fun _ _ z => z) (.int _)⟩
  · cases r with
    | cons r rr =>
      cases rr
      cases r
      exact .inr ⟨_, rfl, q _ H _ h (fun _ _ z => z) (.int _)⟩
theorem de_intOf (hm : ∀ i, (X i).mg "int" = none) (h : DB X K W c [e] wl) (hg : ∀ i, Gl (X i) "int" := by intro _; rfl) (he : ∀ i, starEach [e] (X i).env = (false, eval e (X i).env) :: starEach [] (X i).env := by intro _; rfl) : DE X K W c (.Call (.Name "int" p) [e] [] pos) (wCb fInt wl) :=
  de_cb caInt (fun i _ pa => pe_callTy call_int1 (hg i) (hm i) (by decide +kernel) pa (by decide) (by decide) (he i)) h
end
end DL

namespace DL
open PySem PySem.Spec PyProof.Rows L2
section
variable {ι : Type} {X : ι → Cx} {K : Fg} {W : Ctl} {c c1 c2 c3 : Nat} {e a b t : Expr} {es : List Expr} {w wa wb wc : WE} {wt wu : WT} {wl : WL} {pos p apos cpos : Pos}
/-! ### a[i] -/
theorem ixN_lt {n : Nat} {i : Int} {j : Nat} (h : ixN n i = some j) : j < n := (ixN_seq h).2.1
theorem rps_at {K : Fg} {av : Av} {H : Hp} {vs : List V} {ds : List D} {i : Int} {d : D} (r : Rps K av H vs ds) (h : atI ds i = some d) : ∃ v, atI vs i = some v ∧ Rp K av H v d := by
  unfold atI at h ⊢
  rw [r.len]
  cases q : ixN ds.length i with
  | none => rw [q] at h; exact nomatch h
  | some j =>
    rw [q] at h
    exact r.get (i := j) h
def fIx : D → D → (D → Prop) → Prop
  | .lst xs, .int i, Q => onO (atI xs i) Q
  | .tup xs, .int i, Q => onO (atI xs i) Q
  | .str z, .int i, Q => z.length ≤ sizeLine ∧ onO (atI z.cps.toList i) fun c => Q (.str ⟨#[c]⟩)
  | _, _, _ => False
theorem opIx : OpS K (rIx K) fIx := by
  intro is av H x y dx dy Qd hi ha rx ry h Q q
  cases dx <;> try exact h.elim
  · cases dy <;> try exact h.elim
    cases rx; cases ry
    obtain ⟨h1, h⟩ := h
    obtain ⟨c, h2, h3⟩ := onO_of h
    exact .inr (.inr ⟨_, _, c, rfl, rfl, h1, h2, q _ H _ h3 (fun _ _ z => z) (.str _)⟩)
  · cases dy <;> try exact h.elim
    obtain ⟨p, xs, rfl, n, r⟩ := rx
    cases ry
    obtain ⟨d, h1, h2⟩ := onO_of h
    obtain ⟨v, h3, h4⟩ := rps_at r h1
    exact .inl ⟨p, xs, _, v, rfl, rfl, n.sq, h3, q _ H _ h2 (fun _ _ z => z) h4⟩
  · cases dy <;> try exact h.elim
    cases ry
    obtain ⟨d, h1, h2⟩ := onO_of h
    cases rx with
    | tup n r =>
      obtain ⟨v, h3, h4⟩ := rps_at r h1
      exact .inr (.inl ⟨_, _, _, v, rfl, rfl, n.sq, h3, q _ H _ h2 (fun _ _ z => z) h4⟩)
theorem de_ix (hK : ∀ i, (X i).K = K) (ha : DR X K W c1 a wa) (hb : DR X K W c2 b wb) (hs : PlainIx b := by exact fun _ _ => rfl) : DE X K W (c1 + c2) (.Subscript a b pos) (w2 fIx wa wb) :=
  two opIx (fun i _ _ pa pb => by rw [← hK i]; exact pe_ix ix_seq pa pb hs) ha hb
/-! ### slices -/
abbrev WO := Gm → (Value → Prop) → (Option Int → Prop) → Prop
def DO {ι : Type} (X : ι → Cx) (K : Fg) (W : Ctl) (c : Nat) (o : Option Expr) (w : WO) : Prop := ∃ to, (∀ i, PO (X i) o to) ∧ ∀ (P : Pn) (av : Av) (H0 : Hp) (ed : Value → Prop), HW W P H0 ed → ∀ (n : Nat) (H : Hp) (σ : Sg) (G : Gm) (Qd : Option Int → Prop),
  LocOk P K av H0 (n + c) H σ G → w G ed Qd → ∀ Q : Option Int → Hp → Prop, (∀ o H', Qd o → LocOk P K av H0 n H' σ G → Ext P.is H H' → Q o H') → to σ H Q
def wNone : WO := fun _ _ Q => Q none
def wSome (w : WE) : WO := fun G ed Q => w G ed fun d => onI d fun i => Q (some i)
theorem do_none : DO X K W 0 none wNone := ⟨_, fun _ => po_none, fun P av H0 ed hw n H σ G Qd L h Q q => q _ _ h L (.refl _ _)⟩
theorem do_some (h : DE X K W c e w) : DO X K W c (some e) (wSome w) := by
  obtain ⟨te, pe, s⟩ := h
  refine ⟨_, fun i => po_some (pe i), fun P av H0 ed hw n H σ G Qd L h Q q => s P av H0 ed hw n H σ G _ L h _ fun v H1 d hd L1 e1 r => ?_⟩
  obtain ⟨i, rfl, hq⟩ := onI_of hd
  cases r
  exact ⟨i, rfl, q _ _ hq L1 e1⟩
def cut {α : Type} (xs : List α) (lo hi : Option Int) : List α := (xs.drop (HT.sIx xs.length 0 lo)).take (HT.sIx xs.length xs.length hi - HT.sIx xs.length 0 lo)
theorem rps_cut {K : Fg} {av : Av} {H : Hp} {vs : List V} {ds : List D} (r : Rps K av H vs ds) (lo hi : Option Int) : Rps K av H (cutV vs lo hi) (cut ds lo hi) := by
  unfold cutV cut
  rw [r.len]
  exact (r.drop _).take _
def rSl3 (K : Fg) : V → Option Int → Option Int → Hp → VK → Prop := fun x lo hi H Q => rSlS x lo hi H Q ∨ rSlL K x lo hi H Q
def fSl : D → Option Int → Option Int → (D → Prop) → Prop
  | .str z, lo, hi, Q => z.length ≤ sizeLine ∧ Q (.str (cutS z lo hi))
  | .lst xs, lo, hi, Q => Q (.lst (cut xs lo hi))
  | _, _, _, _ => False
def wSl (wa : WE) (wl wh : WO) : WE := fun G ed Q => wa G ed fun x => wl G ed fun lo => wh G ed fun hi => fSl x lo hi Q
theorem de_sl {lo hi : Option Expr} {p2 : Pos} {wl wh : WO} (hK : ∀ i, (X i).K = K) (ha : DR X K W c1 a wa) (hl : DO X K W c2 lo wl) (hh : DO X K W c3 hi wh) : DE X K W (c1 + c2 + c3) (.Subscript a (.Slice lo hi none p2) pos) (wSl wa wl wh) := by
  obtain ⟨ta, pa, sa⟩ := ha
  obtain ⟨tl, pl, sl⟩ := hl
  obtain ⟨th, ph, sh⟩ := hh
  refine ⟨tSl (rSl3 K) ta tl th, fun i => (by rw [← hK i]; exact pe_slice (sl_str.or sl_list) (pa i) (pl i) (ph i)), fun P av H0 ed hw n H σ G Qd L h Q q => ?_⟩
  refine sa P av H0 ed hw (n + c2 + c3) H σ G _ (L.le (by omega)) h _ fun x H1 dx hx L1 e1 r1 => ?_
  refine sl P av H0 ed hw (n + c3) H1 σ G _ (L1.le (by omega)) hx _ fun lo H2 hl L2 e2 => ?_
  refine sh P av H0 ed hw n H2 σ G _ (L2.le (by omega)) hl _ fun hi H3 hh L3 e3 => ?_
  have r3 := (r1.ext e2 fun _ => L2.isAvo).ext e3 fun _ => L3.isAvo
  have e13 := e1.trans (e2.trans e3)
  cases dx <;> try exact hh.elim
  · cases r3
    exact .inl ⟨_, rfl, hh.1, q _ _ _ hh.2 L3 e13 (.str _)⟩
  · obtain ⟨p, xs, rfl, n1, r⟩ := r3
    refine .inr ⟨p, xs, rfl, n1.sq, fun z hz => q _ _ _ hh (L3.new hz) (e13.trans (.new hz)) (.lst ⟨upd_same, fun k => L3.avoNe k hz⟩ ?_)⟩
    exact (rps_cut r lo hi).ext (is := P.is) (.new hz) (fun _ => L3.isAvo) fun _ _ z => z
/-! ### methods of texts -/
def MeS (K : Fg) (W : Ctl) (r : L2.St → V → List V → Hp → VK → Prop) (T : String) (f : D → List D → (D → Prop) → Prop) : Prop := ∀ (is av : Av) (σ : Sg) (H H' : Hp) (x : V) (xs : List V) (dx : D) (ds : List D) (Qd : D → Prop), (∀ a, is a → av a) → (∀ a, av a → H' a ≠ none) → Ext is H H' → Rq K is av H x dx → Rqs K is av H' xs ds → f dx ds Qd →
  ∀ Q : VK, (∀ v H2 d, Qd d → Ex H' H2 → Rp K av H2 v d → Q v H2) → r σ x xs H' Q
def wMe (f : D → List D → (D → Prop) → Prop) (ty : D → Bool) (wa : WE) (wl : WL) : WE := fun G ed Q => wa G ed fun x => ty x = true ∧ wl G ed fun ds => f x ds Q
theorem de_me {r : L2.St → V → List V → Hp → VK → Prop} {T : String} {f : D → List D → (D → Prop) → Prop} {ty : D → Bool} (hty : ∀ is av H v d, ty d = true → Rq K is av H v d → tyV K T v H) (hf : MeS K W r T f) (pe : ∀ i to ta, PE (X i) a to → PA (X i) es ta → PE (X i) e (tBMS K T r to ta)) (ha : DR X K W c1 a wa) (hb : DB X K W c2 es wl) : DE X K W (c1 + c2) e (wMe f ty wa wl) := by
  obtain ⟨ta, pa, sa⟩ := ha
  obtain ⟨tl, pl, sl⟩ := hb
  refine ⟨_, fun i => pe i _ _ (pa i) (pl i), fun P av H0 ed hw n H σ G Qd L h Q q => ?_⟩
  refine sa P av H0 ed hw (n + c2) H σ G _ (L.le (by omega)) h _ fun x H1 dx hx L1 e1 r1 => ⟨hty _ _ _ _ _ hx.1 r1, ?_⟩
  refine sl P av H0 ed hw n H1 σ G _ (L1.le (by omega)) hx.2 _ fun vs H2 ds hd L2 e2 r2 => ?_
  exact hf P.is (avo av σ G) σ H1 H2 x vs dx ds Qd (fun _ => L2.isAvo) (fun _ => L2.avoNe) e2 r1 r2 hd Q fun v H3 d hd ex rv => q v H3 d hd (L2.growEx ex) (e1.trans (e2.trans (Ex.ext ex))) rv
def isStr : D → Bool
  | .str _ => true | _ => false
theorem str_ty {is av : Av} {H : Hp} {v : V} {d : D} (h : isStr d = true) (r : Rq K is av H v d) : tyV K "str" v H := by
  cases d <;> first | (simp [isStr] at h; done) | (cases r; rfl)
def fIndex : D → List D → (D → Prop) → Prop
  | .str a, [.str b], Q => onO (Txt.index0 a b) fun k => Q (.int (k : Nat))
  | _, _, _ => False
theorem meIndex : MeS K W (rIndexX W.w) "str" fIndex := by
  intro is av σ H H' x xs dx ds Qd hi ha ex rx rs h Q q
  obtain ⟨a, b, rfl, rfl⟩ : ∃ a b, dx = .str a ∧ ds = [.str b] := by
    unfold fIndex at h
    split at h
    · exact ⟨_, _, rfl, rfl⟩
    · exact h.elim
  obtain ⟨k, hk, h⟩ := onO_of h
  cases rx
  cases rs with
  | cons r rr =>
    cases rr
    cases r
    refine ⟨_, _, rfl, rfl, fun k' e' => ?_, fun e' => by rw [hk] at e'; exact nomatch e'⟩
    rw [hk] at e'
    cases e'
    exact q _ H' _ h (fun _ _ z => z) (.int _)
theorem de_index (hK : ∀ i, (X i).K = K) (hc : ∀ i, (X i).calm = true) (tk : ∀ i, Takes (X i) W.w) (ha : DR X K W c1 a wa) (hb : DB X K W c2 [e] wl)
    (hbase : ∀ i, attributeBase a "index" (X i).env (eval a (X i).env) = eval a (X i).env := by intro _; rfl)
    (hfew : ∀ i, ((backTo cpos (starEach [e] (X i).env)).all (fun x => !x.1) && (backToKw cpos (keywordEach [] (X i).env)).all (fun x => x.1.isSome) && decide ([e].length + ([] : List Keyword).length + (if ([] : List Keyword).isEmpty then 0 else 1) < 30)) = true := by intro _; rfl)
    (hline : (apos.endLine == cpos.line) = true := by rfl) (hs : ∀ i, starEach [e] (X i).env = (false, eval e (X i).env) :: starEach [] (X i).env := by intro _; rfl) : DE X K W (c1 + c2) (.Call (.Attribute a "index" apos) [e] [] cpos) (wMe fIndex isStr wa wl) :=
  de_me (T := "str") (fun _ _ _ _ _ => str_ty) meIndex (fun i _ _ pa pl => by rw [← hK i]; exact pe_bmS PySem.F.plainAttrs_str PySem.F.slot_str_index PySem.F.type_str_index (mt_indexX (hc i) (tk i)) pa pl (hbase i) (hfew i) hline (hs i)) ha hb
/-! ### a def of the text, called -/
abbrev WF := List D → (Value → Prop) → (D → Prop) → Prop
def spOf (K : Fg) (np : Nat) (Wf : WF) : Sp := fun vs H Q E => vs.length = np ∧ ∃ (av : Av) (ds : List D) (ed : Value → Prop) (Qd : D → Prop), (∀ a, av a → H a ≠ none) ∧ Rps K av H vs ds ∧ Wf ds ed Qd ∧ (∀ cls H', ed cls → Ex H H' → E cls none H') ∧ ∀ v H' d, Qd d → Ex H H' → Rp K av H' v d → Q v H'
structure DFn (P : Program) (w : World) (K : Fg) (mg : Str → Option Value) (base : Heap) (x : Str) (k np : Nat) (Wf : WF) : Prop where
  len : ∀ ds ed Q, Wf ds ed Q → ds.length = np
  ex : ∃ (f : Addr) (fd : FuncData) (ps : List Str), mg x = some (.ref f) ∧ PySem.W.keepIn K (.ref f) = true ∧ Binds K fd ps [] ∧ FnOk P w K mg base (L2.CX P w) k f fd ps (spOf K np Wf)
def Fam {ι : Type} (X : ι → Cx) (P : Program) (w : World) (K : Fg) (mg : Str → Option Value) (base : Heap) : Prop := ∀ i, (X i).prog = P ∧ (X i).w = w ∧ (X i).K = K ∧ (X i).mg = mg ∧ (X i).base = base
def wCall (Wf : WF) (wl : WL) : WE := fun G ed Q => wl G ed fun ds => Wf ds ed Q
theorem de_call {P : Program} {w : World} {mg : Str → Option Value} {base : Heap} {x : Str} {k kk np : Nat} {Wf : WF} (F : DFn P w K mg base x k np Wf) (hF : Fam X P w K mg base) (tk : ∀ i, Takes (X i) W.w) (hr : ∀ i, Room kk (X i).A) (h : DA X K W c (e :: es) wl) (hk : k ≤ kk := by decide) 
    (hg : ∀ i, Gl (X i) x := by intro _; rfl) (hdb : (x == ("__debug__" : Str)) = false := by decide) (he : ∀ i, starEach (e :: es) (X i).env = (false, eval e (X i).env) :: starEach es (X i).env := by intro _; rfl) (hpl : ∀ i, (backTo pos (starEach es (X i).env)).any (·.1) = false := by intro _; rfl) :
    DE X K W c (.Call (.Name x p) (e :: es) [] pos) (wCall Wf wl) := by
  obtain ⟨ta, pa, s⟩ := h
  obtain ⟨f, fd, ps, h1, h2, h3, h4⟩ := F.ex
  refine ⟨tCallS (spOf K np Wf) (L2.WE W.w) ta, fun i => ?_, fun P' av H0 ed hw n H σ G Qd L h Q q => ?_⟩
  · obtain ⟨e1, e2, e3, e4, e5⟩ := hF i
    subst e1; subst e2; subst e3; subst e4; subst e5
    exact pe_callS (h4.mono (Nat.le_refl _)) ((hr i).mono hk) (hg i) h1 h2 h3 (fun σ => passAt (tk i) σ) (pa i) hdb (he i) (hpl i)
  · refine s P' av H0 ed hw n H σ G _ L h _ fun vs H1 ds hd L1 e1 r1 => ?_
    refine ⟨by rw [r1.len]; exact F.len ds ed Qd hd, avo av σ G, ds, ed, Qd, fun _ => L1.avoNe, r1, hd, fun cls H' hc ex => ?_, fun v H' d hd ex r => ?_⟩
    · exact hw.2 cls σ H' hc (L1.ext.trans (Ex.ext ex))
    · exact q v H' d hd (L1.growEx ex) (e1.trans (Ex.ext ex)) r
end
end DL

namespace DL
open PySem PySem.Spec PyProof.Rows L2
/-! ### what is walked -/
structure Walks (P : Pn) (K : Fg) (av : Av) (H0 : Hp) (J : It) (ds : List D) : Prop where
  ex : ∃ (G : Hp → Prop) (Y : Nat → Hp → V → Hp → Prop), Walk J ds.length G Y ∧ (∀ H', Ext av H0 H' → G H') ∧
    ∀ (i : Nat) (x : V) (H1 H2 : Hp) (av2 : Av), i < ds.length → (∀ a, H0 a ≠ none → av2 a → av a) → (∀ a, av2 a → H1 a ≠ none) → Ext av H0 H1 → Y i H1 x H2 → ∃ d, ds[i]? = some d ∧ Ex H1 H2 ∧ Rp K av2 H2 x d
def DI {ι : Type} (X : ι → Cx) (K : Fg) (W : Ctl) (c : Nat) (tg it : Expr) (w : WL) : Prop := ∃ wi, (∀ i, PI (X i) tg it wi) ∧ ∀ (P : Pn) (av : Av) (H0 : Hp) (ed : Value → Prop), HW W P H0 ed → ∀ (n : Nat) (H : Hp) (σ : Sg) (G : Gm) (Qd : List D → Prop),
  LocOk P K av H0 (n + c) H σ G → w G ed Qd → ∀ R : It → Hp → Prop, (∀ J H' ds, Qd ds → LocOk P K av H0 n H' σ G → Ext P.is H H' → Walks P K (avo av σ G) H' J ds → R J H') → wi σ H R
section
variable {K : Fg} {av : Av} {H : Hp} {P : Pn} {xs : List V} {ds : List D} {a : Addr}
theorem walks_list (n : NL av H a xs) (r : Rps K av H xs ds) : Walks P K av H (Itl K a) ds := by
  refine ⟨fun H => SqL K H a xs, _, by rw [← r.len]; exact walk_list, fun H' e => .inl (.inl (e a _ n.2 n.1)), fun i x H1 H2 av2 hi h2 ha e y => ?_⟩
  obtain ⟨rfl, hx⟩ := y
  obtain ⟨d, hd⟩ : ∃ d, ds[i]? = some d := ⟨_, List.getElem?_eq_getElem hi⟩
  obtain ⟨v, e1, e2⟩ := r.get hd
  rw [hx] at e1
  cases e1
  exact ⟨d, hd, fun _ _ z => z, e2.ext e (fun _ z => z) h2⟩
theorem walks_tup (n : NT K av H a xs) (r : Rps K av H xs ds) : Walks P K av H (Itt K a) ds := by
  refine ⟨_, _, by rw [← r.len]; exact walk_tup, fun H' e => (n.ext e (fun _ z => z) (fun _ _ z => z)).sq, fun i x H1 H2 av2 hi h2 ha e y => ?_⟩
  obtain ⟨rfl, hx⟩ := y
  obtain ⟨d, hd⟩ : ∃ d, ds[i]? = some d := ⟨_, List.getElem?_eq_getElem hi⟩
  obtain ⟨v, e1, e2⟩ := r.get hd
  rw [hx] at e1
  cases e1
  exact ⟨d, hd, fun _ _ z => z, e2.ext e (fun _ z => z) h2⟩
def chars (z : Str) : List D := z.cps.toList.map fun c => .str ⟨#[c]⟩
theorem walks_str (z : Str) : Walks P K av H (Its z) (chars z) := by
  have el : (chars z).length = z.cps.size := by unfold chars; rw [List.length_map, Array.length_toList]
  refine ⟨_, _, by rw [el]; exact walk_str, fun _ _ => trivial, fun i x H1 H2 av2 hi h2 ha e y => ?_⟩
  obtain ⟨rfl, c, hc, rfl⟩ := y
  refine ⟨.str ⟨#[c]⟩, ?_, fun _ _ z => z, .str _⟩
  unfold chars
  rw [List.getElem?_map, Array.getElem?_toList, hc]
  rfl
def rngD (lo : Int) (n : Nat) : List D := (List.range n).map fun k => .int (lo + (k : Nat))
theorem walks_range (lo : Int) (n : Nat) : Walks P K av H (Itr lo n) (rngD lo n) := by
  have el : (rngD lo n).length = n := by unfold rngD; rw [List.length_map, List.length_range]
  refine ⟨_, _, by rw [el]; exact walk_range, fun _ _ => trivial, fun i x H1 H2 av2 hi h2 ha e y => ?_⟩
  obtain ⟨rfl, rfl⟩ := y
  refine ⟨.int (lo + i), ?_, fun _ _ z => z, .int _⟩
  rw [el] at hi
  unfold rngD
  rw [List.getElem?_map, List.getElem?_range hi]
  rfl
def enum (xs : List D) : List D := xs.zipIdx.map fun p => .tup [.int (p.2 : Nat), p.1]
theorem walks_enum (n : NL av H a xs) (r : Rps K av H xs ds) : Walks P K av H (Ite K a) (enum ds) := by
  have el : (enum ds).length = xs.length := by unfold enum; rw [List.length_map, List.length_zipIdx, r.len]
  refine ⟨fun H => SqL K H a xs, _, by rw [el]; exact walk_enum, fun H' e => .inl (.inl (e a _ n.2 n.1)), fun i x H1 H2 av2 hi h2 ha e y => ?_⟩
  obtain ⟨T, u, v, rfl, nT, rfl, hu, hv⟩ := y
  cases hu
  rw [el, r.len] at hi
  obtain ⟨d, hd⟩ : ∃ d, ds[i]? = some d := ⟨_, List.getElem?_eq_getElem hi⟩
  obtain ⟨v', e1, e2⟩ := r.get hd
  rw [show xs[i]? = some v from hv] at e1
  cases e1
  refine ⟨.tup [.int (i : Nat), d], ?_, ex_new nT, .tup (.inl ⟨upd_same, fun z => ha T z nT⟩) (.cons (.int _) (.cons ?_ .nil))⟩
  · unfold enum
    rw [List.getElem?_map, List.getElem?_zipIdx, hd]
    simp
  · exact (e2.ext e (fun _ z => z) h2 : Rp K av2 H1 v d).ext (is := fun _ => False) (.new nT) (fun _ z => z.elim) (fun _ _ z => z)
end
section
variable {X : Cx} {tg it : Expr} {te : TE}
/-- a list, a tuple or a text is walked -/
theorem pi_seq (he : PE X it te) : PI X tg it (fun σ H R => te σ H fun x H1 => (∃ a xs, x = .ref a ∧ SqL X.K H1 a xs ∧ R (Itl X.K a) H1) ∨ (∃ a xs, x = .ref a ∧ SqT X.K H1 a xs ∧ R (Itt X.K a) H1) ∨ ∃ z, x = .str z ∧ R (Its z) H1) := by
  refine ⟨fun pins s σ H R I hyp => thn (he.run pins s σ H _ I hyp) ?_⟩
  rintro v s1 ⟨x, H1, I1, rx, ⟨a, xs, rfl, hs, q⟩ | ⟨a, xs, rfl, hs, q⟩ | ⟨z, rfl, q⟩⟩
  · cases rx
    obtain ⟨its, rv, pl, hz⟩ := I1.list hs
    exact wpAny_pyIter_list pl.isList (pi_one (tk := s1.toks) I1 _ (turn_list a _) ⟨_, Heap.get?_push_size _ rfl, rfl, rfl⟩ q)
  · cases rx
    obtain ⟨its, rv, pl, hz⟩ := I1.tuple hs
    exact wpAny_pyIter_tuple pl (pi_one (tk := s1.toks) I1 _ (turn_tuple a _) ⟨_, Heap.get?_push_size _ rfl, rfl, rfl⟩ q)
  · obtain ⟨t, rfl⟩ := rx
    cases wide : z.cps.all (· < 128) with
    | false => exact wpAny_pyIter_wide wide (pi_one (tk := s1.toks) I1 _ (turn_str _ z t _ (.inr rfl)) ⟨_, Heap.get?_push_size _ rfl, rfl, rfl⟩ q)
    | true => exact wpAny_pyIter_ascii wide (pi_one (tk := s1.toks) I1 _ (turn_str _ z t _ (.inl rfl)) ⟨_, Heap.get?_push_size _ rfl, rfl, rfl⟩ q)
end
section
variable {ι : Type} {X : ι → Cx} {K : Fg} {W : Ctl} {c c1 c2 c3 : Nat} {e a b t tg it : Expr} {es : List Expr} {w wa wb wc : WE} {wt wu : WT} {wl : WL} {pos p apos cpos : Pos}
def itemsD : D → Option (List D)
  | .lst xs => some xs | .tup xs => some xs | .str z => some (chars z) | _ => none
def wSeq (w : WE) : WL := fun G ed Q => w G ed fun d => onO (itemsD d) Q
theorem di_seq (hK : ∀ i, (X i).K = K) (h : DE X K W c it w) : DI X K W c tg it (wSeq w) := by
  obtain ⟨te, pe, s⟩ := h
  refine ⟨fun σ H R => te σ H fun x H1 => (∃ a xs, x = .ref a ∧ SqL K H1 a xs ∧ R (Itl K a) H1) ∨ (∃ a xs, x = .ref a ∧ SqT K H1 a xs ∧ R (Itt K a) H1) ∨ ∃ z, x = .str z ∧ R (Its z) H1, fun i => (by rw [← hK i]; exact pi_seq (pe i)), fun P av H0 ed hw n H σ G Qd L h R q => s P av H0 ed hw n H σ G _ L h _ fun v H1 d hd L1 e1 r => ?_⟩
  obtain ⟨ds, h1, h2⟩ := onO_of hd
  cases r with
  | lst nn r => cases h1; exact .inl ⟨_, _, rfl, nn.sq, q _ _ _ h2 L1 e1 (walks_list nn r)⟩
  | tup nn r => cases h1; exact .inr (.inl ⟨_, _, rfl, nn.sq, q _ _ _ h2 L1 e1 (walks_tup nn r)⟩)
  | str z => cases h1; exact .inr (.inr ⟨z, rfl, q _ _ _ h2 L1 e1 (walks_str z)⟩)
  | _ => simp [itemsD] at h1
def int1 : List D → (Int → Prop) → Prop
  | [.int j], Q => Q j
  | _, _ => False
theorem int1_of {ds : List D} {Q : Int → Prop} (h : int1 ds Q) : ∃ j, ds = [.int j] ∧ Q j := by
  unfold int1 at h
  split at h
  · exact ⟨_, rfl, h⟩
  · exact h.elim
def int2 : List D → (Int → Int → Prop) → Prop
  | [.int i, .int j], Q => Q i j
  | _, _ => False
theorem int2_of {ds : List D} {Q : Int → Int → Prop} (h : int2 ds Q) : ∃ i j, ds = [.int i, .int j] ∧ Q i j := by
  unfold int2 at h
  split at h
  · exact ⟨_, _, rfl, h⟩
  · exact h.elim
def wRng1 (wl : WL) : WL := fun G ed Q => wl G ed fun ds => int1 ds fun j => -(2 ^ 62) ≤ j ∧ j < 2 ^ 62 ∧ Q (rngD 0 j.toNat)
theorem di_range1 (hm : ∀ i, (X i).mg "range" = none) (h : DB X K W c [e] wl) (hg : ∀ i, Gl (X i) "range" := by intro _; rfl) (hs : ∀ i, starEach [e] (X i).env = [(false, eval e (X i).env)] := by intro _; rfl) : DI X K W c tg (.Call (.Name "range" p) [e] [] pos) (wRng1 wl) := by
  obtain ⟨ta, pa, s⟩ := h
  refine ⟨_, fun i => pi_range1 (hg i) (hm i) (pa i) (hs i), fun P av H0 ed hw n H σ G Qd L h R q => s P av H0 ed hw n H σ G _ L h _ fun vs H1 ds hd L1 e1 r => ?_⟩
  obtain ⟨j, rfl, h1, h2, h3⟩ := int1_of hd
  cases r with
  | cons r rr =>
    cases rr; cases r
    exact ⟨j, rfl, h1, h2, q _ _ _ h3 L1 e1 (walks_range 0 _)⟩
def wRng2 (wl : WL) : WL := fun G ed Q => wl G ed fun ds => int2 ds fun i j => (-(2 ^ 62) ≤ i ∧ i < 2 ^ 62 ∧ -(2 ^ 62) ≤ j ∧ j < 2 ^ 62) ∧ Q (rngD i (j - i).toNat)
theorem di_range2 {e2 : Expr} (hm : ∀ i, (X i).mg "range" = none) (h : DB X K W c [e, e2] wl) (hg : ∀ i, Gl (X i) "range" := by intro _; rfl) (hs : ∀ i, starEach [e, e2] (X i).env = [(false, eval e (X i).env), (false, eval e2 (X i).env)] := by intro _; rfl) (hs2 : ∀ i, starEach [e2] (X i).env = [(false, eval e2 (X i).env)] := by intro _; rfl) : DI X K W c tg (.Call (.Name "range" p) [e, e2] [] pos) (wRng2 wl) := by
  obtain ⟨ta, pa, s⟩ := h
  refine ⟨_, fun i => pi_range2 (hg i) (hm i) (pa i) (hs i) (hs2 i), fun P av H0 ed hw n H σ G Qd L h R q => s P av H0 ed hw n H σ G _ L h _ fun vs H1 ds hd L1 e1 r => ?_⟩
  obtain ⟨i, j, rfl, h1, h3⟩ := int2_of hd
  cases r with
  | cons r rr =>
    cases rr with
    | cons r2 rr =>
      cases rr; cases r; cases r2
      exact ⟨i, j, rfl, h1, q _ _ _ h3 L1 e1 (walks_range i _)⟩
def lst1 : List D → (List D → Prop) → Prop
  | [.lst xs], Q => Q xs
  | _, _ => False
theorem lst1_of {ds : List D} {Q : List D → Prop} (h : lst1 ds Q) : ∃ xs, ds = [.lst xs] ∧ Q xs := by
  unfold lst1 at h
  split at h
  · exact ⟨_, rfl, h⟩
  · exact h.elim
def wEnum (wl : WL) : WL := fun G ed Q => wl G ed fun ds => lst1 ds fun xs => Q (enum xs)
theorem di_enum {elts : List Expr} {kk : Nat} {tpos : Pos} (hK : ∀ i, (X i).K = K) (hm : ∀ i, (X i).mg "enumerate" = none) (h : DA X K W c [e] wl) (hg : ∀ i, Gl (X i) "enumerate" := by intro _; rfl) (hs : ∀ i, starEach [e] (X i).env = [(false, eval e (X i).env)] := by intro _; rfl) :
    DI X K W c (.Tuple elts kk tpos) (.Call (.Name "enumerate" p) [e] [] pos) (wEnum wl) := by
  obtain ⟨ta, pa, s⟩ := h
  refine ⟨iEnum K ta, fun i => (by rw [← hK i]; exact pi_enum (hg i) (hm i) (pa i) (hs i)), fun P av H0 ed hw n H σ G Qd L h R q => s P av H0 ed hw n H σ G _ L h _ fun vs H1 ds hd L1 e1 r => ?_⟩
  obtain ⟨xs, rfl, h3⟩ := lst1_of hd
  cases r with
  | cons r rr =>
    cases rr
    cases r with
    | lst nn r => exact ⟨_, _, rfl, nn.sq, q _ _ _ h3 L1 e1 (walks_enum nn r)⟩
/-! ### targets -/
abbrev WG := D → Gm → (Gm → Prop) → Prop
theorem getElem?_set_self' {α : Type} {l : List α} {i : Nat} {x y : α} (h : (l.set i x)[i]? = some y) : y = x := by
  rw [List.getElem?_set] at h
  split at h
  · split at h
    · exact (Option.some.inj h).symm
    · exact nomatch h
  · rename_i z; exact absurd rfl z
/-- a slot is given a datum (or nothing) -/
theorem LocOk.put {P : Pn} {K : Fg} {av : Av} {H0 H : Hp} {n : Nat} {σ : Sg} {G : Gm} {i : Nat} {v : Option V} {s : Slot} (L : LocOk P K av H0 n H σ G) (h : SlotOk K (avo av σ G) H s v) (hs : ∀ ds, s ≠ .own ds) :
    LocOk P K av H0 n H (σ.set i v) (G.set i s) ∧ ∀ a, Own (σ.set i v) (G.set i s) a → Own σ G a := by
  have own : ∀ a, Own (σ.set i v) (G.set i s) a → Own σ G a := by
    rintro a ⟨j, ds, h1, h2⟩
    by_cases e : j = i
    · subst e
      exact absurd (getElem?_set_self' h1).symm (hs ds)
    · rw [List.getElem?_set_ne (Ne.symm e)] at h1 h2
      exact ⟨j, ds, h1, h2⟩
  have am : ∀ a, H a ≠ none → avo av (σ.set i v) (G.set i s) a → avo av σ G a := fun a _ z => z.elim .inl fun z => .inr (own a z)
  refine ⟨⟨by rw [List.length_set, List.length_set]; exact L.len, fun j s' hj => ?_, fun j k ds es a h1 h2 h3 h4 => ?_, L.ext, fun a z => L.fr a (own a z), L.ok, L.pav, L.al⟩, own⟩
  · by_cases e : j = i
    · subst e
      have q := getElem?_set_self' hj
      subst q
      have hl : j < σ.length := by
        rw [← L.len]
        by_cases k : j < G.length
        · exact k
        · rw [List.getElem?_eq_none (by rw [List.length_set]; omega)] at hj
          exact nomatch hj
      exact ⟨v, List.getElem?_set_self hl, h.shrink am⟩
    · rw [List.getElem?_set_ne (Ne.symm e)] at hj
      obtain ⟨o, e1, e2⟩ := L.sl j s' hj
      exact ⟨o, by rw [List.getElem?_set_ne (Ne.symm e)]; exact e1, e2.shrink am⟩
  · have nj : ∀ {j : Nat} {ds : D}, (G.set i s)[j]? = some (Slot.own ds) → j ≠ i := fun h e => by
      subst e
      exact absurd (getElem?_set_self' h).symm (hs _)
    have e1 := nj h1
    have e2 := nj h2
    rw [List.getElem?_set_ne (Ne.symm e1)] at h1 h3
    rw [List.getElem?_set_ne (Ne.symm e2)] at h2 h4
    exact L.inj j k ds es a h1 h2 h3 h4
/-- a slot is given a new list that is the def's own -/
theorem LocOk.putOwn {P : Pn} {K : Fg} {av : Av} {H0 H H' : Hp} {n m : Nat} {σ : Sg} {G : Gm} {i : Nat} {p : Addr} {u : HO} {xs : List V} {dd : D} {ds : List D} (L : LocOk P K av H0 m H σ G) (L' : LocOk P K av H0 n H' σ G) (e : Ext P.is H H') (hn : H p = none) (hp : H' p = some u) (sh : Shp dd u xs ds)
    (r : Rps K (avp (avo av σ G) p) H' xs ds) : LocOk P K av H0 n H' (σ.set i (some (.ref p))) (G.set i (.own dd)) ∧ ∀ a, Own (σ.set i (some (.ref p))) (G.set i (.own dd)) a → Own σ G a ∨ a = p := by
  have own : ∀ a, Own (σ.set i (some (.ref p))) (G.set i (.own dd)) a → Own σ G a ∨ a = p := by
    rintro a ⟨j, es, h1, h2⟩
    by_cases q : j = i
    · subst q
      have z := getElem?_set_self' h2
      cases z
      exact .inr rfl
    · rw [List.getElem?_set_ne (Ne.symm q)] at h1 h2
      exact .inl ⟨j, es, h1, h2⟩
  have np : ¬ avo av σ G p := fun z => L.avoNe z hn
  have am : ∀ a, H a ≠ none → avo av (σ.set i (some (.ref p))) (G.set i (.own dd)) a → avo av σ G a := fun a k z => z.elim .inl fun z => (own a z).elim .inr fun z => absurd (z ▸ hn) k
  have am2 : ∀ a, H' a ≠ none → avo av (σ.set i (some (.ref p))) (G.set i (.own dd)) a → avp (avo av σ G) p a := fun a k z => z.elim (fun z => .inl (.inl z)) fun z => (own a z).elim (fun z => .inl (.inr z)) .inr
  have hl : ∀ {j : Nat} {s : Slot}, (G.set i (.own dd))[j]? = some s → j < σ.length := fun {j s} h => by
    rw [← L.len]
    by_cases k : j < G.length
    · exact k
    · rw [List.getElem?_eq_none (by rw [List.length_set]; omega)] at h
      exact nomatch h
  refine ⟨⟨by rw [List.length_set, List.length_set]; exact L.len, fun j s' hj => ?_, fun j k ds1 es a h1 h2 h3 h4 => ?_, L'.ext, fun a z => ?_, L'.ok, L.pav, L.al⟩, own⟩
  · by_cases q : j = i
    · subst q
      have z := getElem?_set_self' hj
      subst z
      exact ⟨_, List.getElem?_set_self (hl hj), p, u, xs, ds, rfl, hp, sh, r.ext (is := fun _ => False) (.refl _ _) (fun _ z => z.elim) am2⟩
    · have hj0 := hj
      rw [List.getElem?_set_ne (Ne.symm q)] at hj
      obtain ⟨o, e1, e2⟩ := L.sl j s' hj
      refine ⟨o, by rw [List.getElem?_set_ne (Ne.symm q)]; exact e1, ?_⟩
      cases s' with
      | un => trivial
      | dat d => obtain ⟨v, k1, k2⟩ := e2; exact ⟨v, k1, k2.ext e (fun _ => L.isAvo) am⟩
      | own es => obtain ⟨a, w, zs, fs, k1, k2, k4, k3⟩ := e2; exact ⟨a, w, zs, fs, k1, e a _ (L.ownIs ⟨j, es, hj, by rw [e1, k1]⟩) k2, k4, k3.ext e (fun _ => L.isAvo) am⟩
  · have old : ∀ {j : Nat} {ds1 : D}, j ≠ i → (G.set i (.own dd))[j]? = some (Slot.own ds1) → (σ.set i (some (.ref p)))[j]? = some (some (.ref p)) → False := fun {j ds1} q h1 h2 => by
      rw [List.getElem?_set_ne (Ne.symm q)] at h1 h2
      exact np (.inr ⟨j, ds1, h1, h2⟩)
    by_cases q1 : j = i
    · by_cases q2 : k = i
      · exact q1.trans q2.symm
      · rw [q1] at h3
        have z := getElem?_set_self' h3
        cases z
        exact (old q2 h2 h4).elim
    · by_cases q2 : k = i
      · rw [q2] at h4
        have z := getElem?_set_self' h4
        cases z
        exact (old q1 h1 h3).elim
      · rw [List.getElem?_set_ne (Ne.symm q1)] at h1 h3
        rw [List.getElem?_set_ne (Ne.symm q2)] at h2 h4
        exact L.inj j k ds1 es a h1 h2 h3 h4
  · rcases own a z with z | rfl
    · exact L.fr a z
    · exact L.ext.none (fun k => np (.inl (L.pav _ k))) hn
/-- what a def owned is not its own any more -/
theorem LocOk.frz {P : Pn} {K : Fg} {av : Av} {H0 H : Hp} {n : Nat} {σ : Sg} {G : Gm} {i : Nat} {ds : D} (L : LocOk P K av H0 n H σ G) (h : G[i]? = some (.own ds)) : LocOk P K av H0 n H σ (G.set i (.dat ds)) ∧ ∀ a, Own σ (G.set i (.dat ds)) a → Own σ G a := by
  obtain ⟨o, h1, a, u, xs, fs, h2, h3, sh, r⟩ := L.sl i _ h
  subst h2
  have own : ∀ b, Own σ (G.set i (.dat ds)) b → Own σ G b ∧ b ≠ a := by
    rintro b ⟨j, es, k1, k2⟩
    by_cases e : j = i
    · subst e
      exact absurd (getElem?_set_self' k1) (fun z => nomatch z)
    · rw [List.getElem?_set_ne (Ne.symm e)] at k1
      refine ⟨⟨j, es, k1, k2⟩, fun z => ?_⟩
      subst z
      exact e (L.inj j i es ds b k1 h k2 h1)
  have am : ∀ b, H b ≠ none → avo av σ (G.set i (.dat ds)) b → avo av σ G b := fun b _ z => z.elim .inl fun z => .inr (own b z).1
  refine ⟨⟨by rw [List.length_set]; exact L.len, fun j s' hj => ?_, fun j k ds1 es b k1 k2 k3 k4 => ?_, L.ext, fun b z => L.fr b (own b z).1, L.ok, L.pav, L.al⟩, fun b z => (own b z).1⟩
  · by_cases e : j = i
    · subst e
      have z := getElem?_set_self' hj
      subst z
      have na : ¬ avo av σ (G.set j (.dat ds)) a := fun z => z.elim (fun z => L.al a z (L.fr a ⟨j, ds, h, h1⟩)) fun z => (own a z).2 rfl
      have r' := r.ext (is := fun _ => False) (.refl _ _) (fun _ z => z.elim) am
      refine ⟨_, h1, _, rfl, ?_⟩
      cases sh with
      | lst => exact .lst ⟨h3, na⟩ r'
      | dic hl => exact .dic ⟨h3, na⟩ hl r'
    · rw [List.getElem?_set_ne (Ne.symm e)] at hj
      obtain ⟨o, e1, e2⟩ := L.sl j s' hj
      exact ⟨o, e1, e2.shrink am⟩
  · have nj : ∀ {j : Nat} {es : D}, (G.set i (.dat ds))[j]? = some (Slot.own es) → j ≠ i := fun h e => by
      subst e
      exact absurd (getElem?_set_self' h) (fun z => nomatch z)
    rw [List.getElem?_set_ne (Ne.symm (nj k1))] at k1
    rw [List.getElem?_set_ne (Ne.symm (nj k2))] at k2
    exact L.inj j k ds1 es b k1 k2 k3 k4
end
end DL

namespace DL
open PySem PySem.Spec PyProof.Rows L2
/-! ### targets -/
theorem wipe_put : ∀ (vs : List Nat) (σ : Sg) (i : Nat) (o : Option V), i ∈ vs → wipe (σ.set i o) vs = wipe σ vs
  | [], _, _, _, h => nomatch h
  | v :: vs, σ, i, o, h => by
    show (wipe (σ.set i o) vs).set v none = (wipe σ vs).set v none
    by_cases k : i ∈ vs
    · rw [wipe_put vs σ i o k]
    · have e : i = v := by
        rcases List.mem_cons.mp h with h | h
        · exact h
        · exact absurd h k
      subst e
      have far : ∀ (us : List Nat) (τ : Sg), i ∉ us → wipe (τ.set i o) us = (wipe τ us).set i o := by
        intro us
        induction us with
        | nil => intro τ _; rfl
        | cons u us ih =>
          intro τ hn
          show (wipe (τ.set i o) us).set u none = ((wipe τ us).set u none).set i o
          rw [ih τ fun z => hn (List.mem_cons_of_mem _ z)]
          exact List.set_comm _ _ (fun z => hn (by rw [z]; exact List.mem_cons_self))
      rw [far vs σ k, List.set_set]
theorem wipe_wipe : ∀ (vs us : List Nat) (σ : Sg), (∀ v ∈ us, v ∈ vs) → wipe (wipe σ us) vs = wipe σ vs
  | vs, [], σ, _ => rfl
  | vs, u :: us, σ, h => by
    show wipe ((wipe σ us).set u none) vs = wipe σ vs
    rw [wipe_put vs _ u none (h u List.mem_cons_self)]
    exact wipe_wipe vs us σ fun v hv => h v (List.mem_cons_of_mem _ hv)
def DG {ι : Type} (X : ι → Cx) (K : Fg) (is : List Nat) (tg : Expr) (w : WG) : Prop := ∃ g, (∀ i, PG (X i) tg g) ∧ ∀ (P : Pn) (av : Av) (H0 : Hp) (n : Nat) (H : Hp) (σ : Sg) (G : Gm) (v : V) (d : D) (Qd : Gm → Prop),
  LocOk P K av H0 n H σ G → Rp K (avo av σ G) H v d → w d G Qd → ∀ Q : L2.St → Hp → Prop, (∀ σ' G', Qd G' → LocOk P K av H0 n H σ' G' → (∀ a, Own σ' G' a → Own σ G a) → (∀ vs, (∀ i ∈ is, i ∈ vs) → wipe σ' vs = wipe σ vs) → Q σ' H) → g v σ H Q
def DGs {ι : Type} (X : ι → Cx) (K : Fg) (is : List Nat) (tg : List Expr) (w : List D → Gm → (Gm → Prop) → Prop) : Prop := ∃ g, (∀ i, PGs (X i) tg g) ∧ ∀ (P : Pn) (av : Av) (H0 : Hp) (n : Nat) (H : Hp) (σ : Sg) (G : Gm) (v : List V) (d : List D) (Qd : Gm → Prop),
  LocOk P K av H0 n H σ G → Rps K (avo av σ G) H v d → w d G Qd → ∀ Q : L2.St → Hp → Prop, (∀ σ' G', Qd G' → LocOk P K av H0 n H σ' G' → (∀ a, Own σ' G' a → Own σ G a) → (∀ vs, (∀ i ∈ is, i ∈ vs) → wipe σ' vs = wipe σ vs) → Q σ' H) → g v σ H Q
section
variable {ι : Type} {X : ι → Cx} {K : Fg} {W : Ctl} {c c1 c2 c3 ci ct ce : Nat} {e a b t tg it elt : Expr} {es : List Expr} {w wa wb wc : WE} {wt wu : WT} {wl wi : WL} {pos p apos cpos : Pos}
def gN (i : Nat) : WG := fun d G Q => Q (G.set i (.dat d))
theorem dg_pg {i : Nat} {x : Str} (h : ∀ j, PG (X j) (.Name x pos) (gName i)) : DG X K [i] (.Name x pos) (gN i) := by
  refine ⟨_, h, fun P av H0 n H σ G v d Qd L r h Q q => ?_⟩
  obtain ⟨L', o⟩ := L.put (i := i) (v := some v) (s := .dat d) ⟨v, rfl, r⟩ fun _ => fun z => nomatch z
  exact q _ _ h L' o fun vs hv => wipe_put vs σ i _ (hv i List.mem_cons_self)
def gsN : List D → Gm → (Gm → Prop) → Prop := fun ds G Q => ds = [] ∧ Q G
def gsC (g : WG) (u : List D → Gm → (Gm → Prop) → Prop) : List D → Gm → (Gm → Prop) → Prop := fun ds G Q => match ds with
  | [] => False
  | d :: r => g d G fun G1 => u r G1 Q
theorem dgs_nil : DGs X K [] [] gsN := by
  refine ⟨_, fun _ => pgs_nil, fun P av H0 n H σ G v d Qd L r h Q q => ?_⟩
  obtain ⟨rfl, h⟩ := h
  cases r
  exact ⟨rfl, q _ _ h L (fun _ z => z) fun _ _ => rfl⟩
theorem dgs_cons {is js : List Nat} {g : WG} {u : List D → Gm → (Gm → Prop) → Prop} (h1 : DG X K is e g) (h2 : DGs X K js es u) (hs : ∀ i, (assignEach (e :: es) (X i).env).map (·.2) = assign e (X i).env :: (assignEach es (X i).env).map (·.2) := by intro _; rfl) : DGs X K (is ++ js) (e :: es) (gsC g u) := by
  obtain ⟨g1, p1, s1⟩ := h1
  obtain ⟨g2, p2, s2⟩ := h2
  refine ⟨_, fun i => pgs_cons (p1 i) (p2 i) (hs i), fun P av H0 n H σ G v d Qd L r h Q q => ?_⟩
  cases r with
  | nil => exact h.elim
  | cons r rr =>
    refine ⟨_, _, rfl, s1 P av H0 n H σ G _ _ _ L r h _ fun σ' G' h' L' o' k' => ?_⟩
    refine s2 P av H0 n H σ' G' _ _ _ L' (rr.ext (is := fun _ => False) (.refl _ _) (fun _ z => z.elim) fun a _ z => z.elim .inl fun z => .inr (o' a z)) h' _ fun σ2 G2 h2 L2 o2 k2 => ?_
    exact q _ _ h2 L2 (fun a z => o' a (o2 a z)) fun vs hv => (k2 vs fun i hi => hv i (List.mem_append_right _ hi)).trans (k' vs fun i hi => hv i (List.mem_append_left _ hi))
def gT (n : Nat) (u : List D → Gm → (Gm → Prop) → Prop) : WG := fun d G Q => match d with
  | .tup ds => ds.length = n ∧ u ds G Q
  | _ => False
theorem dg_tup {is : List Nat} {k n : Nat} {u : List D → Gm → (Gm → Prop) → Prop} (hK : ∀ i, (X i).K = K) (hc : ∀ i, (X i).calm = true) (h : DGs X K is es u) (hn : ∀ i, (assignEach es (X i).env).length = n := by intro _; rfl) (hst : ∀ i, (assignEach es (X i).env).findIdx? (·.1) = none := by intro _; rfl) :
    DG X K is (.Tuple es k pos) (gT n u) := by
  obtain ⟨g, p, s⟩ := h
  refine ⟨gTup K n g, fun i => (by rw [← hK i]; exact pg_tup (hc i) (p i) (hn i) (hst i)), fun P av H0 n H σ G v d Qd L r h Q q => ?_⟩
  cases r with
  | tup nn r => exact ⟨_, _, rfl, nn.sq, by rw [r.len]; exact h.1, s P av H0 n H σ G _ _ _ L r h.2 _ q⟩
  | _ => exact h.elim
/-! ### comprehensions -/
def SF (K : Fg) (W : Ctl) (c : Nat) (te : TE) (w : WL) : Prop := ∀ (P : Pn) (av : Av) (H0 : Hp) (ed : Value → Prop), HW W P H0 ed → ∀ (n : Nat) (H : Hp) (σ : Sg) (G : Gm) (Qd : List D → Prop),
  LocOk P K av H0 (n + c) H σ G → w G ed Qd → ∀ Q : VK, (∀ p xs H' ds, Qd ds → LocOk P K av H0 n H' σ G → Ext P.is H H' → H p = none → H' p = some (.lst xs) → Rps K (avp (avo av σ G) p) H' xs ds → Q (.ref p) H') → te σ H Q
abbrev BI : Type := Shared × Hp × Addr × List (Str × Addr) × List Addr
abbrev blkF {ι : Type} (X : ι → Cx) (scope : Scope) : ι × BI → Cx := fun q => (X q.1).blk q.2.1 q.2.2.1 scope (compEnvC scope q.2.2.2.2.1 q.2.2.2.1 (X q.1).env) q.2.2.2.2.2
def wipeG (G : Gm) : List Nat → Gm
  | [] => G
  | v :: vs => (wipeG G vs).set v .un
def unO : Slot → Slot
  | .own _ => .un | s => s
def inG (G : Gm) (vs : List Nat) : Gm := (wipeG G vs).map unO
theorem wipeG_len (G : Gm) : ∀ vs : List Nat, (wipeG G vs).length = G.length
  | [] => rfl
  | v :: vs => by
    show ((wipeG G vs).set v .un).length = _
    rw [List.length_set, wipeG_len G vs]
theorem wipeG_dat {G : Gm} {σ : Sg} {i : Nat} {d : D} : ∀ vs : List Nat, (wipeG G vs)[i]? = some (.dat d) → G[i]? = some (.dat d) ∧ (wipe σ vs)[i]? = σ[i]?
  | [], h => ⟨h, rfl⟩
  | v :: vs, h => by
    have h : ((wipeG G vs).set v .un)[i]? = some (.dat d) := h
    by_cases e : v = i
    · subst e
      exact absurd (getElem?_set_self' h) (fun z => nomatch z)
    · rw [List.getElem?_set_ne e] at h
      obtain ⟨h1, h2⟩ := wipeG_dat (σ := σ) vs h
      refine ⟨h1, ?_⟩
      show ((wipe σ vs).set v none)[i]? = _
      rw [List.getElem?_set_ne e]
      exact h2
theorem inG_no {G : Gm} {vs : List Nat} {i : Nat} {ds : D} : (inG G vs)[i]? ≠ some (.own ds) := by
  unfold inG
  rw [List.getElem?_map]
  cases (wipeG G vs)[i]? with
  | none => exact fun z => nomatch z
  | some s => cases s <;> exact fun z => nomatch z
theorem inG_dat {G : Gm} {vs : List Nat} {i : Nat} {d : D} (h : (inG G vs)[i]? = some (.dat d)) : (wipeG G vs)[i]? = some (.dat d) := by
  unfold inG at h
  rw [List.getElem?_map] at h
  cases q : (wipeG G vs)[i]? with
  | none => rw [q] at h; exact nomatch h
  | some s =>
    rw [q] at h
    cases s with
    | dat d' => exact h
    | un => exact nomatch h
    | own _ => exact nomatch h
theorem LocOk.inner {P : Pn} {K : Fg} {av : Av} {H0 H1 H : Hp} {n m : Nat} {σ : Sg} {G : Gm} {D : Addr} (L : LocOk P K av H0 n H1 σ G) (vs : List Nat) (e : Ext P.is H1 H) (k : P.ok m H) (hD : H1 D = none) (hD2 : H D ≠ none) :
    LocOk P K (avp (avo av σ G) D) H m H (wipe σ vs) (inG G vs) := by
  have no : ∀ a, ¬ Own (wipe σ vs) (inG G vs) a := fun a ⟨i, ds, h1, _⟩ => inG_no h1
  refine ⟨by unfold inG; rw [List.length_map, wipeG_len, wipe_length]; exact L.len, fun i s h => ?_, fun i j ds es a h1 _ _ _ => absurd h1 inG_no, .refl _ _, fun a z => absurd z (no a), k, fun a z => .inl (L.isAvo z), fun a z => ?_⟩
  · have hl : i < (wipe σ vs).length := by
      rw [wipe_length, ← L.len, ← wipeG_len G vs, ← List.length_map (f := unO)]
      exact (List.getElem?_eq_some_iff.mp h).1
    cases s with
    | un => exact ⟨_, List.getElem?_eq_getElem hl, trivial⟩
    | own ds => exact absurd h inG_no
    | dat d =>
      obtain ⟨h1, h2⟩ := wipeG_dat (σ := σ) vs (inG_dat h)
      obtain ⟨o, e1, v, e2, r⟩ := L.sl i _ h1
      refine ⟨o, h2.trans e1, v, e2, r.ext e (fun _ => L.isAvo) fun a ka z => ?_⟩
      rcases z with (z | z) | z
      · exact z
      · exact absurd (z ▸ hD) ka
      · exact absurd z (no a)
  · rcases z with z | z
    · exact (L.grow e k).avoNe z
    · rw [z]; exact hD2
def compW (wg : WG) (wt : WT) (we : WE) (G : Gm) : List D → List D → (List D → Prop) → Prop
  | [], acc, Q => Q acc
  | d :: r, acc, Q => wg d G fun G1 => wt G1 (fun _ => False) fun b => fork b (we G1 (fun _ => False) fun y => compW wg wt we G r (acc ++ [y]) Q) (compW wg wt we G r acc Q)
def wLc (cb : Nat) (vs : List Nat) (wi : WL) (wg : WG) (wt : WT) (we : WE) : WL := fun G ed Q => wi G ed fun ds => ds.length < sizeLine ∧ (cb = 0 ∨ ds.length ≤ 256) ∧ compW wg wt we (inG G vs) ds [] Q
def wTt : WT := fun _ _ Q => Q true
theorem sf_lc {is vs : List Nat} {wg : WG} {we : WE} {wi' : TI} {g : TG} {tt : TT} {te : TE}
    (si : ∀ (P : Pn) (av : Av) (H0 : Hp) (ed : Value → Prop), HW W P H0 ed → ∀ (n : Nat) (H : Hp) (σ : Sg) (G : Gm) (Qd : List D → Prop), LocOk P K av H0 (n + ci) H σ G → wi G ed Qd → ∀ R : It → Hp → Prop, (∀ J H' ds, Qd ds → LocOk P K av H0 n H' σ G → Ext P.is H H' → Walks P K (avo av σ G) H' J ds → R J H') → wi' σ H R)
    (sg : ∀ (P : Pn) (av : Av) (H0 : Hp) (n : Nat) (H : Hp) (σ : Sg) (G : Gm) (v : V) (d : D) (Qd : Gm → Prop), LocOk P K av H0 n H σ G → Rp K (avo av σ G) H v d → wg d G Qd → ∀ Q : L2.St → Hp → Prop, (∀ σ' G', Qd G' → LocOk P K av H0 n H σ' G' → (∀ a, Own σ' G' a → Own σ G a) → (∀ vs, (∀ i ∈ is, i ∈ vs) → wipe σ' vs = wipe σ vs) → Q σ' H) → g v σ H Q)
    (stt : ∀ (P : Pn) (av : Av) (H0 : Hp) (ed : Value → Prop), HW W.no P H0 ed → ∀ (n : Nat) (H : Hp) (σ : Sg) (G : Gm) (Qd : Bool → Prop), LocOk P K av H0 (n + ct) H σ G → wt G ed Qd → ∀ Q : Bool → Hp → Prop, (∀ b H', Qd b → LocOk P K av H0 n H' σ G → Ext P.is H H' → Q b H') → tt σ H Q)
    (se : ∀ (P : Pn) (av : Av) (H0 : Hp) (ed : Value → Prop), HW W.no P H0 ed → ∀ (n : Nat) (H : Hp) (σ : Sg) (G : Gm) (Qd : D → Prop), LocOk P K av H0 (n + ce) H σ G → we G ed Qd → ∀ Q : VK, (∀ v H' d, Qd d → LocOk P K av H0 n H' σ G → Ext P.is H H' → Rp K (avo av σ G) H' v d → Q v H') → te σ H Q)
    (hv : ∀ i ∈ is, i ∈ vs) : SF K W (ci + 256 * (ct + ce)) (tLc wi' g tt te vs) (wLc (ct + ce) vs wi wg wt we) := by
  intro P av H0 ed hw n H σ G Qd L h Q q
  refine si P av H0 ed hw (n + 256 * (ct + ce)) H σ G _ (L.le (by omega)) h _ fun J H1 ds hd L1 e1 Wk => ?_
  obtain ⟨hz, hc, hd⟩ := hd
  intro D hD
  obtain ⟨GG, Y, wk, hG, hy⟩ := Wk.ex
  have avD : ¬ avo av σ G D := fun z => L1.avoNe z hD
  have isD : ¬ P.is D := fun z => avD (L1.isAvo z)
  have small : ∀ i, i ≤ ds.length → (ds.length - i) * (ct + ce) ≤ 256 * (ct + ce) := fun i _ => by
    rcases hc with hc | hc
    · rw [hc]; simp
    · exact Nat.mul_le_mul_right _ (by omega)
  refine lc_it wk (fun i H' => ∃ xs acc, i ≤ ds.length ∧ Ext P.is H1 H' ∧ Ext (avo av σ G) H1 H' ∧ P.ok (n + (ds.length - i) * (ct + ce)) H' ∧ H' D = some (.lst xs) ∧ acc.length ≤ i ∧ Rps K (avp (avo av σ G) D) H' xs acc ∧ compW wg wt we (inG G vs) (ds.drop i) acc Qd)
    ⟨[], [], Nat.zero_le _, .new hD, .new hD, P.mono (L1.new hD).ok (by have := small 0 (Nat.zero_le _); omega), upd_same, Nat.le_refl _, .nil, hd⟩ (fun i H' _ ⟨_, _, _, _, ea, _⟩ => hG H' ea) ?_ ?_
  · rintro i x H' H2 hi ⟨xs, acc, hle, e', ea, k', hx, hl, hr, hcw⟩ y
    have Li := L1.inner vs e' k' hD (by rw [hx]; exact fun z => nomatch z)
    have no : ∀ a, ¬ Own (wipe σ vs) (inG G vs) a := fun a ⟨j, ds, h1, _⟩ => inG_no h1
    obtain ⟨d, hd, ex, rx⟩ := hy i x H' H2 (avo (avp (avo av σ G) D) (wipe σ vs) (inG G vs)) hi (fun a ka z => by
      rcases z with (z | z) | z
      · exact z
      · exact absurd (z ▸ hD) ka
      · exact absurd z (no a)) (fun a z => Li.avoNe z) ea y
    have hdrop : ds.drop i = d :: ds.drop (i + 1) := by
      rw [List.drop_eq_getElem_cons hi]
      rw [List.getElem?_eq_getElem hi] at hd
      rw [Option.some.inj hd]
    rw [hdrop] at hcw
    have L2 := Li.growEx ex
    have e2 : Ext P.is H1 H2 := e'.trans (Ex.ext ex)
    have ea2 : Ext (avo av σ G) H1 H2 := ea.trans (Ex.ext ex)
    have hx2 : H2 D = some (.lst xs) := ex D _ hx
    have cnt : n + (ds.length - i) * (ct + ce) = n + (ds.length - (i + 1)) * (ct + ce) + ce + ct := by
      have : ds.length - i = ds.length - (i + 1) + 1 := by omega
      rw [this, Nat.add_mul]
      omega
    refine sg P _ _ _ H2 _ _ x d _ L2 rx hcw _ fun σ' G' hG' L' o' k' => ⟨(k' vs hv).trans (wipe_wipe vs vs σ fun _ z => z), ?_⟩
    have no' : ∀ a, ¬ Own σ' G' a := fun a z => no a (o' a z)
    refine stt P _ _ _ hw.no (n + (ds.length - (i + 1)) * (ct + ce) + ce) H2 σ' G' _ (L'.le (by omega)) hG' _ fun b H3 hb L3 e3 => ?_
    have e13 : Ext P.is H1 H3 := e2.trans e3
    have ea3 : Ext (avo av σ G) H1 H3 := ea2.trans fun a o na hh => e3 a o (fun z => na (L1.isAvo z)) hh
    have hx3 : H3 D = some (.lst xs) := e3 D _ isD hx2
    have hr3 : Rps K (avp (avo av σ G) D) H3 xs acc := (hr.ext (is := P.is) (Ex.ext ex) (fun _ z => .inl (L1.isAvo z)) fun _ _ z => z).ext e3 (fun _ z => .inl (L1.isAvo z)) fun _ _ z => z
    cases b with
    | false => rw [fork_ff] at hb; exact ⟨xs, acc, by omega, e13, ea3, P.mono L3.ok (by omega), hx3, by omega, hr3, hb⟩
    | true =>
      rw [fork_tt] at hb
      refine se P _ _ _ hw.no (n + (ds.length - (i + 1)) * (ct + ce)) H3 σ' G' _ (L3.le (Nat.le_refl _)) hb _ fun v H4 y hy4 L4 e4 r4 => ?_
      have hx4 : H4 D = some (.lst xs) := e4 D _ isD hx3
      refine ⟨xs, hx4, by rw [hr.len]; omega, xs ++ [v], acc ++ [y], by omega, ?_, ?_, ?_, upd_same, by rw [List.length_append]; simp; omega, ?_, hy4⟩
      · intro a o na hh
        rw [upd_ne (ne_of_none hh hD)]
        exact e4 a o na (e13 a o na hh)
      · intro a o na hh
        rw [upd_ne (ne_of_none hh hD)]
        exact e4 a o (fun z => na (L1.isAvo z)) (ea3 a o na hh)
      · exact P.stab L4.ok (fun a ia => upd_ne (fun z : a = D => isD (by rw [← z]; exact ia))) (.lst hx4)
      · have stay : Ext (fun a => a = D) H4 (upd H4 D (.lst (xs ++ [v]))) := fun a o na hh => by rw [upd_ne na]; exact hh
        refine Rps.append ?_ (.cons ?_ .nil)
        · exact (hr3.ext e4 (fun _ z => .inl (L1.isAvo z)) fun _ _ z => z : Rps K (avp (avo av σ G) D) H4 xs acc).ext stay (fun _ z => .inr z) fun _ _ z => z
        · exact (r4.ext (is := fun _ => False) (.refl _ _) (fun _ z => z.elim) fun _ _ z => .inl z : Rp K (avp (avo av σ G) D) H4 v y).ext stay (fun _ z => .inr z) fun _ _ z => z
  · rintro H' ⟨xs, acc, hle, e', ea, k', hx, hl, hr, hcw⟩
    rw [List.drop_length] at hcw
    have L' : LocOk P K av H0 n H' σ G := L1.grow e' (P.mono k' (by omega))
    exact q D xs H' acc hcw L' (e1.trans e') (e1.none (fun z => isD z) hD) hx hr
end
end DL

namespace DL
open PySem PySem.Spec PyProof.Rows L2
section
variable {ι : Type} {X : ι → Cx} {K : Fg} {W : Ctl} {c c1 c2 c3 ci ct ce : Nat} {e a b t tg it elt : Expr} {es : List Expr} {w wa wb wc we : WE} {wt wu : WT} {wl wi : WL} {wg : WG} {pos p apos cpos : Pos} {st : Stmt} {sts body : List Stmt} {ws wr : WS}
theorem df_lc {scope : Scope} {is : List Nat} {own : List (Str × Nat)} (hc : ∀ i, (X i).calm = true) (hN : ∀ i, (X i).N.Nodup) (hi : DI X K W ci tg it wi) (hg : DG (blkF X scope) K is tg wg) (he : DE (blkF X scope) K W.no ce elt we) (ok : ∀ i, BlkOk (X i).N (X i).env.scope scope own) (hv : ∀ i ∈ is, i ∈ own.map (·.2) := by decide)
    (hs : ∀ i x, foldedSetIterable it (X i).env x = pure x := by intro _ _; rfl) : DF X K W (ci + 256 * (0 + ce)) (.ListComp elt [⟨tg, it, [], 0⟩] scope pos) (wLc (0 + ce) (own.map (·.2)) wi wg wTt we) := by
  obtain ⟨wi', pi, si⟩ := hi
  obtain ⟨g, pg, sg⟩ := hg
  obtain ⟨te, pe, se⟩ := he
  refine ⟨_, fun i => pe_lc (tt := tYes) (hc i) (hN i) (pi i) (ok i) (fun s H C cl fp => pg (i, s, H, C, cl, fp)) (fun _ _ _ _ _ => pts_nil) (fun s H C cl fp => pe (i, s, H, C, cl, fp)) (hs i), ?_⟩
  exact sf_lc (ct := 0) si sg (fun P av H0 ed hw n H σ G Qd L h Q q => q _ _ h L (.refl _ _)) se hv
theorem df_lcIf {scope : Scope} {is : List Nat} {own : List (Str × Nat)} (hc : ∀ i, (X i).calm = true) (hN : ∀ i, (X i).N.Nodup) (hi : DI X K W ci tg it wi) (hg : DG (blkF X scope) K is tg wg) (ht : DT (blkF X scope) K W.no ct t wt) (he : DE (blkF X scope) K W.no ce elt we) (ok : ∀ i, BlkOk (X i).N (X i).env.scope scope own) (hv : ∀ i ∈ is, i ∈ own.map (·.2) := by decide)
    (hs : ∀ i x, foldedSetIterable it (X i).env x = pure x := by intro _ _; rfl) : DF X K W (ci + 256 * (ct + ce)) (.ListComp elt [⟨tg, it, [t], 0⟩] scope pos) (wLc (ct + ce) (own.map (·.2)) wi wg wt we) := by
  obtain ⟨wi', pi, si⟩ := hi
  obtain ⟨g, pg, sg⟩ := hg
  obtain ⟨te, pe, se⟩ := he
  obtain ⟨tt, pt, stt⟩ := ht
  refine ⟨_, fun i => pe_lc (hc i) (hN i) (pi i) (ok i) (fun s H C cl fp => pg (i, s, H, C, cl, fp)) (fun s H C cl fp => pts_one (pt (i, s, H, C, cl, fp))) (fun s H C cl fp => pe (i, s, H, C, cl, fp)) (hs i), ?_⟩
  exact sf_lc si sg stt se hv
/-! ### statements -/
theorem LocOk.frzAll {P : Pn} {K : Fg} {av : Av} {H0 H : Hp} {n : Nat} {σ : Sg} {G : Gm} (L : LocOk P K av H0 n H σ G) : LocOk P K av H0 n H σ (G.map fun s => match s with | .own d => .dat d | s => s) ∧ ∀ a, ¬ Own σ (G.map fun s => match s with | .own d => .dat d | s => s) a := by
  have no : ∀ a, ¬ Own σ (G.map fun s => match s with | .own d => .dat d | s => s) a := by
    rintro a ⟨i, ds, h1, _⟩
    rw [List.getElem?_map] at h1
    cases q : G[i]? with
    | none => rw [q] at h1; exact nomatch h1
    | some s => rw [q] at h1; cases s <;> exact nomatch h1
  refine ⟨⟨by rw [List.length_map]; exact L.len, fun i s h => ?_, fun i j ds es a h1 h2 h3 _ => absurd ⟨i, ds, h1, h3⟩ (no a), L.ext, fun a z => absurd z (no a), L.ok, L.pav, L.al⟩, no⟩
  rw [List.getElem?_map] at h
  cases q : G[i]? with
  | none => rw [q] at h; exact nomatch h
  | some s' =>
    rw [q] at h
    obtain ⟨o, e1, e2⟩ := L.sl i s' q
    have am : ∀ a, H a ≠ none → avo av σ (G.map fun s => match s with | .own d => .dat d | s => s) a → avo av σ G a := fun a _ z => z.elim .inl fun z => absurd z (no a)
    cases s' with
    | un => cases h; exact ⟨o, e1, trivial⟩
    | dat d => cases h; exact ⟨o, e1, e2.shrink am⟩
    | own ds =>
      cases h
      obtain ⟨a, u, xs, fs, k1, k2, sh, k3⟩ := e2
      have na := fun z => Or.elim (c := False) z (fun z => L.al a z (L.fr a ⟨i, ds, q, by rw [e1, k1]⟩)) fun z => no a z
      have r' := k3.ext (is := fun _ => False) (.refl _ _) (fun _ z => z.elim) am
      refine ⟨o, e1, _, k1, ?_⟩
      cases sh with
      | lst => exact .lst ⟨k2, na⟩ r'
      | dic hl => exact .dic ⟨k2, na⟩ hl r'
def frzG (G : Gm) : Gm := G.map fun s => match s with | .own d => .dat d | s => s
def wRet (w : WE) : WS := fun G De => w (frzG G) De.ex De.rt
theorem ds_ret (h : DE X K W c e w) : DS X K W c (.Return (some e) pos) (wRet w) := by
  obtain ⟨te, pe, s⟩ := h
  refine ⟨_, fun i => ps_ret (pe i), fun P av H0 De hw n H σ G L h D dd => ?_⟩
  obtain ⟨L', no⟩ := L.frzAll
  exact s P av H0 _ hw n H σ _ _ L' h _ fun v H' d hd L2 e' r => dd.rt v H' d hd L2.ext L2.ok (r.ext (is := fun _ => False) (.refl _ _) (fun _ z => z.elim) fun _ _ z => .inl z)
def wRetN : WS := fun _ De => De.rt .non
theorem ds_retN : DS X K W 0 (.Return none pos) wRetN := ⟨_, fun _ => ps_retN, fun P av H0 De hw n H σ G L h D dd => dd.rt _ _ _ h L.ext L.ok .non⟩
def wDrop (w : WE) : WS := fun G De => w G De.ex fun _ => De.nx G
theorem ds_expr (h : DE X K W c e w) (hs : ∀ i, swapsWith e none pos.line (X i).env = pure false := by intro _; rfl) : DS X K W c (.Expr e pos) (wDrop w) := by
  obtain ⟨te, pe, s⟩ := h
  refine ⟨_, fun i => ps_expr (pe i) (hs i), fun P av H0 De hw n H σ G L h D dd => s P av H0 _ hw n H σ G _ L h _ fun v H' d hd L2 e' r => dd.nx _ _ _ hd L2 (.of e' fun _ z => z)⟩
def wPass : WS := fun G De => De.nx G
theorem ds_pass : DS X K W 0 (.Pass pos) wPass := ⟨_, fun _ => ps_pass, fun P av H0 De hw n H σ G L h D dd => dd.nx _ _ _ h L (.of (.refl _ _) fun _ z => z)⟩
def wBrk : WS := fun G De => De.bk G
theorem ds_break : DS X K W 0 (.Break pos) wBrk := ⟨_, fun _ => ps_break, fun P av H0 De hw n H σ G L h D dd => dd.bk _ _ _ h L (.of (.refl _ _) fun _ z => z)⟩
def wCnt : WS := fun G De => De.ct G
theorem ds_continue : DS X K W 0 (.Continue pos) wCnt := ⟨_, fun _ => ps_continue, fun P av H0 De hw n H σ G L h D dd => dd.ct _ _ _ h L (.of (.refl _ _) fun _ z => z)⟩
theorem DD.le {P : Pn} {K : Fg} {av : Av} {H0 : Hp} {n m : Nat} {H H1 : Hp} {σ : Sg} {G : Gm} {De : DEnds} {D : Ends} (dd : DD P K av H0 n H σ G De D) (hm : n ≤ m) (r : Rl P H σ G H1 σ G) : DD P K av H0 m H1 σ G De D :=
  ⟨fun σ' H' G' h L q => dd.nx σ' H' G' h (L.le hm) (r.trans q), fun σ' H' G' h L q => dd.bk σ' H' G' h (L.le hm) (r.trans q), fun σ' H' G' h L q => dd.ct σ' H' G' h (L.le hm) (r.trans q), fun v H' d h e k q => dd.rt v H' d h e (P.mono k hm) q, fun p xs H' ds h e k => dd.rf p xs H' ds h e (P.mono k hm)⟩
/-! blocks -/
def wSq (a b : WS) : WS := fun G De => a G { De with nx := fun G' => b G' De }
theorem dss_nil : DSs X K W 0 [] wPass := ⟨_, fun _ => pss_nil, fun P av H0 De hw n H σ G L h D dd => dd.nx _ _ _ h L (.of (.refl _ _) fun _ z => z)⟩
theorem dss_cons (h1 : DS X K W c1 st ws) (h2 : DSs X K W c2 sts wr) : DSs X K W (c1 + c2) (st :: sts) (wSq ws wr) := by
  obtain ⟨ts, ps, s1⟩ := h1
  obtain ⟨tr, pr, s2⟩ := h2
  refine ⟨_, fun i => pss_cons (ps i) (pr i), fun P av H0 De hw n H σ G L h D dd => ?_⟩
  refine s1 P av H0 { De with nx := fun G' => wr G' De } hw (n + c2) H σ G (L.le (by omega)) h _ ⟨fun σ' H' G' h' L' r => ?_, fun σ' H' G' h' L' r => dd.bk _ _ _ h' (L'.le (by omega)) r, fun σ' H' G' h' L' r => dd.ct _ _ _ h' (L'.le (by omega)) r, fun v H' d h' e' k' r => dd.rt _ _ _ h' e' (P.mono k' (by omega)) r, fun p xs H' ds h' e' k' => dd.rf p xs H' ds h' e' (P.mono k' (by omega))⟩
  exact s2 P av H0 De hw n H' σ' G' (L'.le (Nat.le_refl _)) h' _ ⟨fun σ2 H2 G2 h2 L2 r2 => dd.nx _ _ _ h2 L2 (r.trans r2), fun σ2 H2 G2 h2 L2 r2 => dd.bk _ _ _ h2 L2 (r.trans r2), fun σ2 H2 G2 h2 L2 r2 => dd.ct _ _ _ h2 L2 (r.trans r2), dd.rt, dd.rf⟩
theorem dss_one (h1 : DS X K W c1 st ws) : DSs X K W c1 [st] ws := by
  obtain ⟨ts, ps, s1⟩ := h1
  exact ⟨_, fun i => pss_one (ps i), s1⟩
def wIfS (t : WT) (a b : WS) : WS := fun G De => t G De.ex fun k => fork k (a G De) (b G De)
theorem ds_if (hc : DT X K W c t wt) (ha : DSs X K W c1 sts ws) (hb : DSs X K W c2 body wr) : DS X K W (c + (c1 + c2)) (.If t sts body pos) (wIfS wt ws wr) := by
  obtain ⟨tt, pt, s⟩ := hc
  obtain ⟨ta, pa, sa⟩ := ha
  obtain ⟨tb, pb, sb⟩ := hb
  refine ⟨_, fun i => ps_if (pt i) (pa i) (pb i), fun P av H0 De hw n H σ G L h D dd => s P av H0 _ hw (n + (c1 + c2)) H σ G _ (L.le (by omega)) h _ fun k H1 hk L1 e1 => ?_⟩
  have r : Rl P H σ G H1 σ G := .of e1 fun _ z => z
  cases k with
  | true => rw [fork_tt] at hk; exact sa P av H0 De hw n H1 σ G (L1.le (by omega)) hk D (dd.le (Nat.le_refl _) r)
  | false => rw [fork_ff] at hk; exact sb P av H0 De hw n H1 σ G (L1.le (by omega)) hk D (dd.le (Nat.le_refl _) r)
/-! assignments -/
def wSet (i : Nat) (w : WE) : WS := fun G De => w G De.ex fun d => De.nx (G.set i (.dat d))
def wSetO (i : Nat) (w : WL) : WS := fun G De => w G De.ex fun ds => De.nx (G.set i (.own (.lst ds)))
theorem set_sem {te : TE} {i : Nat} (s : ∀ (P : Pn) (av : Av) (H0 : Hp) (ed : Value → Prop), HW W P H0 ed → ∀ (n : Nat) (H : Hp) (σ : Sg) (G : Gm) (Qd : D → Prop), LocOk P K av H0 (n + c) H σ G → w G ed Qd → ∀ Q : VK, (∀ v H' d, Qd d → LocOk P K av H0 n H' σ G → Ext P.is H H' → Rp K (avo av σ G) H' v d → Q v H') → te σ H Q) :
    ∀ (P : Pn) (av : Av) (H0 : Hp) (De : DEnds), HW W P H0 De.ex → ∀ (n : Nat) (H : Hp) (σ : Sg) (G : Gm), LocOk P K av H0 (n + c) H σ G → wSet i w G De → ∀ D : Ends, DD P K av H0 n H σ G De D → tAsg te (gName i) D σ H := fun P av H0 De hw n H σ G L h D dd => by
  refine s P av H0 _ hw n H σ G _ L h _ fun v H' d hd L2 e' r => ?_
  obtain ⟨L3, o⟩ := L2.put (i := i) (v := some v) (s := .dat d) ⟨v, rfl, r⟩ fun _ => fun z => nomatch z
  exact dd.nx _ _ _ hd L3 (.of e' o)
theorem setO_sem {te : TE} {i : Nat} (s : SF K W c te wl) :
    ∀ (P : Pn) (av : Av) (H0 : Hp) (De : DEnds), HW W P H0 De.ex → ∀ (n : Nat) (H : Hp) (σ : Sg) (G : Gm), LocOk P K av H0 (n + c) H σ G → wSetO i wl G De → ∀ D : Ends, DD P K av H0 n H σ G De D → tAsg te (gName i) D σ H := fun P av H0 De hw n H σ G L h D dd => by
  refine s P av H0 _ hw n H σ G _ L h _ fun p xs H' ds hd L2 e' hn hp r => ?_
  obtain ⟨L3, o⟩ := L.putOwn (i := i) L2 e' hn hp .lst r
  have np : ¬ P.is p := fun z => L.avNe (L.pav _ z) hn
  refine dd.nx _ _ _ hd L3 ⟨fun a u k hh => e' a u (fun z => k (.inl z)) hh, fun a z => (o a z).elim .inl fun z => .inr ⟨z ▸ hn, z ▸ np⟩⟩
theorem ds_set {i : Nat} {x : Str} {pos' : Pos} (h : DE X K W c e w) (hN : ∀ j, (X j).N.Nodup) (hi : ∀ j, (X j).N[i]? = some x := by intro _; rfl) (hx : ∀ j, Loc (X j).env.scope x := by intro _; first | exact .inl rfl | exact .inr rfl) (hs : ∀ j, swapsWith e (some (.Name x pos')) pos.line (X j).env = pure false := by intro _; rfl)
    (hf : ∀ j, (X j).fn x = true ∨ (X j).env.scope.names.lookup x = some .local := by intro _; first | exact .inl rfl | exact .inr rfl) : DS X K W c (.Assign [.Name x pos'] e pos) (wSet i w) := by
  obtain ⟨te, pe, s⟩ := h
  exact ⟨_, fun j => ps_set (hN j) (hi j) (hx j) (pe j) (hs j) (hf j), set_sem s⟩
theorem ds_setO {i : Nat} {x : Str} {pos' : Pos} (h : DF X K W c e wl) (hN : ∀ j, (X j).N.Nodup) (hi : ∀ j, (X j).N[i]? = some x := by intro _; rfl) (hx : ∀ j, Loc (X j).env.scope x := by intro _; first | exact .inl rfl | exact .inr rfl) (hs : ∀ j, swapsWith e (some (.Name x pos')) pos.line (X j).env = pure false := by intro _; rfl)
    (hf : ∀ j, (X j).fn x = true ∨ (X j).env.scope.names.lookup x = some .local := by intro _; first | exact .inl rfl | exact .inr rfl) : DS X K W c (.Assign [.Name x pos'] e pos) (wSetO i wl) := by
  obtain ⟨te, pe, s⟩ := h
  exact ⟨_, fun j => ps_set (hN j) (hi j) (hx j) (pe j) (hs j) (hf j), setO_sem s⟩
/-- y = [.. for ..], y a local name -/
theorem setLc_core {scope : Scope} {is : List Nat} {own : List (Str × Nat)} {i : Nat} {y : Str} {py spos : Pos} (hc : ∀ i, (X i).calm = true) (hN : ∀ i, (X i).N.Nodup) (hi : DI X K W ci tg it wi) (hg : DG (blkF X scope) K is tg wg) (he : DE (blkF X scope) K W.no ce elt we) (ok : ∀ i, BlkOk (X i).N (X i).env.scope scope own)
    (hv : ∀ i ∈ is, i ∈ own.map (·.2)) (hy : ∀ j, (X j).N[i]? = some y) (hyl : ∀ j, (X j).env.scope.names.lookup y = some .local) (hsw : ∀ j, swapsWith (.ListComp elt [⟨tg, it, [], 0⟩] scope pos) (some (.Name y py)) spos.line (X j).env = pure true) (hs : ∀ i x, foldedSetIterable it (X i).env x = pure x) :
    ∃ te, (∀ j, PS (X j) (.Assign [.Name y py] (.ListComp elt [⟨tg, it, [], 0⟩] scope pos) spos) (tAsg te (gName i))) ∧ SF K W (ci + 256 * (0 + ce)) te (wLc (0 + ce) (own.map (·.2)) wi wg wTt we) := by
  obtain ⟨wi', pi, si⟩ := hi
  obtain ⟨g, pg, sg⟩ := hg
  obtain ⟨te, pe, se⟩ := he
  refine ⟨_, fun j => ps_setLc (tt := tYes) (hc j) (hN j) (hy j) (hyl j) (hsw j) (pi j) (ok j) (fun s H C cl fp => pg (j, s, H, C, cl, fp)) (fun _ _ _ _ _ => pts_nil) (fun s H C cl fp => pe (j, s, H, C, cl, fp)) (hs j), ?_⟩
  exact sf_lc (ct := 0) si sg (fun P av H0 ed hw n H σ G Qd L h Q q => q _ _ h L (.refl _ _)) se hv
theorem setLcIf_core {scope : Scope} {is : List Nat} {own : List (Str × Nat)} {i : Nat} {y : Str} {py spos : Pos} (hc : ∀ i, (X i).calm = true) (hN : ∀ i, (X i).N.Nodup) (hi : DI X K W ci tg it wi) (hg : DG (blkF X scope) K is tg wg) (ht : DT (blkF X scope) K W.no ct t wt) (he : DE (blkF X scope) K W.no ce elt we) (ok : ∀ i, BlkOk (X i).N (X i).env.scope scope own)
    (hv : ∀ i ∈ is, i ∈ own.map (·.2)) (hy : ∀ j, (X j).N[i]? = some y) (hyl : ∀ j, (X j).env.scope.names.lookup y = some .local) (hsw : ∀ j, swapsWith (.ListComp elt [⟨tg, it, [t], 0⟩] scope pos) (some (.Name y py)) spos.line (X j).env = pure true) (hs : ∀ i x, foldedSetIterable it (X i).env x = pure x) :
    ∃ te, (∀ j, PS (X j) (.Assign [.Name y py] (.ListComp elt [⟨tg, it, [t], 0⟩] scope pos) spos) (tAsg te (gName i))) ∧ SF K W (ci + 256 * (ct + ce)) te (wLc (ct + ce) (own.map (·.2)) wi wg wt we) := by
  obtain ⟨wi', pi, si⟩ := hi
  obtain ⟨g, pg, sg⟩ := hg
  obtain ⟨te, pe, se⟩ := he
  obtain ⟨tt, pt, stt⟩ := ht
  refine ⟨_, fun j => ps_setLc (hc j) (hN j) (hy j) (hyl j) (hsw j) (pi j) (ok j) (fun s H C cl fp => pg (j, s, H, C, cl, fp)) (fun s H C cl fp => pts_one (pt (j, s, H, C, cl, fp))) (fun s H C cl fp => pe (j, s, H, C, cl, fp)) (hs j), ?_⟩
  exact sf_lc si sg stt se hv
theorem sf_e {te : TE} (s : SF K W c te wl) : ∀ (P : Pn) (av : Av) (H0 : Hp) (ed : Value → Prop), HW W P H0 ed → ∀ (n : Nat) (H : Hp) (σ : Sg) (G : Gm) (Qd : D → Prop), LocOk P K av H0 (n + c) H σ G → wF wl G ed Qd → ∀ Q : VK, (∀ v H' d, Qd d → LocOk P K av H0 n H' σ G → Ext P.is H H' → Rp K (avo av σ G) H' v d → Q v H') → te σ H Q := fun P av H0 ed hw n H σ G Qd L h Q q => by
  refine s P av H0 ed hw n H σ G _ L h Q fun p xs H' ds hd L' e' hn hp r => q _ H' _ hd L' e' (.lst ⟨hp, fun z => L.avoNe z hn⟩ (r.ext (is := fun _ => False) (.refl _ _) (fun _ z => z.elim) fun _ _ z => .inl z))
theorem ds_setLc {scope : Scope} {is : List Nat} {own : List (Str × Nat)} {i : Nat} {y : Str} {py spos : Pos} (hc : ∀ i, (X i).calm = true) (hN : ∀ i, (X i).N.Nodup) (hi : DI X K W ci tg it wi) (hg : DG (blkF X scope) K is tg wg) (he : DE (blkF X scope) K W.no ce elt we) (ok : ∀ i, BlkOk (X i).N (X i).env.scope scope own)
    (hv : ∀ i ∈ is, i ∈ own.map (·.2) := by decide) (hy : ∀ j, (X j).N[i]? = some y := by intro _; rfl) (hyl : ∀ j, (X j).env.scope.names.lookup y = some .local := by intro _; rfl) (hsw : ∀ j, swapsWith (.ListComp elt [⟨tg, it, [], 0⟩] scope pos) (some (.Name y py)) spos.line (X j).env = pure true := by intro _; exact sw_true rfl rfl rfl (by decide +kernel)) (hs : ∀ i x, foldedSetIterable it (X i).env x = pure x := by intro _ _; rfl) :
    DS X K W (ci + 256 * (0 + ce)) (.Assign [.Name y py] (.ListComp elt [⟨tg, it, [], 0⟩] scope pos) spos) (wSet i (wF (wLc (0 + ce) (own.map (·.2)) wi wg wTt we))) := by
  obtain ⟨te, ps, s⟩ := setLc_core hc hN hi hg he ok hv hy hyl hsw hs
  exact ⟨_, ps, set_sem (sf_e s)⟩
theorem ds_setLcIf {scope : Scope} {is : List Nat} {own : List (Str × Nat)} {i : Nat} {y : Str} {py spos : Pos} (hc : ∀ i, (X i).calm = true) (hN : ∀ i, (X i).N.Nodup) (hi : DI X K W ci tg it wi) (hg : DG (blkF X scope) K is tg wg) (ht : DT (blkF X scope) K W.no ct t wt) (he : DE (blkF X scope) K W.no ce elt we) (ok : ∀ i, BlkOk (X i).N (X i).env.scope scope own)
    (hv : ∀ i ∈ is, i ∈ own.map (·.2) := by decide) (hy : ∀ j, (X j).N[i]? = some y := by intro _; rfl) (hyl : ∀ j, (X j).env.scope.names.lookup y = some .local := by intro _; rfl) (hsw : ∀ j, swapsWith (.ListComp elt [⟨tg, it, [t], 0⟩] scope pos) (some (.Name y py)) spos.line (X j).env = pure true := by intro _; exact sw_true rfl rfl rfl (by decide +kernel)) (hs : ∀ i x, foldedSetIterable it (X i).env x = pure x := by intro _ _; rfl) :
    DS X K W (ci + 256 * (ct + ce)) (.Assign [.Name y py] (.ListComp elt [⟨tg, it, [t], 0⟩] scope pos) spos) (wSet i (wF (wLc (ct + ce) (own.map (·.2)) wi wg wt we))) := by
  obtain ⟨te, ps, s⟩ := setLcIf_core hc hN hi hg ht he ok hv hy hyl hsw hs
  exact ⟨_, ps, set_sem (sf_e s)⟩
theorem ds_setLcO {scope : Scope} {is : List Nat} {own : List (Str × Nat)} {i : Nat} {y : Str} {py spos : Pos} (hc : ∀ i, (X i).calm = true) (hN : ∀ i, (X i).N.Nodup) (hi : DI X K W ci tg it wi) (hg : DG (blkF X scope) K is tg wg) (he : DE (blkF X scope) K W.no ce elt we) (ok : ∀ i, BlkOk (X i).N (X i).env.scope scope own)
    (hv : ∀ i ∈ is, i ∈ own.map (·.2) := by decide) (hy : ∀ j, (X j).N[i]? = some y := by intro _; rfl) (hyl : ∀ j, (X j).env.scope.names.lookup y = some .local := by intro _; rfl) (hsw : ∀ j, swapsWith (.ListComp elt [⟨tg, it, [], 0⟩] scope pos) (some (.Name y py)) spos.line (X j).env = pure true := by intro _; exact sw_true rfl rfl rfl (by decide +kernel)) (hs : ∀ i x, foldedSetIterable it (X i).env x = pure x := by intro _ _; rfl) :
    DS X K W (ci + 256 * (0 + ce)) (.Assign [.Name y py] (.ListComp elt [⟨tg, it, [], 0⟩] scope pos) spos) (wSetO i (wLc (0 + ce) (own.map (·.2)) wi wg wTt we)) := by
  obtain ⟨te, ps, s⟩ := setLc_core hc hN hi hg he ok hv hy hyl hsw hs
  exact ⟨_, ps, setO_sem s⟩
/-- a, b = e -/
def wAsgT (wg : WG) (w : WE) : WS := fun G De => w G De.ex fun d => wg d G De.nx
theorem ds_asgT {is : List Nat} (h : DE X K W c e w) (hg : DG X K is tg wg) (hs : ∀ i, swapsWithSole [tg] e pos.line (X i).env = pure false := by intro _; rfl) (hw : ∀ i, swappedStores [tg] e (X i).env = pure none := by intro _; rfl) (h1 : ∀ i, (assignEach [tg] (X i).env).map (·.2) = [assign tg (X i).env] := by intro _; rfl) :
    DS X K W c (.Assign [tg] e pos) (wAsgT wg w) := by
  obtain ⟨te, pe, s⟩ := h
  obtain ⟨g, pg, sg⟩ := hg
  refine ⟨_, fun i => ps_asg (pe i) (pg i) (hs i) (hw i) (h1 i), fun P av H0 De hw n H σ G L h D dd => s P av H0 _ hw n H σ G _ L h _ fun v H' d hd L2 e' r => sg P av H0 n H' σ G v d _ L2 r hd _ fun σ' G' hG L3 o _ => dd.nx _ _ _ hG L3 (.of e' o)⟩
/-- y = x, where the def owned x's list -/
def wAlias (i j : Nat) : WS := fun G De => match G[j]? with
  | some (.dat d) => De.nx (G.set i (.dat d))
  | some (.own d) => De.nx ((G.set j (.dat d)).set i (.dat d))
  | _ => False
theorem ds_alias {i j : Nat} {x : Str} {pos' : Pos} (h : ∀ q, PE (X q) e (tVar j)) (hN : ∀ j, (X j).N.Nodup) (hi : ∀ j, (X j).N[i]? = some x := by intro _; rfl) (hx : ∀ j, Loc (X j).env.scope x := by intro _; first | exact .inl rfl | exact .inr rfl) (hs : ∀ j, swapsWith e (some (.Name x pos')) pos.line (X j).env = pure false := by intro _; rfl)
    (hf : ∀ j, (X j).fn x = true ∨ (X j).env.scope.names.lookup x = some .local := by intro _; first | exact .inl rfl | exact .inr rfl) : DS X K W 0 (.Assign [.Name x pos'] e pos) (wAlias i j) := by
  refine ⟨_, fun j => ps_set (hN j) (hi j) (hx j) (h j) (hs j) (hf j), fun P av H0 De hw n H σ G L h D dd => ?_⟩
  cases q : G[j]? with
  | none => rw [wAlias, q] at h; exact h.elim
  | some s =>
    rw [wAlias, q] at h
    cases s with
    | un => exact h.elim
    | dat d =>
      obtain ⟨o, e1, v, e2, r⟩ := L.sl j _ q
      subst e2
      obtain ⟨L3, o⟩ := L.put (i := i) (v := some v) (s := .dat d) ⟨v, rfl, r⟩ fun _ => fun z => nomatch z
      exact ⟨v, e1, dd.nx _ _ _ h L3 (.of (.refl _ _) o)⟩
    | own ds =>
      obtain ⟨L2, o2⟩ := L.frz q
      have q2 : (G.set j (.dat ds))[j]? = some (.dat ds) := List.getElem?_set_self (List.getElem?_eq_some_iff.mp q).1
      obtain ⟨o, e1, v, e2, r⟩ := L2.sl j _ q2
      subst e2
      obtain ⟨L3, o⟩ := L2.put (i := i) (v := some v) (s := .dat ds) ⟨v, rfl, r⟩ fun _ => fun z => nomatch z
      exact ⟨v, e1, dd.nx _ _ _ h L3 (.of (.refl _ _) fun a z => o2 a (o a z))⟩
/-! x.append(e) -/
theorem LocOk.mut {P : Pn} {K : Fg} {av : Av} {H0 H : Hp} {n : Nat} {σ : Sg} {G : Gm} {i : Nat} {a : Addr} {ds ee : D} {u : HO} {es : List D} {ys : List V} (L : LocOk P K av H0 n H σ G) (h : G[i]? = some (.own ds)) (h1 : σ[i]? = some (some (.ref a))) (sh : Shp ee u ys es) (r : Rps K (avo av σ G) H ys es) :
    LocOk P K av H0 n (upd H a u) σ (G.set i (.own ee)) ∧ Rl P H σ G (upd H a u) σ (G.set i (.own ee)) := by
  have oa : Own σ G a := ⟨i, ds, h, h1⟩
  obtain ⟨u0, hal, hwr⟩ : ∃ u, H a = some u ∧ ((∃ xs, u = .lst xs) ∨ ∃ ks, u = .dK ks) := by
    obtain ⟨o, e1, b, u, xs, fs, e2, e3, sh, _⟩ := L.sl i _ h
    rw [h1] at e1
    cases e1
    cases e2
    exact ⟨u, e3, sh.wr⟩
  have own : ∀ b, Own σ (G.set i (.own ee)) b → Own σ G b := by
    rintro b ⟨j, fs, k1, k2⟩
    by_cases e : j = i
    · subst e
      rw [h1] at k2
      cases k2
      exact oa
    · rw [List.getElem?_set_ne (Ne.symm e)] at k1
      exact ⟨j, fs, k1, k2⟩
  have am : ∀ b, H b ≠ none → avo av σ (G.set i (.own ee)) b → avo av σ G b := fun b _ z => z.elim .inl fun z => .inr (own b z)
  have ex : Ext (fun b => P.is b ∨ b = a) H (upd H a u) := fun b o n hh => by
    rw [upd_ne fun z => n (.inr z)]
    exact hh
  have ia : ∀ b, P.is b ∨ b = a → avo av σ G b := fun b z => z.elim L.isAvo fun z => .inr (z ▸ oa)
  refine ⟨⟨by rw [List.length_set]; exact L.len, fun j s hj => ?_, fun j k d1 d2 b k1 k2 k3 k4 => ?_, fun b o n hh => ?_, fun b z => L.fr b (own b z), P.stab L.ok (fun b ib => upd_ne (fun z : b = a => L.ownIs oa (by rw [← z]; exact ib))) (.wr hal hwr), L.pav, L.al⟩, fun b o n hh => ?_, fun b z => .inl (own b z)⟩
  · by_cases e : j = i
    · subst e
      have z := getElem?_set_self' hj
      subst z
      exact ⟨_, h1, a, u, ys, es, rfl, upd_same, sh, r.ext ex ia am⟩
    · rw [List.getElem?_set_ne (Ne.symm e)] at hj
      obtain ⟨o, e1, e2⟩ := L.sl j s hj
      refine ⟨o, e1, ?_⟩
      cases s with
      | un => trivial
      | dat d => obtain ⟨v, q1, q2⟩ := e2; exact ⟨v, q1, q2.ext ex ia am⟩
      | own fs =>
        obtain ⟨b, w, zs, gs, q1, q2, q4, q3⟩ := e2
        subst q1
        refine ⟨b, w, zs, gs, rfl, ?_, q4, q3.ext ex ia am⟩
        rw [upd_ne (fun z : b = a => e (L.inj j i fs ds b hj h e1 (by rw [z]; exact h1)))]
        exact q2
  · have nj : ∀ {j : Nat} {fs : D}, (G.set i (.own ee))[j]? = some (Slot.own fs) → ∃ gs, G[j]? = some (Slot.own gs) := fun {j fs} hh => by
      by_cases e : j = i
      · subst e; exact ⟨_, h⟩
      · rw [List.getElem?_set_ne (Ne.symm e)] at hh; exact ⟨_, hh⟩
    obtain ⟨g1, k1⟩ := nj k1
    obtain ⟨g2, k2⟩ := nj k2
    exact L.inj j k g1 g2 b k1 k2 k3 k4
  · rw [upd_ne (ne_of_none (L.ext.trans (.refl _ _) |> fun _ => hh) (L.fr a oa))]
    exact L.ext b o n hh
  · rw [upd_ne (fun z : b = a => n (.inr (by rw [z]; exact oa)))]
    exact hh
def wApp (i : Nat) (w : WE) : WS := fun G De => owS G[i]? fun ds => ds.length < sizeLine ∧ w G De.ex fun d => De.nx (G.set i (.own (.lst (ds ++ [d]))))
theorem ds_append {i : Nat} (hK : ∀ i, (X i).K = K) (hp : ∀ j, PE (X j) a (tVar i)) (h : DE X K W c e w)
    (hbase : ∀ i, attributeBase a "append" (X i).env (eval a (X i).env) = eval a (X i).env := by intro _; rfl)
    (hfew : ∀ i, ((backTo cpos (starEach [e] (X i).env)).all (fun x => !x.1) && (backToKw cpos (keywordEach [] (X i).env)).all (fun x => x.1.isSome) && decide ([e].length + ([] : List Keyword).length + (if ([] : List Keyword).isEmpty then 0 else 1) < 30)) = true := by intro _; rfl)
    (hline : (apos.endLine == cpos.line) = true := by rfl) (hs : ∀ i, starEach [e] (X i).env = (false, eval e (X i).env) :: starEach [] (X i).env := by intro _; rfl)
    (hw : ∀ i, swapsWith (.Call (.Attribute a "append" apos) [e] [] cpos) none pos.line (X i).env = pure false := by intro _; rfl) : DS X K W c (.Expr (.Call (.Attribute a "append" apos) [e] [] cpos) pos) (wApp i w) := by
  obtain ⟨te, pe, s⟩ := h
  refine ⟨tDrop (tBM K "list" rAppend (tVar i) (tCons te tNil)), fun j => ps_expr (by rw [← hK j]; exact pe_bm PySem.F.plainAttrs_list PySem.F.slot_list_append PySem.F.type_list_append mt_append (hp j) (pa_cons (pe j) pa_nil (hs j)) (hbase j) (hfew j) hline (hs j)) (hw j), fun P av H0 De hw n H σ G L h D dd => ?_⟩
  obtain ⟨ds, q, hz, h⟩ := owS_of h
  obtain ⟨o, e1, l, _, xs, _, e2, e3, sh, r⟩ := L.sl i _ q
  subst e2
  cases sh
  refine ⟨_, e1, .inl ⟨rfl, xs, .inl (.inl e3)⟩, ?_⟩
  refine s P av H0 _ hw n H σ G _ L h _ fun v H' d hd L2 e' rv => ?_
  have e4 := e' l _ (L.ownIs ⟨i, _, q, e1⟩) e3
  obtain ⟨o', f1, l', _, xs', _, f2, f3, sh', r'⟩ := L2.sl i _ q
  rw [e1] at f1
  cases f1
  cases f2
  cases sh'
  rw [e4] at f3
  cases f3
  obtain ⟨L3, rl⟩ := L2.mut q e1 .lst (r'.append (.cons rv .nil))
  exact ⟨l, xs, v, rfl, rfl, e4, by rw [r.len]; exact hz, dd.nx _ _ _ hd L3 ((Rl.of e' fun _ z => z).trans rl)⟩
end
end DL

namespace DL
open PySem PySem.Spec PyProof.Rows L2
section
variable {ι : Type} {X : ι → Cx} {K : Fg} {W : Ctl} {c c1 c2 c3 ci cb : Nat} {e a b t tg it elt : Expr} {es : List Expr} {w wa : WE} {wt : WT} {wl wi : WL} {wg : WG} {pos p p2 : Pos} {st : Stmt} {sts body : List Stmt} {ws wb : WS}
def forW (wg : WG) (wb : WS) : List D → Gm → DEnds → Prop
  | [], G, De => De.nx G
  | d :: r, G, De => wg d G fun G1 => wb G1 { De with nx := fun G2 => forW wg wb r G2 De, ct := fun G2 => forW wg wb r G2 De, bk := De.nx }
def wFor (cb : Nat) (wi : WL) (wg : WG) (wb : WS) : WS := fun G De => wi G De.ex fun ds => (cb = 0 ∨ ds.length ≤ 256) ∧ forW wg wb ds G De
theorem ds_for {is : List Nat} (hpo : ∀ i, PassesOwn (model (X i).prog (X i).w) (X i).A (X i).env (X i).xe) (hc : ∀ i, (X i).calm = true) (hi : DI X K W ci tg it wi) (hg : DG X K is tg wg) (hb : DSs X K W cb body wb) (hs : ∀ i x, foldedSetIterable it (X i).env x = pure x := by intro _ _; rfl) :
    DS X K W (ci + 256 * cb) (.For tg it body [] pos) (wFor cb wi wg wb) := by
  obtain ⟨wi', pi, si⟩ := hi
  obtain ⟨g, pg, sg⟩ := hg
  obtain ⟨tb, pb, sb⟩ := hb
  refine ⟨_, fun i => ps_for (hpo i) (hc i) (pi i) (pg i) (pb i) (hs i), fun P av H0 De hw n H σ G L h D dd => ?_⟩
  refine si P av H0 _ hw (n + 256 * cb) H σ G _ (L.le (by omega)) h _ fun J H1 ds hd L1 e1 Wk => ?_
  obtain ⟨hcb, hf⟩ := hd
  obtain ⟨GG, Y, wk, hG, hy⟩ := Wk.ex
  have r1 : Rl P H σ G H1 σ G := .of e1 fun _ z => z
  have small : ds.length * cb ≤ 256 * cb := by
    rcases hcb with hc | hc
    · rw [hc]; simp
    · exact Nat.mul_le_mul_right _ hc
  refine for_it wk (fun i σ' H' => ∃ G', i ≤ ds.length ∧ LocOk P K av H0 (n + (ds.length - i) * cb) H' σ' G' ∧ Rl P H1 σ G H' σ' G' ∧ forW wg wb (ds.drop i) G' De)
    ⟨G, Nat.zero_le _, L1.le (by rw [Nat.sub_zero]; omega), .of (.refl _ _) fun _ z => z, hf⟩ (fun i σ' H' _ ⟨G', _, _, r, _⟩ => hG H' fun a o na hh => r.ext a o (fun z => na (z.elim L1.isAvo .inr)) hh) ?_ ?_
  · rintro i x σ' H' H2 hi ⟨G', hle, L', r, hf⟩ y
    obtain ⟨d, hd, ex, rx⟩ := hy i x H' H2 (avo av σ' G') hi (fun a ka z => z.elim .inl fun z => (r.own a z).elim .inr fun z => absurd z.1 ka) (fun a z => L'.avoNe z) (fun a o na hh => r.ext a o (fun z => na (z.elim L1.isAvo .inr)) hh) y
    have hdrop : ds.drop i = d :: ds.drop (i + 1) := by
      rw [List.drop_eq_getElem_cons hi]
      rw [List.getElem?_eq_getElem hi] at hd
      rw [Option.some.inj hd]
    rw [hdrop] at hf
    have cnt : n + (ds.length - i) * cb = n + (ds.length - (i + 1)) * cb + cb := by
      have : ds.length - i = ds.length - (i + 1) + 1 := by omega
      rw [this, Nat.add_mul]
      omega
    have L2 := L'.growEx ex
    have r2 : Rl P H1 σ G H2 σ' G' := r.trans (.of (Ex.ext ex) fun _ z => z)
    refine sg P _ _ _ H2 σ' G' x d _ L2 rx hf _ fun σ3 G3 h3 L3 o3 _ => ?_
    have r3 : Rl P H1 σ G H2 σ3 G3 := r2.trans (.of (.refl _ _) o3)
    refine sb P av H0 { De with nx := fun G2 => forW wg wb (ds.drop (i + 1)) G2 De, ct := fun G2 => forW wg wb (ds.drop (i + 1)) G2 De, bk := De.nx } hw (n + (ds.length - (i + 1)) * cb) H2 σ3 G3 (L3.le (by omega)) h3 _ ⟨?_, ?_, ?_, ?_, fun p xs H4 ds h4 e4 k4 => dd.rf p xs H4 ds h4 e4 (P.mono k4 (by omega))⟩
    · exact fun σ4 H4 G4 h4 L4 r4 => ⟨G4, hi, L4, r3.trans r4, h4⟩
    · exact fun σ4 H4 G4 h4 L4 r4 => dd.nx _ _ _ h4 (L4.le (by omega)) (r1.trans (r3.trans r4))
    · exact fun σ4 H4 G4 h4 L4 r4 => ⟨G4, hi, L4, r3.trans r4, h4⟩
    · exact fun v H4 d4 h4 e4 k4 r4 => dd.rt v H4 d4 h4 e4 (P.mono k4 (by omega)) r4
  · rintro σ' H' ⟨G', hle, L', r, hf⟩
    rw [List.drop_length] at hf
    exact dd.nx _ _ _ hf (L'.le (by omega)) (r1.trans r)
def whileW (wt : WT) (wb : WS) : Nat → Gm → DEnds → Prop
  | 0, _, _ => False
  | k + 1, G, De => wt G De.ex fun b => fork b (wb G { De with nx := fun G2 => whileW wt wb k G2 De, ct := fun G2 => whileW wt wb k G2 De, bk := De.nx }) (De.nx G)
def wWhile (wt : WT) (wb : WS) : WS := fun G De => ∃ k, whileW wt wb k G De
theorem ds_while (hpo : ∀ i, PassesOwn (model (X i).prog (X i).w) (X i).A (X i).env (X i).xe) (ht : DT X K W 0 t wt) (hb : DSs X K W 0 body wb) : DS X K W 0 (.While t body [] pos) (wWhile wt wb) := by
  obtain ⟨tt, pt, s⟩ := ht
  obtain ⟨tb, pb, sb⟩ := hb
  refine ⟨_, fun i => ps_while (hpo i) (pt i) (pb i), fun P av H0 De hw n H σ G L h D dd => ?_⟩
  obtain ⟨k, h⟩ := h
  refine ⟨fun m σ' H' => ∃ G', LocOk P K av H0 n H' σ' G' ∧ Rl P H σ G H' σ' G' ∧ whileW wt wb m G' De, ⟨k, G, L, .of (.refl _ _) fun _ z => z, h⟩, ?_⟩
  rintro m σ' H' ⟨G', L', r, h⟩
  cases m with
  | zero => exact h.elim
  | succ m =>
    refine s P av H0 _ hw n H' σ' G' _ L' h _ fun b H2 hb L2 e2 => ?_
    have r2 : Rl P H σ G H2 σ' G' := r.trans (.of e2 fun _ z => z)
    cases b with
    | false => rw [fork_ff] at hb; exact dd.nx _ _ _ hb L2 r2
    | true =>
      rw [fork_tt] at hb
      refine ⟨fun σ3 H3 => ∃ G3, LocOk P K av H0 n H3 σ3 G3 ∧ Rl P H σ G H3 σ3 G3 ∧ whileW wt wb m G3 De, fun σ3 H3 z => ⟨m, by omega, z⟩, ?_⟩
      refine sb P av H0 { De with nx := fun G2 => whileW wt wb m G2 De, ct := fun G2 => whileW wt wb m G2 De, bk := De.nx } hw n H2 σ' G' L2 hb _ ⟨?_, ?_, ?_, dd.rt, dd.rf⟩
      · exact fun σ4 H4 G4 h4 L4 r4 => ⟨G4, L4, r2.trans r4, h4⟩
      · exact fun σ4 H4 G4 h4 L4 r4 => dd.nx _ _ _ h4 L4 (r2.trans r4)
      · exact fun σ4 H4 G4 h4 L4 r4 => ⟨G4, L4, r2.trans r4, h4⟩
/-! ### raise -/
abbrev veM : List Value := [.type "ValueError", .type "Exception", .type "BaseException", .type "object"]
structure XFact (K : Fg) (mg : Str → Option Value) (x : Str) (C : Addr) : Prop where
  g : mg x = some (.ref C)
  q : PySem.W.excIn K C veM "ValueError.__new__" = true
  kp : PySem.W.keepIn K (.ref C) = true
  b : PySem.W.subIn K (.ref C) (.type "BaseException") = some true
  t : PySem.W.typeIn K (.ref C) = some (.type "type")
def wRaise (C : Addr) : WS := fun _ De => De.ex (.ref C)
theorem ds_raise {mg : Str → Option Value} {x m : Str} {C : Addr} {j : Nat} {p3 : Pos} (hK : ∀ i, (X i).K = K) (hmg : ∀ i, (X i).mg = mg) (F : XFact K mg x C) (hc : ∀ i, (X i).calm = true) (tk : ∀ i, Takes (X i) W.w) (hg : ∀ i, Gl (X i) x := by intro _; rfl) (hdb : (x == ("__debug__" : Str)) = false := by decide) :
    DS X K W 0 (.Raise (some (.Call (.Name x p) [.Constant (.str m) j p2] [] p3)) none pos) (wRaise C) := by
  refine ⟨_, fun i => ps_raise (hc i) (tk i) (pmk_own PySem.F.excBase_ValueError (by rw [hK i]; exact F.q) (by rw [hmg i]; exact F.g) (by rw [hK i]; exact F.kp) (raises_own (by rw [hK i]; exact F.b) (by rw [hK i]; exact F.t)) (hg i) hdb), fun P av H0 De hw n H σ G L h D dd => ?_⟩
  exact hw.2 _ _ _ h L.ext
def wRaise1 (C : Addr) (w : WE) : WS := fun G De => w G De.ex fun _ => De.ex (.ref C)
theorem ds_raise1 {mg : Str → Option Value} {x : Str} {C : Addr} {p3 : Pos} (hK : ∀ i, (X i).K = K) (hmg : ∀ i, (X i).mg = mg) (F : XFact K mg x C) (hc : ∀ i, (X i).calm = true) (tk : ∀ i, Takes (X i) W.w) (h : DE X K W c e w) (hg : ∀ i, Gl (X i) x := by intro _; rfl) (hs : ∀ i, starEach [e] (X i).env = (false, eval e (X i).env) :: starEach [] (X i).env := by intro _; rfl)
    (hdb : (x == ("__debug__" : Str)) = false := by decide) : DS X K W c (.Raise (some (.Call (.Name x p) [e] [] p3)) none pos) (wRaise1 C w) := by
  obtain ⟨te, pe, s⟩ := h
  refine ⟨_, fun i => ps_raise (hc i) (tk i) (SkE.pmk_own1 PySem.F.excBase_ValueError (by rw [hK i]; exact F.q) (by rw [hmg i]; exact F.g) (by rw [hK i]; exact F.kp) (raises_own (by rw [hK i]; exact F.b) (by rw [hK i]; exact F.t)) (hg i) (pe i) (hs i) hdb), fun P av H0 De hw n H σ G L h D dd => ?_⟩
  exact s P av H0 _ hw n H σ G _ L h _ fun v H' d hd L' e' r => hw.2 _ _ _ hd L'.ext
end
/-! ### a def of the text -/
def startG (N : List Str) (ds : List D) : Gm := ds.map .dat ++ List.replicate (N.length - ds.length) .un
theorem loc_start {K : Fg} {av : Av} {H : Hp} {n : Nat} {N : List Str} {vs : List V} {ds : List D} (ha : ∀ a, av a → H a ≠ none) (r : Rps K av H vs ds) : LocOk noPen K av H n H (L2.start N vs) (startG N ds) := by
  have no : ∀ a, ¬ Own (L2.start N vs) (startG N ds) a := by
    rintro a ⟨i, es, h1, _⟩
    unfold startG at h1
    rw [List.getElem?_append] at h1
    split at h1
    · rw [List.getElem?_map] at h1
      cases q : ds[i]? with
      | none => rw [q] at h1; exact nomatch h1
      | some d => rw [q] at h1; exact nomatch h1
    · rw [List.getElem?_replicate] at h1
      split at h1 <;> exact nomatch h1
  have el : vs.length = ds.length := r.len
  refine ⟨by unfold startG L2.start; rw [List.length_append, List.length_append, List.length_map, List.length_map, List.length_replicate, List.length_replicate, el], fun i s h => ?_, fun i j d1 d2 a h1 _ h3 _ => absurd ⟨i, d1, h1, h3⟩ (no a), .refl _ _, fun a z => absurd z (no a), trivial, fun _ z => z.elim, ha⟩
  unfold startG at h
  rw [List.getElem?_append] at h
  split at h
  · rename_i hl
    rw [List.length_map] at hl
    rw [List.getElem?_map] at h
    obtain ⟨d, hd⟩ : ∃ d, ds[i]? = some d := ⟨_, List.getElem?_eq_getElem hl⟩
    rw [hd] at h
    cases h
    obtain ⟨v, e1, e2⟩ := r.get hd
    refine ⟨some v, ?_, v, rfl, e2.ext (is := fun _ => False) (.refl _ _) (fun _ z => z.elim) fun a _ z => z.elim id fun z => absurd z (no a)⟩
    unfold L2.start
    rw [List.getElem?_append_left (by rw [List.length_map, el]; exact hl), List.getElem?_map, e1]
    rfl
  · rename_i hl
    rw [List.length_map] at hl
    rw [List.getElem?_replicate] at h
    split at h
    · rename_i h2
      cases h
      rw [List.length_map] at h2
      refine ⟨none, ?_, trivial⟩
      unfold L2.start
      rw [List.getElem?_append_right (by rw [List.length_map, el]; omega), List.getElem?_replicate, List.length_map, el, if_pos h2]
    · exact nomatch h
def dEnds (ed : Value → Prop) (Q : D → Prop) : DEnds := ⟨fun _ => Q .non, Q, fun _ => False, fun _ => False, ed, fun ds => Q (.lst ds)⟩
theorem rp_fresh {K : Fg} {av : Av} {H0 H : Hp} {p : Addr} {xs : List V} {ds : List D} (ha : ∀ a, av a → H0 a ≠ none) (h0 : H0 p = none) (h : H p = some (.lst xs)) (r : Rps K (avp av p) H xs ds) : Rp K av H (.ref p) (.lst ds) :=
  .lst ⟨h, fun z => ha p z h0⟩ (r.ext (is := fun _ => False) (.refl _ _) (fun _ z => z.elim) fun _ _ z => .inl z)
theorem dfn_of {P : Program} {w : World} {K : Fg} {mg : Str → Option Value} {base : Heap} {x : Str} {st : Stmt} {f : Addr} {fd : FuncData} {N ps : List Str} {k np : Nat} {Wf : WF} {wb : WS} {c : Nat} (F : Fun K x x st f fd) (S : FnScope N ps (defScope st)) (g : mg x = some (.ref f)) (b : Binds K fd ps []) (hnp : ps.length = np)
    (hlen : ∀ ds ed Q, Wf ds ed Q → ds.length = np)
    (hbody : ∀ (cdv : Value) (A : Around) (outer : List Env) (s : Shared) (H : Hp) (E : XK), Room k (A.deeper (envOfC x (defScope st) s.heap.objs.size f cdv)) →
      DSs (fun _ : Unit => cxOf (L2.CX P w) P w K mg base N x (defScope st) f cdv A outer s H E) K ⟨fun cls d _ H => E cls d H, fun _ => True⟩ c (defBody st) wb)
    (hw : ∀ ds ed Q, Wf ds ed Q → wb (startG N ds) (dEnds ed Q)) : DFn P w K mg base x (k + 1) np Wf := by
  refine ⟨hlen, f, fd, ps, g, F.kp, b, ?_⟩
  refine F.okX S (fun vs H Q E h => by rw [h.1, hnp]) fun cdv A outer s H vs Q E hr h => ?_
  obtain ⟨hl, av, ds, ed, Qd, ha, r, hwf, hE, hQ⟩ := h
  obtain ⟨ts, pss, sem⟩ := hbody cdv A outer s H E hr
  refine ⟨ts, pss (), ?_⟩
  refine sem noPen av H (dEnds ed Qd) ⟨trivial, fun cls σ H' hc ex => hE cls H' hc fun a o hh => ex a o (fun z => z) hh⟩ 0 H _ _ (loc_start ha r) (hw ds ed Qd hwf) _ ⟨?_, fun _ _ _ z => z.elim, fun _ _ _ z => z.elim, ?_, ?_⟩
  · exact fun σ' H' G' h' L' r' => hQ _ H' _ h' (fun a o hh => L'.ext a o (fun z => z) hh) .non
  · exact fun v H' d h' e' _ r' => hQ v H' d h' (fun a o hh => e' a o (fun z => z) hh) r'
  · exact fun p xs H' ds h' e' _ h0 h1 r' => hQ _ H' _ h' (fun a o hh => e' a o (fun z => z) hh) (rp_fresh ha h0 h1 r')
end DL

namespace DL
open PySem PySem.Spec PyProof.Rows L2
section
variable {ι : Type} {X : ι → Cx} {K : Fg} {W : Ctl} {c c1 c2 c3 ci cb : Nat} {e a b t tg it elt : Expr} {es : List Expr} {w wa wb : WE} {wt : WT} {wl wi : WL} {wg : WG} {pos p p2 apos cpos : Pos}
/-! ### a + b, a * b of whatever kind -/
def rAdd3 : R2 := fun x y H Q => rAdd2 x y H Q ∨ rCat x y H Q
def fAddA : D → D → (D → Prop) → Prop
  | .int i, .int j, Q => Q (.int (i + j))
  | .str i, .str j, Q => i.length + j.length ≤ sizeLine ∧ Q (.str (i ++ j))
  | .lst xs, .lst ys, Q => xs.length + ys.length ≤ sizeLine ∧ Q (.lst (xs ++ ys))
  | _, _, _ => False
theorem opAddA : OpS K rAdd3 fAddA := by
  intro is av H x y dx dy Qd hi ha rx ry h Q q
  cases dx <;> try exact h.elim
  · cases dy <;> try exact h.elim
    exact .inl (opAdd (K := K) is av H x y _ _ Qd hi ha rx ry h Q q)
  · cases dy <;> try exact h.elim
    exact .inl (opAdd (K := K) is av H x y _ _ Qd hi ha rx ry h Q q)
  · cases dy <;> try exact h.elim
    refine .inr (opCat (K := K) is av H x y _ _ (fun ds => Qd (.lst ds)) hi ha rx ry h Q fun p xs ds hd hp r => q _ _ _ hd (ex_new hp) (.lst ⟨upd_same, fun z => ha p z hp⟩ (r.ext (is := is) (.new hp) hi fun _ _ z => z)))
theorem de_addA (ha : DR X K W c1 a wa) (hb : DR X K W c2 b wb) : DE X K W (c1 + c2) (.BinOp a .Add b pos) (w2 fAddA wa wb) := two opAddA (fun _ _ _ pa pb => pe_op ((op_add.or op_add_str).or op_cat) pa pb) ha hb
def rMulS : R2 := fun x y H Q => ∃ (a : Str) (k : Int), x = .str a ∧ y = .int k ∧ MulOk a k ∧ Q (.str (Txt.mul a k)) H
theorem op_mulS {X : Cx} : OpR X (binaryOp .Mult) rMulS := by
  intro pins s σ H x y v u Q I rx ry h
  obtain ⟨a, k, rfl, rfl, hk, q⟩ := h
  obtain ⟨t, rfl⟩ := rx
  obtain ⟨t2, rfl⟩ := ry
  exact SB.mul hk fun t' k' => ⟨.str _, H, I.tok _, ⟨t', rfl⟩, q⟩
theorem mulOk_of {a : Str} {k : Int} (h0 : 0 ≤ k) (h1 : k ≤ 1000) (h2 : a.length ≤ 1000) : MulOk a k := by
  have e : a.length * k.toNat ≤ 1000 * 1000 := Nat.mul_le_mul h2 (by omega)
  refine ⟨?_, fun hk _ => ?_, fun _ _ => ?_⟩
  · rw [Bool.or_eq_false_iff]
    constructor
    · exact decide_eq_false (by omega)
    · exact decide_eq_false (by omega)
  · have e2 : (9223372036854775807 : Int) / 1000 ≤ 9223372036854775807 / k := Int.le_ediv_of_mul_le (by omega) (by
      have := Int.mul_le_mul_of_nonneg_left h1 (show (0 : Int) ≤ 9223372036854775807 / 1000 by decide)
      have e3 : (9223372036854775807 : Int) / 1000 * 1000 ≤ 9223372036854775807 := by decide
      omega)
    have e4 : (1000 : Int) ≤ 9223372036854775807 / 1000 := by decide
    have e5 : ((2 : Int) ^ 63 - 1) = 9223372036854775807 := by decide
    rw [e5]
    omega
  · unfold Builtin.Str.tooLong
    rw [sizeLine_eq]
    exact decide_eq_false (by omega)
def rMul3 : R2 := fun x y H Q => rI CMul (fun i j => .int (i * j)) x y H Q ∨ rRep x y H Q ∨ rMulS x y H Q
def fMulA : D → D → (D → Prop) → Prop
  | .int i, .int j, Q => CMul i j ∧ Q (.int (i * j))
  | .lst xs, .int k, Q => -(2 ^ 63) ≤ k ∧ k < 2 ^ 63 ∧ xs.length * k.toNat ≤ sizeLine ∧ Q (.lst (List.replicate k.toNat xs).flatten)
  | .str a, .int k, Q => 0 ≤ k ∧ k ≤ 1000 ∧ a.length ≤ 1000 ∧ Q (.str (Txt.mul a k))
  | _, _, _ => False
theorem opMulA : OpS K rMul3 fMulA := by
  intro is av H x y dx dy Qd hi ha rx ry h Q q
  cases dx <;> try exact h.elim
  · cases dy <;> try exact h.elim
    exact .inl (opI (K := K) (fun _ _ => .int _) is av H x y _ _ Qd hi ha rx ry h Q q)
  · cases dy <;> try exact h.elim
    cases rx
    cases ry
    exact .inr (.inr ⟨_, _, rfl, rfl, mulOk_of h.1 h.2.1 h.2.2.1, q _ _ _ h.2.2.2 (fun _ _ z => z) (.str _)⟩)
  · cases dy <;> try exact h.elim
    refine .inr (.inl (opRep (K := K) is av H x y _ _ (fun ds => Qd (.lst ds)) hi ha rx ry h Q fun p xs ds hd hp r => q _ _ _ hd (ex_new hp) (.lst ⟨upd_same, fun z => ha p z hp⟩ (r.ext (is := is) (.new hp) hi fun _ _ z => z))))
theorem de_mulA (ha : DR X K W c1 a wa) (hb : DR X K W c2 b wb) : DE X K W (c1 + c2) (.BinOp a .Mult b pos) (w2 fMulA wa wb) := two opMulA (fun _ _ _ pa pb => pe_op (op_mul.or (op_rep.or op_mulS)) pa pb) ha hb
def fNeg : D → (D → Prop) → Prop
  | .int i, Q => Q (.int (-i))
  | _, _ => False
def w1 (f : D → (D → Prop) → Prop) (wa : WE) : WE := fun G ed Q => wa G ed fun x => f x Q
theorem de_neg (ha : DE X K W c a w) : DE X K W c (.UnaryOp .USub a pos) (w1 fNeg w) := by
  obtain ⟨ta, pa, s⟩ := ha
  refine ⟨_, fun i => pe_un un_neg (pa i), fun P av H0 ed hw n H σ G Qd L h Q q => s P av H0 ed hw n H σ G _ L h _ fun x H1 dx hx L1 e1 r1 => ?_⟩
  cases r1 with
  | int i => exact ⟨i, rfl, q _ _ _ hx L1 e1 (.int _)⟩
  | _ => exact hx.elim
/-! ### texts: f"..", join, upper -/
def fFmt : D → (D → Prop) → Prop
  | .str y, Q => y.length ≤ sizeLine ∧ Q (.str y)
  | .int i, Q => i.natAbs.log2 < 1920 ∧ Q (.str (toString i))
  | _, _ => False
theorem de_fmt (ha : DE X K W c a w) : DE X K W c (.FormattedValue a (-1) none pos) (w1 fFmt w) := by
  obtain ⟨ta, pa, s⟩ := ha
  refine ⟨_, fun i => pe_fmt (pa i), fun P av H0 ed hw n H σ G Qd L h Q q => s P av H0 ed hw n H σ G _ L h _ fun x H1 dx hx L1 e1 r1 => ?_⟩
  cases r1 with
  | int i => exact .inr ⟨i, rfl, hx.1, q _ _ _ hx.2 L1 e1 (.str _)⟩
  | str y => exact .inl ⟨y, rfl, hx.1, q _ _ _ hx.2 L1 e1 (.str _)⟩
  | _ => exact hx.elim
abbrev WJ := Gm → (Value → Prop) → Str → (Str → Prop) → Prop
def DJ {ι : Type} (X : ι → Cx) (K : Fg) (W : Ctl) (c : Nat) (es : List Expr) (w : WJ) : Prop := ∃ ts, (∀ i, PJ (X i) es ts) ∧ ∀ (P : Pn) (av : Av) (H0 : Hp) (ed : Value → Prop), HW W P H0 ed → ∀ (n : Nat) (H : Hp) (σ : Sg) (G : Gm) (acc : Str) (Qd : Str → Prop),
  LocOk P K av H0 (n + c) H σ G → w G ed acc Qd → ∀ Q : Str → Hp → Prop, (∀ s H', Qd s → LocOk P K av H0 n H' σ G → Ext P.is H H' → Q s H') → tJs ts acc σ H Q
def jNil : WJ := fun _ _ acc Q => Q acc
def jCons (w : WE) (r : WJ) : WJ := fun G ed acc Q => w G ed fun d => onS d fun y => (acc ++ y).length ≤ sizeLine ∧ r G ed (acc ++ y) Q
theorem dj_nil : DJ X K W 0 [] jNil := ⟨[], fun _ => .nil, fun P av H0 ed hw n H σ G acc Qd L h Q q => q _ _ h L (.refl _ _)⟩
theorem dj_cons {wr : WJ} (ha : DE X K W c1 e w) (hr : DJ X K W c2 es wr) : DJ X K W (c1 + c2) (e :: es) (jCons w wr) := by
  obtain ⟨te, pe, s1⟩ := ha
  obtain ⟨ts, pr, s2⟩ := hr
  refine ⟨te :: ts, fun i => .cons (pe i) (pr i), fun P av H0 ed hw n H σ G acc Qd L h Q q => s1 P av H0 ed hw (n + c2) H σ G _ (L.le (by omega)) h _ fun x H1 d hd L1 e1 r1 => ?_⟩
  obtain ⟨y, rfl, hz, hr⟩ := onS_of hd
  cases r1
  exact ⟨y, rfl, hz, s2 P av H0 ed hw n H1 σ G _ _ (L1.le (Nat.le_refl _)) hr _ fun s H2 hs L2 e2 => q _ _ hs L2 (e1.trans e2)⟩
def wJs (w : WJ) : WE := fun G ed Q => w G ed Str.empty fun s => Q (.str s)
theorem de_fstr {v1 v2 : Expr} {wr : WJ} (h : DJ X K W c (v1 :: v2 :: es) wr) : DE X K W c (.JoinedStr (v1 :: v2 :: es) pos) (wJs wr) := by
  obtain ⟨ts, pj, s⟩ := h
  exact ⟨_, fun i => pe_joined (pj i), fun P av H0 ed hw n H σ G Qd L h Q q => s P av H0 ed hw n H σ G _ _ L h _ fun s H' hs L' e' => q _ _ _ hs L' e' (.str _)⟩
/-- sep.join(list of texts) -/
def fJoin : D → List D → (D → Prop) → Prop := fun x ds Q => ∃ a, ∃ ys : List Str, x = .str a ∧ (ds = [.lst (ys.map .str)]) ∧ (ys.map (·.length)).sum + ys.length * a.length ≤ 16777216 ∧ Q (.str (Txt.join a ys))
theorem rps_str {K : Fg} {av : Av} {H : Hp} : ∀ {bs : List Str} {xs : List V}, Rps K av H xs (bs.map .str) → xs = bs.map V.str
  | [], _, h => by cases h; rfl
  | b :: bs, _, h => by
    cases h with
    | cons h hs =>
      cases h
      rw [rps_str hs]
      rfl
theorem de_join (hK : ∀ i, (X i).K = K) (ha : DR X K W c1 a wa) (hb : DB X K W c2 [e] wl)
    (hbase : ∀ i, attributeBase a "join" (X i).env (eval a (X i).env) = eval a (X i).env := by intro _; rfl)
    (hfew : ∀ i, ((backTo cpos (starEach [e] (X i).env)).all (fun x => !x.1) && (backToKw cpos (keywordEach [] (X i).env)).all (fun x => x.1.isSome) && decide ([e].length + ([] : List Keyword).length + (if ([] : List Keyword).isEmpty then 0 else 1) < 30)) = true := by intro _; rfl)
    (hline : (apos.endLine == cpos.line) = true := by rfl) (hs : ∀ i, starEach [e] (X i).env = (false, eval e (X i).env) :: starEach [] (X i).env := by intro _; rfl) : DE X K W (c1 + c2) (.Call (.Attribute a "join" apos) [e] [] cpos) (wMe fJoin isStr wa wl) := by
  refine de_me (T := "str") (r := fun _ x xs H Q => ∃ a p, ∃ ys : List Str, x = .str a ∧ xs = [.ref p] ∧ (SqL K H p (ys.map V.str) ∨ SqT K H p (ys.map V.str)) ∧ (ys.map (·.length)).sum + ys.length * a.length ≤ 16777216 ∧ Q (.str (Txt.join a ys)) H) (fun _ _ _ _ _ => str_ty) ?_
    (fun i _ _ pa pl => by rw [← hK i]; exact pe_bmS PySem.F.plainAttrs_str PySem.F.slot_str_join PySem.F.type_str_join (MtR.toS mt_join) pa pl (hbase i) (hfew i) hline (hs i)) ha hb
  intro is av σ H H' x xs dx ds Qd hi ha ex rx rs h Q q
  obtain ⟨a, ys, rfl, rfl, hz, h⟩ := h
  cases rx
  cases rs with
  | cons r rr =>
    cases rr
    obtain ⟨p, zs, rfl, n, r⟩ := r
    rw [rps_str r] at n
    exact ⟨_, p, ys, rfl, rfl, .inl n.sq, hz, q _ H' _ h (fun _ _ z => z) (.str _)⟩
/-! ### a module's constants, built-ins that stay -/
structure GC (mg : Str → Option Value) (x : Str) (d : D) : Prop where
  ex : ∃ (u : Value) (v : V), mg x = some u ∧ RelV v u ∧ Atom v d
theorem de_gc {mg : Str → Option Value} {x : Str} {d : D} (hmg : ∀ i, (X i).mg = mg) (C : GC mg x d) (hg : ∀ i, Gl (X i) x := by intro _; rfl) (hd : (x == ("__debug__" : Str)) = false := by decide) : DE X K W 0 (.Name x pos) (wC d) := by
  obtain ⟨u, v, h1, h2, h3⟩ := C.ex
  exact de_glob (fun i => by rw [hmg i]; exact h1) h2 h3 hg hd
end
structure Bl (mg : Str → Option Value) : Prop where
  isi : mg "isinstance" = none
  len : mg "len" = none
  bool : mg "bool" = none
  int : mg "int" = none
  str : mg "str" = none
  list : mg "list" = none
  tuple : mg "tuple" = none
  dict : mg "dict" = none
  all : mg "all" = none
  any : mg "any" = none
  range : mg "range" = none
  enumerate : mg "enumerate" = none
  zip : mg "zip" = none
  sorted : mg "sorted" = none
  set : mg "set" = none
  repr : mg "repr" = none
  min : mg "min" = none
  max : mg "max" = none
  sum : mg "sum" = none
  reversed : mg "reversed" = none
  type : mg "type" = none
  abs : mg "abs" = none
theorem bt_bool : bootBuiltins "bool" = some (.type "bool") := by decide +kernel
theorem bt_int : bootBuiltins "int" = some (.type "int") := by decide +kernel
theorem bt_str : bootBuiltins "str" = some (.type "str") := by decide +kernel
theorem bt_list : bootBuiltins "list" = some (.type "list") := by decide +kernel
theorem bt_tuple : bootBuiltins "tuple" = some (.type "tuple") := by decide +kernel
theorem bt_dict : bootBuiltins "dict" = some (.type "dict") := by decide +kernel
end DL

namespace DL
open PySem PySem.Spec PyProof.Rows L2
/-! ### isinstance, by forms -/
theorem isi_non_bool : isiD .non "bool" = some false := by decide +kernel
theorem isi_non_int : isiD .non "int" = some false := by decide +kernel
theorem isi_non_str : isiD .non "str" = some false := by decide +kernel
theorem isi_non_tuple : isiD .non "tuple" = some false := by decide +kernel
theorem isi_non_list : isiD .non "list" = some false := by decide +kernel
theorem isi_bl_bool {b : Bool} : isiD (.bl b) "bool" = some true := (by decide +kernel : kitB "bool" "bool" = some true)
theorem isi_bl_int {b : Bool} : isiD (.bl b) "int" = some true := (by decide +kernel : kitB "bool" "int" = some true)
theorem isi_bl_str {b : Bool} : isiD (.bl b) "str" = some false := (by decide +kernel : kitB "bool" "str" = some false)
theorem isi_bl_tuple {b : Bool} : isiD (.bl b) "tuple" = some false := (by decide +kernel : kitB "bool" "tuple" = some false)
theorem isi_bl_list {b : Bool} : isiD (.bl b) "list" = some false := (by decide +kernel : kitB "bool" "list" = some false)
theorem isi_int_bool {b : Int} : isiD (.int b) "bool" = some false := (by decide +kernel : kitB "int" "bool" = some false)
theorem isi_int_int {b : Int} : isiD (.int b) "int" = some true := (by decide +kernel : kitB "int" "int" = some true)
theorem isi_int_str {b : Int} : isiD (.int b) "str" = some false := (by decide +kernel : kitB "int" "str" = some false)
theorem isi_int_tuple {b : Int} : isiD (.int b) "tuple" = some false := (by decide +kernel : kitB "int" "tuple" = some false)
theorem isi_int_list {b : Int} : isiD (.int b) "list" = some false := (by decide +kernel : kitB "int" "list" = some false)
theorem isi_str_bool {b : Str} : isiD (.str b) "bool" = some false := (by decide +kernel : kitB "str" "bool" = some false)
theorem isi_str_int {b : Str} : isiD (.str b) "int" = some false := (by decide +kernel : kitB "str" "int" = some false)
theorem isi_str_str {b : Str} : isiD (.str b) "str" = some true := (by decide +kernel : kitB "str" "str" = some true)
theorem isi_str_tuple {b : Str} : isiD (.str b) "tuple" = some false := (by decide +kernel : kitB "str" "tuple" = some false)
theorem isi_str_list {b : Str} : isiD (.str b) "list" = some false := (by decide +kernel : kitB "str" "list" = some false)
theorem isi_tup_bool {b : List D} : isiD (.tup b) "bool" = some false := (by decide +kernel : kitB "tuple" "bool" = some false)
theorem isi_tup_int {b : List D} : isiD (.tup b) "int" = some false := (by decide +kernel : kitB "tuple" "int" = some false)
theorem isi_tup_str {b : List D} : isiD (.tup b) "str" = some false := (by decide +kernel : kitB "tuple" "str" = some false)
theorem isi_tup_tuple {b : List D} : isiD (.tup b) "tuple" = some true := (by decide +kernel : kitB "tuple" "tuple" = some true)
theorem isi_tup_list {b : List D} : isiD (.tup b) "list" = some false := (by decide +kernel : kitB "tuple" "list" = some false)
theorem isi_lst_bool {b : List D} : isiD (.lst b) "bool" = some false := (by decide +kernel : kitB "list" "bool" = some false)
theorem isi_lst_int {b : List D} : isiD (.lst b) "int" = some false := (by decide +kernel : kitB "list" "int" = some false)
theorem isi_lst_str {b : List D} : isiD (.lst b) "str" = some false := (by decide +kernel : kitB "list" "str" = some false)
theorem isi_lst_tuple {b : List D} : isiD (.lst b) "tuple" = some false := (by decide +kernel : kitB "list" "tuple" = some false)
theorem isi_lst_list {b : List D} : isiD (.lst b) "list" = some true := (by decide +kernel : kitB "list" "list" = some true)
theorem isi_dic_bool {a : List Key} {b : List D} : isiD (.dic a b) "bool" = some false := (by decide +kernel : kitB "dict" "bool" = some false)
theorem isi_dic_int {a : List Key} {b : List D} : isiD (.dic a b) "int" = some false := (by decide +kernel : kitB "dict" "int" = some false)
theorem isi_dic_str {a : List Key} {b : List D} : isiD (.dic a b) "str" = some false := (by decide +kernel : kitB "dict" "str" = some false)
theorem isi_dic_tuple {a : List Key} {b : List D} : isiD (.dic a b) "tuple" = some false := (by decide +kernel : kitB "dict" "tuple" = some false)
theorem isi_dic_list {a : List Key} {b : List D} : isiD (.dic a b) "list" = some false := (by decide +kernel : kitB "dict" "list" = some false)
/-! ### loops, by lists -/
theorem compW_map {wg : WG} {we : WE} {G : Gm} {f : D → D} : ∀ {ds : List D} {acc : List D} {Q : List D → Prop}, (∀ d ∈ ds, ∀ R : D → Prop, R (f d) → wg d G fun G1 => we G1 (fun _ => False) R) → Q (acc ++ ds.map f) → compW wg wTt we G ds acc Q
  | [], acc, Q, _, q => by simpa [compW] using q
  | d :: r, acc, Q, h, q => by
    show wg d G fun G1 => fork true (we G1 (fun _ => False) fun y => compW wg wTt we G r (acc ++ [y]) Q) (compW wg wTt we G r acc Q)
    have e : (fun G1 => fork true (we G1 (fun _ => False) fun y => compW wg wTt we G r (acc ++ [y]) Q) (compW wg wTt we G r acc Q)) = fun G1 => we G1 (fun _ => False) fun y => compW wg wTt we G r (acc ++ [y]) Q := funext fun G1 => fork_tt
    rw [e]
    refine h d List.mem_cons_self _ ?_
    have : acc ++ (d :: r).map f = (acc ++ [f d]) ++ r.map f := by simp
    rw [this] at q
    exact compW_map (fun d hd => h d (List.mem_cons_of_mem _ hd)) q
theorem compW_filter {wg : WG} {wt : WT} {we : WE} {G : Gm} {f : D → D} {t : D → Bool} : ∀ {ds : List D} {acc : List D} {Q : List D → Prop}, (∀ d ∈ ds, ∀ (R : D → Prop) (Z : Prop), (t d = true → R (f d)) → (t d = false → Z) → wg d G fun G1 => wt G1 (fun _ => False) fun b => fork b (we G1 (fun _ => False) R) Z) → Q (acc ++ (ds.filter t).map f) → compW wg wt we G ds acc Q
  | [], acc, Q, _, q => by simpa [compW] using q
  | d :: r, acc, Q, h, q => by
    refine h d List.mem_cons_self _ _ (fun ht => ?_) (fun ht => ?_)
    · rw [List.filter_cons_of_pos ht, List.map_cons] at q
      have : acc ++ f d :: (r.filter t).map f = (acc ++ [f d]) ++ (r.filter t).map f := by simp
      rw [this] at q
      exact compW_filter (fun d hd => h d (List.mem_cons_of_mem _ hd)) q
    · rw [List.filter_cons_of_neg (by rw [ht]; decide)] at q
      exact compW_filter (fun d hd => h d (List.mem_cons_of_mem _ hd)) q
theorem forW_ind {wg : WG} {wb : WS} {De : DEnds} (I : List D → Gm → Prop)
    (step : ∀ d r G, I (d :: r) G → (∀ G', I r G' → forW wg wb r G' De) → wg d G fun G1 => wb G1 { De with nx := fun G2 => forW wg wb r G2 De, ct := fun G2 => forW wg wb r G2 De, bk := De.nx })
    (fin : ∀ G, I [] G → De.nx G) : ∀ r G, I r G → forW wg wb r G De
  | [], G, h => fin G h
  | d :: r, G, h => step d r G h fun G' h' => forW_ind I step fin r G' h'
end DL

namespace DL
open PySem PySem.Spec PyProof.Rows L2
/-! ### the pen: [cells, how many cells are used, what is left]; n: how many draws may follow -/
def penOk (p c : Addr) (n : Nat) (H : Hp) : Prop := p ≠ c ∧ ∃ (cells : List Int) (k z : Int), H c = some (.lst (cells.map V.int)) ∧ cells.length ≤ 12 ∧ H p = some (.lst [.ref c, .int k, .int z]) ∧ 0 ≤ k ∧ k + n ≤ 1000000000
def penP (p c : Addr) : Pn where
  is := fun a => a = p ∨ a = c
  ok := penOk p c
  mono := fun {n m H} h hm => by
    obtain ⟨ne, cells, k, z, h1, h2, h3, h4, h5⟩ := h
    exact ⟨ne, cells, k, z, h1, h2, h3, h4, by omega⟩
  stab := fun {n H H'} h e _ => by
    obtain ⟨ne, cells, k, z, h1, h2, h3, h4, h5⟩ := h
    exact ⟨ne, cells, k, z, by rw [e c (.inr rfl)]; exact h1, h2, by rw [e p (.inl rfl)]; exact h3, h4, h5⟩
  al := fun {n H a} h i => by
    obtain ⟨ne, cells, k, z, h1, h2, h3, h4, h5⟩ := h
    rcases i with rfl | rfl
    · rw [h3]; exact fun z => nomatch z
    · rw [h1]; exact fun z => nomatch z
abbrev pcP (p : Addr) : Pn → Prop := fun P => ∃ c, P = penP p c
/-- what a def with a pen promises; it draws at most cst times -/
def spP (K : Fg) (np cst : Nat) (Wf : WF) : Sp := fun vs H Q E => vs.length = np + 1 ∧ ∃ (p c : Addr) (n : Nat) (av : Av) (rest : List V) (ds : List D) (ed : Value → Prop) (Qd : D → Prop), vs = .ref p :: rest ∧ penOk p c (n + cst) H ∧ av p ∧ av c ∧ (∀ a, av a → H a ≠ none) ∧ Rps K av H rest ds ∧ Wf ds ed Qd ∧
  (∀ cls H', ed cls → Ext (penP p c).is H H' → E cls none H') ∧ ∀ v H' d, Qd d → Ext (penP p c).is H H' → penOk p c n H' → Rp K av H' v d → Q v H'
structure PFn (P : Program) (w : World) (K : Fg) (mg : Str → Option Value) (base : Heap) (x : Str) (k np cst : Nat) (Wf : WF) : Prop where
  len : ∀ ds ed Q, Wf ds ed Q → ds.length = np
  ex : ∃ (f : Addr) (fd : FuncData) (ps : List Str), mg x = some (.ref f) ∧ PySem.W.keepIn K (.ref f) = true ∧ Binds K fd ps [] ∧ FnOk P w K mg base (L2.CX P w) k f fd ps (spP K np cst Wf)
section
variable {ι : Type} {X : ι → Cx} {K : Fg} {W : Ctl} {c : Nat} {e : Expr} {es : List Expr} {wl : WL} {pos p2 : Pos}
/-- the first argument is the pen -/
def penA : List D → (Addr → List D → Prop) → Prop
  | .obj (.ref q) :: r, Q => Q q r
  | _, _ => False
theorem penA_of {ds : List D} {Q : Addr → List D → Prop} (h : penA ds Q) : ∃ q r, ds = .obj (.ref q) :: r ∧ Q q r := by
  unfold penA at h
  split at h
  · exact ⟨_, _, rfl, h⟩
  · exact h.elim
def wCallP (p : Addr) (Wf : WF) (wl : WL) : WE := fun G ed Q => wl G ed fun ds => penA ds fun q r => q = p ∧ Wf r ed Q
theorem de_callP {P : Program} {w : World} {mg : Str → Option Value} {base : Heap} {x : Str} {k kk np cst : Nat} {Wf : WF} {p : Addr} (F : PFn P w K mg base x k np cst Wf) (hF : Fam X P w K mg base) (hp : ∀ Q, W.pc Q → pcP p Q) (tk : ∀ i, Takes (X i) W.w) (hr : ∀ i, Room kk (X i).A) (h : DA X K W c (e :: es) wl) (hk : k ≤ kk := by decide)
    (hg : ∀ i, Gl (X i) x := by intro _; rfl) (hdb : (x == ("__debug__" : Str)) = false := by decide) (he : ∀ i, starEach (e :: es) (X i).env = (false, eval e (X i).env) :: starEach es (X i).env := by intro _; rfl) (hpl : ∀ i, (backTo pos (starEach es (X i).env)).any (·.1) = false := by intro _; rfl) :
    DE X K W (c + cst) (.Call (.Name x p2) (e :: es) [] pos) (wCallP p Wf wl) := by
  obtain ⟨ta, pa, s⟩ := h
  obtain ⟨f, fd, ps, h1, h2, h3, h4⟩ := F.ex
  refine ⟨tCallS (spP K np cst Wf) (L2.WE W.w) ta, fun i => ?_, fun P' av H0 ed hw n H σ G Qd L h Q q => ?_⟩
  · obtain ⟨e1, e2, e3, e4, e5⟩ := hF i
    subst e1; subst e2; subst e3; subst e4; subst e5
    exact pe_callS (h4.mono (Nat.le_refl _)) ((hr i).mono hk) (hg i) h1 h2 h3 (fun σ => passAt (tk i) σ) (pa i) hdb (he i) (hpl i)
  · obtain ⟨cc, rfl⟩ := hp P' hw.1
    refine s (penP p cc) av H0 ed hw (n + cst) H σ G _ (L.le (by omega)) h _ fun vs H1 ds hd L1 e1 r1 => ?_
    obtain ⟨q', r, e0, e2, hd2⟩ := penA_of hd
    subst e0
    subst e2
    cases r1 with
    | cons r0 rr =>
      cases r0
      refine ⟨by rw [List.length_cons, rr.len, F.len r ed Qd hd2], q', cc, n, avo av σ G, _, r, ed, Qd, rfl, L1.ok, L1.isAvo (.inl rfl), L1.isAvo (.inr rfl), fun _ => L1.avoNe, rr, hd2, fun cls H' hc ex => hw.2 cls σ H' hc (L1.ext.trans ex), fun v H' d hd ex hk r => ?_⟩
      exact q v H' d hd (L1.grow ex hk) (e1.trans ex) r
/-- a def of the text that draws -/
theorem pfn_of {P : Program} {w : World} {K : Fg} {mg : Str → Option Value} {base : Heap} {x : Str} {st : Stmt} {f : Addr} {fd : FuncData} {N ps : List Str} {k np cst c' : Nat} {Wf : WF} {wb : Addr → WS} (F : Fun K x x st f fd) (S : FnScope N ps (defScope st)) (g : mg x = some (.ref f)) (b : Binds K fd ps []) (hnp : ps.length = np + 1)
    (hlen : ∀ ds ed Q, Wf ds ed Q → ds.length = np)
    (hbody : ∀ (p : Addr) (cdv : Value) (A : Around) (outer : List Env) (s : Shared) (H : Hp) (E : XK), Room k (A.deeper (envOfC x (defScope st) s.heap.objs.size f cdv)) →
      DSs (fun _ : Unit => cxOf (L2.CX P w) P w K mg base N x (defScope st) f cdv A outer s H E) K ⟨fun cls d _ H => E cls d H, pcP p⟩ c' (defBody st) (wb p))
    (hcst : c' ≤ cst)
    (hw : ∀ p ds ed Q, Wf ds ed Q → wb p (startG N (.obj (.ref p) :: ds)) (dEnds ed Q)) : PFn P w K mg base x (k + 1) np cst Wf := by
  refine ⟨hlen, f, fd, ps, g, F.kp, b, ?_⟩
  refine F.okX S (fun vs H Q E h => by rw [h.1, hnp]) fun cdv A outer s H vs Q E hr h => ?_
  obtain ⟨hl, p, c, n, av, rest, ds, ed, Qd, rfl, hok, hp, hc, ha, r, hwf, hE, hQ⟩ := h
  obtain ⟨ts, pss, sem⟩ := hbody p cdv A outer s H E hr
  refine ⟨ts, pss (), ?_⟩
  have L0 : LocOk noPen K av H 0 H (L2.start N (.ref p :: rest)) (startG N (.obj (.ref p) :: ds)) := loc_start ha (.cons (.obj _) r)
  have L : LocOk (penP p c) K av H (n + cst) H (L2.start N (.ref p :: rest)) (startG N (.obj (.ref p) :: ds)) :=
    ⟨L0.len, L0.sl, L0.inj, .refl _ _, L0.fr, hok, fun a i => i.elim (fun z => z ▸ hp) fun z => z ▸ hc, ha⟩
  refine sem (penP p c) av H (dEnds ed Qd) ⟨⟨c, rfl⟩, fun cls σ H' hc ex => hE cls H' hc ex⟩ n H _ _ (L.le (by omega)) (hw p ds ed Qd hwf) _ ⟨?_, fun _ _ _ z => z.elim, fun _ _ _ z => z.elim, ?_, ?_⟩
  · exact fun σ' H' G' h' L' r' => hQ _ H' _ h' L'.ext L'.ok .non
  · exact fun v H' d h' e' k' r' => hQ v H' d h' e' k' r'
  · exact fun p xs H' ds h' e' k' h0 h1 r' => hQ _ H' _ h' e' k' (rp_fresh ha h0 h1 r')
end
end DL

namespace DL
open PySem PySem.Spec PyProof.Rows L2
/-! ### try with several clauses, each with a name -/
abbrev Hdl := Value × Nat × (Addr → Value → Option Addr → TS)
/-- behind the suite the name is gone -/
def behind (i : Nat) (D : Ends) : Ends := { nx := fun τ J => D.nx (τ.set i none) J, rt := D.rt, bk := fun τ J => D.bk (τ.set i none) J, ct := fun τ J => D.ct (τ.set i none) J }
def wNam (K : Fg) (Wo : WX) (D : Ends) : List Hdl → WX
  | [] => Wo
  | (c, i, ts) :: more => fun cls d τ J => ∃ b, PySem.W.exmOne K cls c = some b ∧ (b = true → ∀ a, J a = none → ts a cls d (behind i D) (τ.set i (some (.ref a))) J) ∧ (b = false → wNam K Wo D more cls d τ J)
inductive HdN (X : Cx) : List ExceptHandler → List Hdl → Prop
  | nil : HdN X [] []
  | cons {x n : Str} {c : Value} {i : Nat} {ts : Addr → Value → Option Addr → TS} {st : Stmt} {sts : List Stmt} {q1 q2 : Pos} {hs : List ExceptHandler} {l : List Hdl} (nm : Names X x c) (pl : X.N[i]? = some n) (lc : X.env.kindOf n = some .local)
      (su : ∀ (a : Addr) (ob : Obj) (cls : Value) (d : Option Addr) (pn : List (Addr × Obj)), Zc cls d ob → (∃ vs, ob.data = .fields vs) → PSs (X.suite a ((a, ob) :: pn)) (st :: sts) (ts a cls d)) (r : HdN X hs l) :
      HdN X (.ExceptHandler (some (.Name x q1)) (some n) (st :: sts) q2 :: hs) ((c, i, ts) :: l)
section
variable {X : Cx} {body : List Stmt} {h₀ : ExceptHandler} {hs : List ExceptHandler} {l : List Hdl} {pos : Pos} {tb : WX → TS} {Wo : WX}
/-- an exception that has come to the handlers: what is known of it there -/
structure Caught (X : Cx) (pins : List (Addr × Obj)) (a : Addr) (B : Heap) (sI s' : Shared) (τ : Sg) (J : Hp) (cls : Value) (d : Option Addr) (h3 : Heap) : Prop where
  inv : Inv X pins τ J sI
  nb : ∀ b o, sI.heap.get? b = some o → b ∉ frs X.stack → B.get? b = some o
  up : sI.heap.UpToSlots h3
  fly : HandSPX.FlyingZ B (X.env :: X.outer) a (Zc cls d) h3
  na : J a = none
  os : s'.os = sI.os
  ag : AllBare s'.gens
theorem Caught.now {pins : List (Addr × Obj)} {a : Addr} {B : Heap} {sI s' : Shared} {τ : Sg} {J : Hp} {cls : Value} {d : Option Addr} {h3 : Heap} (k : Caught X pins a B sI s' τ J cls d h3) : Inv X pins τ J { s' with heap := h3 } := k.inv.landed k.nb k.fly.1 k.up k.os k.ag
theorem Caught.apart {pins : List (Addr × Obj)} {a : Addr} {B : Heap} {sI s' : Shared} {τ : Sg} {J : Hp} {cls : Value} {d : Option Addr} {h3 : Heap} (hf : X.env.frame = some X.env.locals) (k : Caught X pins a B sI s' τ J cls d h3) : a ≠ X.env.locals ∧ a ∉ X.fs := by
  obtain ⟨ob, vs, e1, _, e2⟩ := k.fly.there
  have out : a ∉ frs (X.env :: X.outer) := fun m => by
    obtain ⟨_, o2, g1, g2⟩ := k.fly.2.2.1.mem m
    rw [e1] at g1
    cases g1
    exact g2 _ e2
  constructor
  · intro z
    exact out (List.mem_filterMap.mpr ⟨X.env, List.mem_cons_self, by rw [hf, z]⟩)
  · intro z
    obtain ⟨en, m1, m2⟩ := List.mem_filterMap.mp z
    exact out (List.mem_filterMap.mpr ⟨en, List.mem_cons_of_mem _ m1, m2⟩)
theorem handled {pins : List (Addr × Obj)} {D : Ends} {a : Addr} {B : Heap} {sI s' : Shared} {τ : Sg} {J : Hp} {cls : Value} {d : Option Addr} {h3 : Heap} (ok : X.Ok) (hN : X.N.Nodup) (hst : X.stack = X.env :: X.outer) (hf : X.env.frame = some X.env.locals) (tk : Takes X Wo) (k : Caught X pins a B sI s' τ J cls d h3) :
    ∀ {hs : List ExceptHandler} {l : List Hdl}, HdN X hs l → wNam X.K Wo D l cls d τ J → wpAny (model X.prog X.w) X.A (handleBy (.ref a) X.env hs) (SP X pins D) X.xe { s' with heap := h3 } := by
  intro hs l hh
  induction hh with
  | nil =>
    intro w
    refine wpAny_handleBy_nil ?_
    have fly := k.fly
    obtain ⟨_, _, _, ob, vs, T, oT, us, g1, g2, g3, g4, g5⟩ := id fly
    have last : wpAny (model X.prog X.w) X.A (setFlight (.ref a) X.env.frame) (fun _ s4 => wpAny (model X.prog X.w) X.A (throw (.ref a) : Sem Flow) (SP X pins D) X.xe s4) X.xe { s' with heap := h3 } := by
      rw [hf]
      exact HandSPX.setFlight_upZ fly fun h4 held up4 => wpAny_throw (tk _ _ ⟨a, B, sI, pins, τ, J, cls, d, rfl, k.inv, k.nb, k.up.trans up4, .inr (.inr (by rw [hst]; exact held)), k.na, k.os, k.ag, w⟩)
    unfold PySem.passOn
    refine wpAny_bind (wpAny_field g1 g3 g4 ?_)
    have no : ¬ ((Value.ref T == Value.none) = true) := by simp
    rw [if_neg no]
    first
      | exact wpAny_bind last
      | exact wpAny_bind (wpAny_pure (wpAny_bind last))
  | @cons x n c i ts st sts q1 q2 hs2 l2 nm pl lc su r ih =>
    intro w
    obtain ⟨b, known, yes, no⟩ := w
    obtain ⟨nL, nF⟩ := k.apart hf
    obtain ⟨ob3, vs3, o1, o2, o3⟩ := k.fly.there
    have here := k.now.suite (a := a) o1 o3 k.na nL nF
    refine wpAny_handleBy_cons (codeAny_handlers_test ?_) (by intro z; cases z)
    have ofCls : PySem.W.Looks (model X.prog X.w) h3 (typeOf (.ref a)) cls := fun _ _ _ _ kp z => wpAny_typeOf_ref (kp _ _ o1) (by rw [o2.1]; exact z)
    have tells := PySem.W.exm_one (M := model X.prog X.w) k.now.kIn ofCls known
    have named : ∀ {Q : Value → Shared → Prop} {E : Value → Shared → Prop}, Q c { s' with heap := h3 } → wpAny (model X.prog X.w) (X.A.mark (some (.ref a))) (eval (.Name x q1) X.env) Q E { s' with heap := h3 } := by
      intro Q E z
      obtain ⟨y1, y2, y3⟩ := nm
      rcases y3 with y3 | ⟨y3, y4, y5⟩
      · exact ld_glob (X := X.suite a ((a, ob3) :: (X.pn ++ pins))) here y1 y3 z y2
      · exact ld_blt (X := X.suite a ((a, ob3) :: (X.pn ++ pins))) here y1 y3 y4 z y5 y2
    refine named (tells.here ?_)
    cases b with
    | false => exact ih (no rfl)
    | true =>
      refine codeAny_handlers_suite_as (HandSPX.lands_againZ k.fly fun h4 fly4 up4 => ?_)
      have now4 : Inv X pins τ J { s' with heap := h4 } := k.inv.landed k.nb fly4.1 (k.up.trans up4) k.os k.ag
      obtain ⟨ob4, vs4, p1, p2, p3⟩ := fly4.there
      have inside := now4.suite (a := a) p1 p3 k.na nL nF
      refine store_ok (X := X.suite a ((a, ob4) :: (X.pn ++ pins))) (v := .ref a) inside hN pl (.inl lc) rfl (fun s5 I5 => ?_) (.inr lc)
      refine wpAny_mono ((su a ob4 cls d (X.pn ++ pins) p2 ⟨_, p3⟩).run [] s5 _ J _ I5 (yes rfl a k.na)) (fun fl s6 told => ?_) fun _ _ z => z.elim
      have away : ∀ {τ6 : Sg} {J6 : Hp} {Q : Shared → Prop}, Inv (X.suite a ((a, ob4) :: (X.pn ++ pins))) [] τ6 J6 s6 → (∀ s7, Inv X pins (τ6.set i none) J6 s7 → Q s7) →
          wpAny (model X.prog X.w) X.A (do bindName X.env n .none; unbindBehindTheSuite X.env n q2) (fun _ s7 => Q s7) X.xe s6 := fun {τ6 J6 Q} I6 z => gone_ok (I6.unsuite ok) hN pl lc z
      cases fl <;> simp only [SP, behind] at told
      · obtain ⟨τ6, J6, I6, z⟩ := told
        exact away I6 fun s7 I7 => ⟨_, _, I7, z⟩
      · obtain ⟨τ6, J6, I6, z⟩ := told
        exact away I6 fun s7 I7 => ⟨_, _, I7, z⟩
      · obtain ⟨τ6, J6, I6, z⟩ := told
        exact away I6 fun s7 I7 => ⟨_, _, I7, z⟩
      · obtain ⟨v6, τ6, J6, I6, rv, z⟩ := told
        exact away I6 fun s7 I7 => ⟨_, _, _, I7, rv, z⟩
theorem ps_try_named (hN : X.N.Nodup) (hst : X.stack = X.env :: X.outer) (hf : X.env.frame = some X.env.locals) (tk : Takes X Wo)
    (hb : ∀ (W : WX) (pn : List (Addr × Obj)) (xe : Value → Shared → Prop), Takes (X.tr pn xe) W → PassesOwn (model X.prog X.w) X.A X.env xe → PSs (X.tr pn xe) body (tb W)) (hh : HdN X (h₀ :: hs) l) :
    PS X (.Try body (h₀ :: hs) [] [] pos) (fun D τ J => tb (wNam X.K Wo D l) D τ J) := by
  constructor
  intro pins s τ J D I h
  have ok := I.ok
  have frames : X.A.frames = some (X.env :: X.outer) := ok.frames.trans (congrArg some hst)
  refine wpAny_Try_except (wpAny_mono ((hb (wNam X.K Wo D l) (X.pn ++ pins) (fun e s₁ => wpAny (model X.prog X.w) X.A (noteFrame e X.env) (fun _ s₂ => wpAny (model X.prog X.w) X.A (setFlight e none)
    (fun _ s₃ => wpAny (model X.prog X.w) X.A (handleBy e X.env (h₀ :: hs)) (SP X pins D) X.xe s₃) X.xe s₂) X.xe s₁) ?_ PassesOwn.looking).run [] s τ J D (I.toTry _) h) (fun fl s1 told => ?_) fun _ _ z => z)
  · rintro u s' ⟨a, B, sI, pins', τ', J', cls, d, rfl, I', nb, up, sky, na, os, ag, w⟩
    show wpAny (model X.prog X.w) X.A (noteFrame (.ref a) X.env) _ _ _
    refine Sky.land Zc.steady frames hf (by rw [← hst]; exact sky) fun h3 fly up3 => ?_
    exact handled ok hN hst hf tk ⟨I'.ofTry ok, nb, up.trans up3, fly, na, os, ag⟩ hh w
  · cases fl <;> simp only [SP] at told
    · obtain ⟨τ6, J6, I6, z⟩ := told
      exact wpAny_execs_nil ⟨_, _, I6.ofTry ok, z⟩
    · obtain ⟨τ6, J6, I6, z⟩ := told
      exact ⟨_, _, I6.ofTry ok, z⟩
    · obtain ⟨τ6, J6, I6, z⟩ := told
      exact ⟨_, _, I6.ofTry ok, z⟩
    · obtain ⟨v6, τ6, J6, I6, rv, z⟩ := told
      exact ⟨_, _, _, I6.ofTry ok, rv, z⟩
end
end DL

namespace DL
open PySem PySem.Spec PyProof.Rows L2
/-! ### zip of a text and a tuple -/
def ItzS (K : Fg) (x : Str) (b : Addr) : It where
  go := fun i H => ∃ (ys : List V) (sg : Nat) (y : V), SqT K H b ys ∧ x.cps[i]? = some sg ∧ ys[i]? = some y
  yld := fun i H v H' => ∃ T sg y, v = .ref T ∧ H T = none ∧ H' = upd H T (.tup [.str ⟨#[sg]⟩, y]) ∧ x.cps[i]? = some sg ∧ ∀ ys, SqT K H b ys → ys[i]? = some y
  stop := fun i H => ∃ ys : List V, SqT K H b ys ∧ i ≤ x.cps.size ∧ i ≤ ys.length ∧ (i = x.cps.size ∨ i = ys.length)
theorem sep_of {z TI TO j1 j2 b : Addr} (S : ZipApart z TI TO j1 j2 b b) : ZipSep2 z TI TO j1 j2 [j1] [j2, b] where
  TIz := S.TIz
  TOz := S.TOz
  TITO := S.TITO
  TIi1 := S.TIi1
  mem1 := by simp
  zf1 := fun m => S.i1z (List.mem_singleton.mp m).symm
  Tf1 := fun m => S.TOi1 (List.mem_singleton.mp m)
  TIi2 := S.TIi2
  mem2 := by simp
  zf2 := fun m => (List.mem_cons.mp m).elim (fun q => S.i2z q.symm) fun m => S.l1z (List.mem_singleton.mp m).symm
  Tf2 := fun m => (List.mem_cons.mp m).elim (fun q => S.TOi2 q) fun m => S.l1TO (List.mem_singleton.mp m).symm
  sep1_2 := fun m => (List.mem_cons.mp m).elim (fun q => S.i12 q) fun m => S.l1i1 (List.mem_singleton.mp m).symm
  sep2_1 := fun m => S.i12 (List.mem_singleton.mp m).symm
theorem five {c z TI TO j1 j2 : Addr} (m : c ∈ [z, TI, TO, j1, j2]) : c = z ∨ c = TI ∨ c = TO ∨ c = j1 ∨ c = j2 := by simpa using m
theorem turn_zipS {P : Program} {w : World} {K : Fg} {elts : List Expr} {kk : Nat} {tpos : Pos} {x : Str} {t : Tok} {b z TI TO j1 j2 : Addr} (S : ZipApart z TI TO j1 j2 b b) :
    Turn P w K (.Tuple elts kk tpos) (ItzS K x b) [z, TI, TO, j1, j2] z (fun i h => IsZip h z TI TO .none ∧ IsPair h TI (.ref j1) (.ref j2) ∧ (∃ p q, IsPair h TO p q) ∧ h.IsStrIter j1 (strIterType x) x t i ∧ h.IsTupleIter j2 b i) where
  mem := by simp
  obj := fun i h st c m => by
    obtain ⟨s1, s2, ⟨p, q, s3⟩, ⟨u1, e1, _, d1⟩, u2, e2, _, d2⟩ := st
    rcases five m with rfl | rfl | rfl | rfl | rfl
    · exact ⟨_, s1, fun _ z => nomatch z⟩
    · exact ⟨_, s2, fun _ z => nomatch z⟩
    · exact ⟨_, s3, fun _ z => nomatch z⟩
    · exact ⟨u1, e1, fun _ z => by rw [d1] at z; cases z⟩
    · exact ⟨u2, e2, fun _ z => by rw [d2] at z; cases z⟩
  keep := fun i h h' st k => by
    obtain ⟨s1, s2, ⟨p, q, s3⟩, ⟨u1, e1, r1⟩, s5⟩ := st
    exact ⟨k z (by simp) _ s1, k TI (by simp) _ s2, ⟨p, q, k TO (by simp) _ s3⟩, ⟨u1, k j1 (by simp) _ e1, r1⟩, s5.at fun o q => k j2 (by simp) o q⟩
  item := by
    rintro X rfl rfl rfl hc i pins s σ H E I hf ⟨s1, s2, ⟨p, q, s3⟩, s4, s5⟩ ⟨ys, sg, y, g1, g2, g3⟩
    obtain ⟨its, rv, tb, _⟩ := I.tuple g1
    obtain ⟨u, hu, ru⟩ := rv.get g3
    have zl : z < s.heap.objs.size := Heap.lt_size s1
    have l1 : i < x.cps.size := (Array.getElem?_eq_some_iff.mp g2).1
    have l2 : i < its.toArray.size := by have := (List.getElem?_eq_some_iff.mp hu).1; simpa using this
    have hd : X.A.in1.handled = none := I.ok.hd hc
    have D1 := Draws.text (prog := X.prog) (w := X.w) hd j1 x t
    have D2 := Draws.tuple (prog := X.prog) (w := X.w) hd j2 b S.l1i2 its.toArray
    refine wpAny_pyNext_zipD2_item (sep_of S) D1 D2 s1 s2 s3 s4 ⟨s5, tb⟩ l1 l2 fun a1 a2 h1 tk y1 y2 b1 b2 b3 b4 b5 b6 b7 => ?_
    obtain ⟨c, v, hcx, rfl⟩ := y1
    rw [g2] at hcx
    cases hcx
    have ea : a2 = u := by
      have y2 : its.toArray[i]? = some a2 := y2
      rw [List.getElem?_toArray, hu] at y2
      exact (Option.some.inj y2).symm
    subst ea
    refine ⟨_, rfl, wpAny_letOwnedTupleGo_zip (s := { s with heap := h1, toks := tk }) b1 fun h2 c1 sb => ?_⟩
    have pr : h2.get? s.heap.objs.size = some { cls := .type "tuple", data := .seq #[.str ⟨#[sg]⟩ v, a2] } := (sb.2 _ (Nat.ne_of_gt zl)).trans b5
    have new : ObjOk X.prog X.w (upd H s.heap.objs.size (.tup [.str ⟨#[sg]⟩, y])) h2 s.heap.objs.size (.tup [.str ⟨#[sg]⟩, y]) :=
      ⟨by show 2 ≤ sizeLine; decide, [.str ⟨#[sg]⟩ v, a2], .cons ⟨v, rfl⟩ (.cons ru .nil), _, pr, rfl, _, rfl⟩
    have old : ∀ c o, c ∉ [z, TI, TO, j1, j2] → s.heap.get? c = some o → h2.get? c = some o := fun c o no e =>
      (sb.2 c (fun q => no (by simp [q]))).trans (b7 c o (fun q => no (by simp [q])) (fun q => no (by simp [q])) (fun q => no (by simp [q])) (fun q => no (by simp [q])) e)
    have I1 : Inv X pins σ (upd H s.heap.objs.size (.tup [.str ⟨#[sg]⟩, y])) { s with heap := h2, toks := tk } := I.turnedNew (t' := tk) (ch := [z, TI, TO, j1, j2]) old hf (Nat.le_refl _) new
    refine ⟨.ref s.heap.objs.size, _, I1, rfl, ⟨_, sg, y, rfl, I.hok.fresh (Nat.le_refl _), rfl, g2, fun l hl => by rw [I.tuple_inj hl g1]; exact g3⟩, ⟨c1, ?_, ⟨_, _, (sb.2 _ S.TOz).trans b2⟩, ?_, ?_⟩, fun c m => ?_⟩
    · exact (sb.2 _ S.TIz).trans (b7 _ _ S.TIz S.TITO S.TIi1 S.TIi2 s2)
    · obtain ⟨o4, e4, r4⟩ := b3
      exact ⟨o4, (sb.2 _ S.i1z).trans e4, r4⟩
    · exact b4.1.at fun o q => (sb.2 _ S.i2z).trans q
    · have lt : c < s.heap.objs.size := by
        obtain ⟨u1, e1, _⟩ := s4
        obtain ⟨u2, e2, _⟩ := s5
        rcases five m with rfl | rfl | rfl | rfl | rfl
        · exact zl
        · exact Heap.lt_size s2
        · exact Heap.lt_size s3
        · exact Heap.lt_size e1
        · exact Heap.lt_size e2
      rw [upd_ne (Nat.ne_of_lt lt)]
      exact (hf c m).1
  done := by
    rintro X rfl rfl rfl hc i pins s σ H E I hf ⟨s1, s2, ⟨p, q, s3⟩, s4, s5⟩ ⟨ys, g1, g2, g3, g4⟩
    obtain ⟨its, rv, tb, _⟩ := I.tuple g1
    have el : its.toArray.size = ys.length := by have := rv.length; simp; omega
    have hd : X.A.in1.handled = none := I.ok.hd hc
    have D1 := Draws.text (prog := X.prog) (w := X.w) hd j1 x t
    have D2 := Draws.tuple (prog := X.prog) (w := X.w) hd j2 b S.l1i2 its.toArray
    refine wpAny_pyNext_zipD2_end (sep_of S) D1 D2 s1 s2 s3 s4 ⟨s5, tb⟩ g2 (by rw [el]; exact g3) (by rw [el]; exact g4) fun h1 tk old => ?_
    exact ⟨rfl, I.turnedL (t' := tk) (ch := [z, TI, TO, j1, j2]) (fun c o no e => old c o (fun q => no (by simp [q])) (fun q => no (by simp [q])) (fun q => no (by simp [q])) (fun q => no (by simp [q])) e) hf⟩
  self := fun A i s Q E st h => wpAny_pyIter_zip st.1 h
def iZipS (K : Fg) (ta : TA) : TI := fun σ H R => ta σ H fun vs H1 => ∃ x b ys, vs = [.str x, .ref b] ∧ SqT K H1 b ys ∧ R (ItzS K x b) H1
theorem pi_zipS {X : Cx} {e e2 : Expr} {ta : TA} {p pos tpos : Pos} {elts : List Expr} {kk : Nat} (hg : Gl X "zip") (hm : X.mg "zip" = none) (ha : PA X [e, e2] ta)
    (hs : starEach [e, e2] X.env = (false, eval e X.env) :: starEach [e2] X.env := by rfl) (hpl : (backTo pos (starEach [e2] X.env)).any (·.1) = false := by rfl) : PI X (.Tuple elts kk tpos) (.Call (.Name "zip" p) [e, e2] [] pos) (iZipS X.K ta) := by
  constructor
  intro pins s σ H R I hyp
  refine Call_ (ld_blt I hg hm PyProof.Rows.boot_zip (PyProof.Rows.callWith_type1 (thn (ha.run pos pins s σ H _ I hyp) ?_) hs hpl))
  rintro us s1 ⟨vs, H1, I1, r1, x, b, ys, rfl, sq, q⟩
  cases r1 with
  | cons r rr =>
    cases rr with
    | cons r' rr =>
      cases rr
      obtain ⟨t, rfl⟩ := r
      cases r'
      obtain ⟨its, rv, tb, _⟩ := I1.tuple sq
      obtain ⟨ob, eb, _⟩ := id tb
      have bl := Heap.lt_size eb
      refine zip_begins2 (begins_text x t) (begins_tuple b its.toArray) trivial tb fun h' a1 a2 a3 a4 a5 a6 up => wpAny_pyIter_zip a1 ?_
      refine ⟨s1.heap.objs.size + 4, [s1.heap.objs.size + 4, s1.heap.objs.size + 2, s1.heap.objs.size + 3, s1.heap.objs.size, s1.heap.objs.size + 1], _, _, H1, rfl, I1.kept (t' := s1.toks) up, turn_zipS (PySem.W.ktu_apart s1.heap.objs.size b b bl bl), ⟨a1, a2, ⟨_, _, a3⟩, ⟨_, a4, rfl, rfl⟩, ⟨_, a5, rfl, rfl⟩⟩, fun c m => ?_, q⟩
      have le : s1.heap.objs.size ≤ c := by
        rcases five m with rfl | rfl | rfl | rfl | rfl <;> first | exact Nat.le_refl _ | exact Nat.le_add_right _ _
      exact I1.fpOk le (I1.hok.fresh le)
def zipD (z : Str) (ds : List D) : List D := List.zipWith (fun c d => D.tup [.str ⟨#[c]⟩, d]) z.cps.toList ds
theorem walks_zipS {K : Fg} {av : Av} {H : Hp} {P : Pn} {xs : List V} {ds : List D} {b : Addr} (z : Str) (n : NT K av H b xs) (r : Rps K av H xs ds) : Walks P K av H (ItzS K z b) (zipD z ds) := by
  have el : (zipD z ds).length = min z.cps.size xs.length := by unfold zipD; rw [List.length_zipWith, r.len, Array.length_toList]
  refine ⟨fun H => SqT K H b xs, YPair (fun i => z.cps[i]?.map fun c => V.str ⟨#[c]⟩) (fun i => xs[i]?), ?_, fun H' e => (n.ext e (fun _ z => z) (fun _ _ z => z)).sq, fun i x H1 H2 av2 hi h2 ha e y => ?_⟩
  · rw [el]
    refine ⟨fun i H' hi q => ?_, fun H' q => ⟨xs, q, by omega, by omega, by omega⟩, fun i H1 v H2 hi q y => ?_⟩
    · have h1 : i < z.cps.size := by omega
      have h2 : i < xs.length := by omega
      exact ⟨xs, z.cps[i], xs[i], q, Array.getElem?_eq_getElem h1, List.getElem?_eq_getElem h2⟩
    · obtain ⟨T, sg, y, k1, k2, k3, k4, k5⟩ := y
      exact ⟨T, .str ⟨#[sg]⟩, y, k1, k2, k3, by show Option.map _ z.cps[i]? = _; rw [k4]; rfl, k5 xs q⟩
  · obtain ⟨T, u, v, rfl, nT, rfl, hu, hv⟩ := y
    rw [el, r.len] at hi
    have h1 : i < z.cps.size := by omega
    obtain ⟨d, hd⟩ : ∃ d, ds[i]? = some d := ⟨_, List.getElem?_eq_getElem (by omega)⟩
    obtain ⟨v', e1, e2⟩ := r.get hd
    rw [show xs[i]? = some v from hv] at e1
    cases e1
    have hu : z.cps[i]?.map (fun c => V.str ⟨#[c]⟩) = some u := hu
    rw [Array.getElem?_eq_getElem h1] at hu
    cases hu
    refine ⟨.tup [.str ⟨#[z.cps[i]]⟩, d], ?_, ex_new nT, .tup (.inl ⟨upd_same, fun z => ha T z nT⟩) (.cons (.str _) (.cons ?_ .nil))⟩
    · unfold zipD
      rw [List.getElem?_zipWith, hd, Array.getElem?_toList, Array.getElem?_eq_getElem h1]
    · exact (e2.ext e (fun _ z => z) h2 : Rp K av2 H1 v d).ext (is := fun _ => False) (.new nT) (fun _ z => z.elim) (fun _ _ z => z)
def zipA : List D → (List D → Prop) → Prop
  | [.str z, .tup ds], Q => Q (zipD z ds)
  | _, _ => False
theorem zipA_of {es : List D} {Q : List D → Prop} (h : zipA es Q) : ∃ z ds, es = [.str z, .tup ds] ∧ Q (zipD z ds) := by
  unfold zipA at h
  split at h
  · exact ⟨_, _, rfl, h⟩
  · exact h.elim
def wZip (w : WL) : WL := fun G ed Q => w G ed fun es => zipA es Q
section
variable {ι : Type} {X : ι → Cx} {K : Fg} {W : Ctl} {c : Nat} {e e2 : Expr} {wl : WL} {pos p tpos : Pos} {elts : List Expr} {kk : Nat}
theorem di_zip (hK : ∀ i, (X i).K = K) (hm : ∀ i, (X i).mg "zip" = none) (h : DA X K W c [e, e2] wl) (hg : ∀ i, Gl (X i) "zip" := by intro _; rfl)
    (hs : ∀ i, starEach [e, e2] (X i).env = (false, eval e (X i).env) :: starEach [e2] (X i).env := by intro _; rfl) (hpl : ∀ i, (backTo pos (starEach [e2] (X i).env)).any (·.1) = false := by intro _; rfl) :
    DI X K W c (.Tuple elts kk tpos) (.Call (.Name "zip" p) [e, e2] [] pos) (wZip wl) := by
  obtain ⟨ta, pa, s⟩ := h
  refine ⟨iZipS K ta, fun i => (by rw [← hK i]; exact pi_zipS (hg i) (hm i) (pa i) (hs i) (hpl i)), fun P av H0 ed hw n H σ G Qd L h R q => s P av H0 ed hw n H σ G _ L h _ fun vs H1 es he L1 e1 r1 => ?_⟩
  obtain ⟨z, ds, rfl, hq⟩ := zipA_of he
  cases r1 with
  | cons r rr =>
    cases rr with
    | cons r' rr =>
      cases rr
      cases r
      cases r' with
      | tup nn r => exact ⟨_, _, _, rfl, nn.sq, q _ _ _ hq L1 e1 (walks_zipS z nn r)⟩
end
end DL

namespace DL
open PySem PySem.Spec PyProof.Rows L2
/-! ### data compared at any depth -/
mutual
def pyD : D → Option PyData
  | .non => some .none
  | .bl b => some (.bool b)
  | .int i => some (.int i)
  | .str s => some (.str s)
  | .lst xs => (pyDs xs).map .list
  | .tup xs => (pyDs xs).map .tuple
  | .obj _ => none
  | .dic _ _ => none
  | .err _ _ => none
def pyDs : List D → Option (List PyData)
  | [] => some []
  | d :: r => match pyD d, pyDs r with
    | some p, some ps => some (p :: ps)
    | _, _ => none
end
section
variable {K : Fg} {is av : Av} {H : Hp}
mutual
theorem rp_dp : ∀ {v : V} {d : D} {p : PyData}, Rp K av H v d → pyD d = some p → Dp K H v p
  | _, _, _, .non, e => by cases e; exact .non
  | _, _, _, .bl b, e => by cases e; exact .bl b
  | _, _, _, .int i, e => by cases e; exact .int i
  | _, _, _, .str s, e => by cases e; exact .str s
  | _, _, _, .lst (ds := ds) n hs, e => by
    rw [pyD] at e
    cases q : pyDs ds with
    | none => rw [q] at e; exact nomatch e
    | some ps => rw [q] at e; cases e; exact .lst n.sq (rps_dp hs q)
  | _, _, _, .tup (ds := ds) n hs, e => by
    rw [pyD] at e
    cases q : pyDs ds with
    | none => rw [q] at e; exact nomatch e
    | some ps => rw [q] at e; cases e; exact .tup n.sq (rps_dp hs q)
  | _, _, _, .obj _, e => nomatch e
  | _, _, _, .dic _ _ _, e => nomatch e
  | _, _, _, .err _, e => nomatch e
theorem rps_dp : ∀ {vs : List V} {ds : List D} {ps : List PyData}, Rps K av H vs ds → pyDs ds = some ps → DpAll K H vs ps
  | _, _, _, .nil, e => by cases e; exact .nil
  | _, _, _, .cons (d := d) (ds := ds) h hs, e => by
    rw [pyDs] at e
    cases q1 : pyD d with
    | none => rw [q1] at e; exact nomatch e
    | some p =>
      cases q2 : pyDs ds with
      | none => rw [q1, q2] at e; exact nomatch e
      | some ps => rw [q1, q2] at e; cases e; exact .cons (rp_dp h q1) (rps_dp hs q2)
end
theorem rq_dp {v : V} {d : D} {p : PyData} (h : Rq K is av H v d) (e : pyD d = some p) : Dp K H v p := by
  cases d with
  | lst ds =>
    obtain ⟨a, xs, rfl, n, hs⟩ := h
    rw [pyD] at e
    cases q : pyDs ds with
    | none => rw [q] at e; exact nomatch e
    | some ps => rw [q] at e; cases e; exact .lst (.inl (.inl n.1)) (rps_dp hs q)
  | non => exact rp_dp h e
  | bl b => exact rp_dp h e
  | int i => exact rp_dp h e
  | str s => exact rp_dp h e
  | tup ds => exact rp_dp h e
  | obj v => exact rp_dp h e
  | dic ks ds => exact nomatch e
  | err c m => exact rp_dp h e
end
def fEqD (g : Bool → Bool) : D → D → (D → Prop) → Prop := fun x y Q => onO (pyD x) fun p => onO (pyD y) fun q => SeqAt.shaped p = true ∧ SeqAt.shaped q = true ∧ Q (.bl (g (PyData.eqv p q)))
theorem opEqD {K : Fg} {g : Bool → Bool} {r : R2} (hr : ∀ x y H Q, (∃ d e, Dp K H x d ∧ Dp K H y e ∧ SeqAt.shaped d = true ∧ SeqAt.shaped e = true ∧ Q (.bl (g (PyData.eqv d e))) H) → r x y H Q) : OpS K r (fEqD g) := by
  intro is av H x y dx dy Qd hi ha rx ry h Q q
  obtain ⟨p, e1, h⟩ := onO_of h
  obtain ⟨p2, e2, h1, h2, h3⟩ := onO_of h
  exact hr _ _ _ _ ⟨p, p2, rq_dp rx e1, rq_dp ry e2, h1, h2, q _ H _ h3 (fun _ _ z => z) (.bl _)⟩
section
variable {ι : Type} {X : ι → Cx} {K : Fg} {W : Ctl} {c1 c2 : Nat} {a b : Expr} {wa wb : WE} {pos : Pos}
theorem dx_eqD {k : Nat} (hK : ∀ i, (X i).K = K) (hr : ∀ i, Room k (X i).A) (ha : DR X K W c1 a wa) (hb : DR X K W c2 b wb) : DX X K W (c1 + c2) (.Compare a [.Eq] [b] pos) (w2 (fEqD id) wa wb) :=
  twoX (r := rEqD K) (opEqD fun _ _ _ _ h => h) (fun i _ _ pa pb => by rw [← hK i]; exact ⟨pe_cmpR (op_eqD (hr i).units) pa pb (nomark _), pt_cmpR (op_eqD (hr i).units) pa pb (nomark _)⟩) ha hb
theorem dx_neD {k : Nat} (hK : ∀ i, (X i).K = K) (hr : ∀ i, Room k (X i).A) (ha : DR X K W c1 a wa) (hb : DR X K W c2 b wb) : DX X K W (c1 + c2) (.Compare a [.NotEq] [b] pos) (w2 (fEqD not) wa wb) :=
  twoX (r := rNeD K) (opEqD fun _ _ _ _ h => h) (fun i _ _ pa pb => by rw [← hK i]; exact ⟨pe_cmpR (op_neD (hr i).units) pa pb (nomark _), pt_cmpR (op_neD (hr i).units) pa pb (nomark _)⟩) ha hb
end
/-! data of atoms -/
def pyA : D → PyData
  | .bl b => .bool b
  | .int i => .int i
  | .str s => .str s
  | _ => .none
theorem pyDs_atoms {α : Type} (f : α → D) (g : α → PyData) (h : ∀ x, pyD (f x) = some (g x)) : ∀ xs : List α, pyDs (xs.map f) = some (xs.map g)
  | [] => by rw [List.map_nil, pyDs]; rfl
  | x :: r => by rw [List.map_cons, pyDs, h x, pyDs_atoms f g h r]; rfl
end DL

namespace DL
open PySem PySem.Spec PyProof.Rows L2
/-! ### a def that calls what it got and tells the word of the error -/
abbrev Cw := Value × Str
/-- which word the first clause that catches tells -/
def told (K : Fg) (cls : Value) (Q : Str → Prop) : List Cw → Prop
  | [] => False
  | (c, t) :: r => ∃ b, PySem.W.exmOne K cls c = some b ∧ (b = true → Q t) ∧ (b = false → told K cls Q r)
def TWord (K : Fg) (cs : List Cw) (last : Str) : (XK → Hp → VK → Prop) → Hp → VK → Prop := fun tl H Q => tl (fun cls _ J => told K cls (fun t => Q (.str t) J) cs) H fun _ J => Q (.str last) J
inductive WordH (X : Cx) (n : Str) : List ExceptHandler → List Cw → Prop
  | nil : WordH X n [] []
  | cons {x : Str} {c : Value} {t : Str} {j : Nat} {q1 q2 q3 q4 : Pos} {hs : List ExceptHandler} {l : List Cw} (nm : Names X x c) (r : WordH X n hs l) :
      WordH X n (.ExceptHandler (some (.Name x q1)) (some n) [.Return (some (.Constant (.str t) j q3)) q4] q2 :: hs) ((c, t) :: l)
def hdls (i : Nat) (l : List Cw) : List Hdl := l.map fun p => (p.1, i, fun _ _ _ => tRet (tC (.str p.2)))
theorem WordH.hd {X : Cx} {n : Str} {i : Nat} (pl : X.N[i]? = some n) (lc : X.env.kindOf n = some .local) {hs : List ExceptHandler} {l : List Cw} (h : WordH X n hs l) : HdN X hs (hdls i l) := by
  induction h with
  | nil => exact .nil
  | cons nm r ih => exact .cons nm pl lc (fun a ob cls d pn _ _ => pss_one (ps_ret pe_str)) ih
theorem told_nam {K : Fg} {i : Nat} {Wo : WX} {D : Ends} {cls : Value} {d : Option Addr} {τ : Sg} {J : Hp} : ∀ {l : List Cw}, told K cls (fun t => D.rt (.str t) J) l → wNam K Wo D (hdls i l) cls d τ J
  | [], h => h.elim
  | (c, t) :: r, h => by
    obtain ⟨b, e, h1, h2⟩ := h
    exact ⟨b, e, fun z a _ => h1 z, fun z => told_nam (h2 z)⟩
theorem word_gives {X : Cx} {Ng : List Str} {x a n q last : Str} {sg : Scope} {g : Addr} {cdg : Value} {j i : Nat} {p1 p2 p3 p4 p5 p6 : Pos} {hs : List ExceptHandler} {h₀ : ExceptHandler} {cs : List Cw} (nd : Ng.Nodup) (pl : Ng[i]? = some n)
    (lc : ∀ (s : Shared) (H : Hp), (cxOf C8.CX0 X.prog X.w X.K X.mg X.base Ng x sg g cdg X.A X.stack s H C8.E0).nox.env.kindOf n = some .local) (h0 : ∀ f : Addr, (L2.start Ng [V.ref f])[0]? = some (some (V.ref f)))
    (hh : ∀ (s : Shared) (H : Hp), WordH (cxOf C8.CX0 X.prog X.w X.K X.mg X.base Ng x sg g cdg X.A X.stack s H C8.E0).nox n (h₀ :: hs) cs)
    (hsw : ∀ (s : Shared) (H : Hp), swapsWith (.Call (.Name a p1) [] [] p2) none p3.line (cxOf C8.CX0 X.prog X.w X.K X.mg X.base Ng x sg g cdg X.A X.stack s H C8.E0).env = pure false := by intro _ _; rfl) :
    LamX.GivesTo X Ng x sg g cdg [.Try [.Expr (.Call (.Name a p1) [] [] p2) p3] (h₀ :: hs) [] [] p4, .Return (some (.Constant (.str last) j p5)) p6] a q (TWord X.K cs last) := by
  intro f c' s H Q tl act hc h
  refine ⟨_, pss_cons (ps_try_named (X := (cxOf C8.CX0 X.prog X.w X.K X.mg X.base Ng x sg g cdg X.A X.stack s H C8.E0).nox) (l := hdls i cs) (Wo := fun _ _ _ _ => False)
      (tb := fun W D σ H => ∃ Ech : XK, (∀ cls d σ' H', Ech cls d H' → W cls d σ' H') ∧ σ[0]? = some (some (.ref f)) ∧ H c' = some (LamX.CodeO c' q) ∧ tl Ech H fun _ H' => D.nx σ H')
      nd rfl rfl LamX.takes0 (fun W pn xe tk _ => ?_) ((hh s H).hd pl (lc s H))) (pss_one (ps_ret pe_str)), ?_⟩
  · refine ⟨fun pins s' σ H D I ⟨Ech, hW, k1, k2, k3⟩ => ?_⟩
    exact (pss_one (ps_expr (act W pn xe Ech p1 p2 tk hW) (hsw s H))).run pins s' σ H D I ⟨k1, k2, k3⟩
  · exact ⟨fun cls _ J => told X.K cls (fun t => Q (.str t) J) cs, fun cls d σ' H' z => told_nam z, h0 f, hc, h⟩
end DL

namespace DL
open PySem PySem.Spec PyProof.Rows L2
open LamX (Tabs TabS TabB CodeO codeO_ne inv_table lamEnv lamCx LamS GivesTo)
/-! ### a lambda is made: but for its table all stays -/
def Off (P : Addr) (H J : Hp) : Prop := ∀ a o, a ≠ P → H a = some o → J a = some o
section
variable {X : Cx} {pins : List (Addr × Obj)} {σ : L2.St} {H : Hp} {s : Shared}
abbrev lamN (X : Cx) : Str := X.env.qual ++ "<lambda>"
abbrev lamO (X : Cx) (params : Arguments) (body : Expr) (scope : Scope) (pm : Value) (c : Addr) (ctv : Value) : Obj := PySem.W.kla_obj "<lambda>" (lamN X) params body scope (cloFrom X.env.cells scope.names []) pm c ctv
theorem tabs_off {T : List (Addr × Str)} {P : Addr} {q : Str} {J : Hp} {ps : Array Value} (hT : Tabs T H) (hP : H P = some (.tbl ps)) (off : Off P H J) (hu : ∀ p ∈ T, p.1 = P → p.2 = q) (h : TabS J P q) : Tabs T J := fun p hp => by
  by_cases e : p.1 = P
  · rw [hu p hp e, e]
    exact h
  · obtain ⟨qs, k1, k2, k3⟩ := hT p hp
    refine ⟨qs, off _ _ e k1, k2, fun w v z => ?_⟩
    obtain ⟨d, d1, d2⟩ := k3 w v z
    refine ⟨d, d1, off _ _ (fun y => ?_) d2⟩
    rw [y, hP] at d2
    exact codeO_ne _ (Option.some.inj d2).symm
theorem lam_new {T : List (Addr × Str)} {c P : Addr} {params : Arguments} {body : Expr} {scope : Scope} {pos : Pos} {E Q : Value → Shared → Prop} (I : Inv X pins σ H s) (TB : TabB X.base X.mg c P) (cd : X.env.code = .ref c) (hm : (P, lamN X) ∈ T) (hu : ∀ p ∈ T, p.1 = P → p.2 = lamN X)
    (hT : Tabs T H) (hdef : defaultsOf params X.env = ([], [])) (fr : ∀ y ∈ scope.names, y.2 = .free → ∃ c, X.env.cells.lookup y.1 = some c)
    (h : ∀ (f d : Addr) (pm ctv : Value) (J : Hp) (s' : Shared), Inv X pins σ J s' → Off P H J → Tabs T J → s'.heap.get? f = some (lamO X params body scope pm d ctv) → J f = none → f ∉ frs X.stack → J d = some (CodeO d (lamN X)) → Q (.ref f) s') :
    wpAny (model X.prog X.w) X.A (eval (.Lambda params body scope pos) X.env) Q E s := by
  obtain ⟨ps, tP, tr, am⟩ := hT _ hm
  have oP : s.heap.get? P = some { cls := .none, data := .fields ps } := I.hok P _ tP
  have out : ∀ f, s.heap.objs.size ≤ f → f ∉ frs X.stack := fun f le m => by
    rcases List.mem_cons.mp (I.stkSub _ m) with e | e
    · have := I.lt
      rw [← e] at this
      exact absurd (Nat.lt_of_lt_of_le this le) (Nat.lt_irrefl _)
    · exact I.nofs le e
  refine PySem.W.kla_eval hdef ?_
  cases hc : codeAmong pos ps.toList with
  | some cv =>
    obtain ⟨d, rfl, hd⟩ := am pos cv hc
    refine PySem.W.kla_makeFunctionHit (c := c) (ps := ps) (closure_ok fr) I.ok.glob (I.mod.glob.keeps I.bk) cd (TB.code.keeps I.bk) oP tr hc (TB.bm.keeps I.bk) fun ctv h1 tk up le => ?_
    exact h h1.objs.size d ((X.mg "__name__").getD .none) ctv H ⟨h1.push (lamO X params body scope ((X.mg "__name__").getD .none) d ctv), _, _, tk, _⟩ (I.kept fun b o e => Heap.get?_push_of_some _ (up b o e)) (fun _ _ _ e => e) hT (Heap.get?_push_size _ rfl) (I.hok.fresh le) (out _ le) hd
  | none =>
    refine PySem.W.kla_makeFunction (c := c) (ps := ps) (closure_ok fr) I.ok.glob (I.mod.glob.keeps I.bk) cd (TB.code.keeps I.bk) oP tr hc TB.gP (TB.bm.keeps I.bk) fun d ctv h1 tk up ge lt hr ht => ?_
    obtain ⟨d', oc, vs, t, z, w1, w2, w3⟩ := hr
    cases z
    have le : s.heap.objs.size ≤ h1.objs.size := by omega
    have nd : H d = none := I.hok.fresh ge
    have J := inv_table (t' := tk) (more := #[rawInt pos.line, rawInt pos.col, .ref d]) (h' := h1.push (lamO X params body scope ((X.mg "__name__").getD .none) d ctv)) I tP (fun b o n e => Heap.get?_push_of_some _ (up b o n e)) (Heap.get?_push_of_some _ ht) ge ⟨oc, vs, t, Heap.get?_push_of_some _ w1, w2, w3⟩
    have off : Off P H (upd (upd H P (.tbl (ps ++ #[rawInt pos.line, rawInt pos.col, .ref d]))) d (CodeO d (lamN X))) := fun a o n e => by
      rw [upd_ne (ne_of_none e nd), upd_ne n]
      exact e
    have dP : P ≠ d := ne_of_none tP nd
    have nP : h1.objs.size ≠ P := Nat.ne_of_gt (Nat.lt_of_lt_of_le (Heap.lt_size oP) le)
    have ndf : h1.objs.size ≠ d := by omega
    refine h h1.objs.size d _ ctv _ _ J off (tabs_off hT tP off hu ⟨_, by rw [upd_ne dP, upd_same], ?_, fun w v z => ?_⟩) (Heap.get?_push_size _ rfl) (by rw [upd_ne ndf, upd_ne nP]; exact I.hok.fresh le) (out _ le) upd_same
    · rw [Array.toList_append]
      exact PySem.TriplesOk_snoc _ _ _ _ tr
    · rw [Array.toList_append] at z
      rcases LamX.among_app _ tr z with z | z
      · obtain ⟨e, e1, e2⟩ := am w v z
        refine ⟨e, e1, off _ _ (fun y => ?_) e2⟩
        rw [y, tP] at e2
        exact codeO_ne _ (Option.some.inj e2).symm
      · exact ⟨d, z, upd_same⟩
/-- x(lambda: body), the frame told strictly -/
def tLamS (T : List (Addr × Str)) (P : Addr) (TT : (XK → Hp → VK → Prop) → Hp → VK → Prop) (t : XK → TE) : TE := fun σ H Q => Tabs T H ∧ ∀ J, Off P H J → Tabs T J → TT (fun E J' Q' => t E σ J' Q') J Q
theorem pe_lamS {T : List (Addr × Str)} {TT : (XK → Hp → VK → Prop) → Hp → VK → Prop} {x a : Str} {g c P : Addr} {k : Nat} {pg : Arguments} {bg : List Stmt} {sg : Scope} {dV kV doc pm cdv ct oc : Value} {an od : Option Addr} {osl : Array (Option Value)} {Ng : List Str}
    {params : Arguments} {body : Expr} {scope : Scope} {t : XK → TE} {p lpos pos : Pos} (hg : Gl X x) (hm : X.mg x = some (.ref g)) (hk : PySem.W.keepIn X.K (.ref g) = true)
    (lk : X.K.lookup g = some ⟨oc, od, .func (PySem.W.fnOf x x pg bg sg dV kV doc pm an cdv ct), osl⟩) (hcg : PySem.W.codeIn X.K cdv x = true) (hb : L2.Binds X.K (PySem.W.fnOf x x pg bg sg dV kV doc pm an cdv ct) [a] []) (Sg : FnScope Ng [a] sg) (hNg : Ng[0]? = some a) (hva : Vis sg a)
    (hG : GivesTo X Ng x sg g cdv bg a (lamN X) TT) (TB : TabB X.base X.mg c P) (cd : X.env.code = .ref c) (hT : (P, lamN X) ∈ T) (hu : ∀ p ∈ T, p.1 = P → p.2 = lamN X) (hr : Room (k + 2) X.A) (L : LamS X.env.scope scope) (hdef : defaultsOf params X.env = ([], []))
    (hbind : ∀ (q : Str) (cl : List (Str × Addr)) (pm cv ctv : Value), bindArgs (PySem.W.kla_fn "<lambda>" q params body scope cl pm cv ctv) ⟨[], []⟩ = pure [])
    (hbody : ∀ (A : Around) (outer : List Env) (s : Shared) (H : Hp) (E : XK) (f d : Addr), Room k (A.deeper (lamEnv X scope s.heap.objs.size f d)) → PE (lamCx X A outer s H E scope f d) body (t E))
    (hdb : (x == ("__debug__" : Str)) = false := by decide) (hd : (a == ("__debug__" : Str)) = false := by decide) (hcd : (a == ("__classdict__" : Str)) = false := by decide) :
    PE X (.Call (.Name x p) [.Lambda params body scope lpos] [] pos) (tLamS T P TT t) := by
  constructor
  rintro pins s σ H Q I ⟨tabs, h⟩
  refine PySem.W.callWith_K (h₀ := X.base) I.ok.mod.kin hk ?_ (by rfl) (by rfl) |> fun z => wpAny_Call_Name_kw (ld_glob I hg hm z hdb)
  show wpAny _ _ (spliced ((false, eval (.Lambda params body scope lpos) X.env) :: backTo pos (starEach [] X.env))) _ _ s
  refine Calls.spliced_cons (lam_new I TB cd hT hu tabs hdef (L.has I.ok) fun f d pm' ctv J s' I1 off tb of nf sf od => Calls.spliced_nil ⟨I1.kIn, ?_⟩)
  have run : codeAny (model X.prog X.w) X.A (.call (.ref g) ⟨[.ref f], []⟩) (CR C8.CX0 X.stack X.prog X.w J s' Q C8.E0) s' :=
    LamX.run_ofS (N := Ng) (ps := [a]) (us := [.ref f]) (vs := [.ref f]) lk hcg Sg hr I1.env0 (hb s' [.ref f] I1.kIn rfl) (.cons rfl .nil) rfl fun hr' => by
      obtain ⟨tt, k1, k2⟩ := hG f d s' J Q (fun E J' Q' => t E σ J' Q') (fun W pn xe E p1 p2 tk hW => LamX.pe_act (i := 0) I1 L of nf sf (hbind _ _ _ _ _) tk hW hr' (fun A outer s H hr2 => hbody A outer s H E f d hr2) hNg hva hd hcd) od (h J off tb)
      exact ⟨tt, k1.nox, k2⟩
  refine wpAny_call (codeAny_mono run fun r s2 told => ?_)
  match r, told with
  | .ok (.ret u), told => exact I1.after told
  | .ok .next, told => exact told.elim
  | .ok .brk, told => exact told.elim
  | .ok .cont, told => exact told.elim
  | .error _, told => exact (show False from told).elim
end
end DL

namespace DL
open PySem PySem.Spec PyProof.Rows L2
open LamX (Tabs TabB lamEnv lamCx LamS)
/-! ### x(lambda: body), where x tells the word of the error -/
structure LamI {ι : Type} (X : ι → Cx) (scope : Scope) (k : Nat) where
  i : ι
  A : Around
  outer : List Env
  s : Shared
  H : Hp
  f : Addr
  d : Addr
  room : Room k (A.deeper (lamEnv (X i) scope s.heap.objs.size f d))
def LamF {ι : Type} (X : ι → Cx) (scope : Scope) (k : Nat) (E : XK) : LamI X scope k → Cx := fun l => lamCx (X l.i) l.A l.outer l.s l.H E scope l.f l.d
theorem told_mono {K : Fg} {cls : Value} {F F' : Str → Prop} (h : ∀ t, F t → F' t) : ∀ {cs : List Cw}, told K cls F cs → told K cls F' cs
  | [], z => z.elim
  | (c, t) :: r, z => by
    obtain ⟨b, e, z1, z2⟩ := z
    exact ⟨b, e, fun y => h t (z1 y), fun y => told_mono h (z2 y)⟩
def wLam (K : Fg) (cs : List Cw) (last : Str) (we : WE) : WE := fun G _ Q => we (frzG G) (fun cls => told K cls (fun t => Q (.str t)) cs) fun _ => Q (.str last)
theorem de_lam {ι : Type} {X : ι → Cx} {K : Fg} {W : Ctl} {k : Nat} {T : List (Addr × Str)} {Pt : Addr} {cs : List Cw} {last : Str} {we : WE} {e body : Expr} {scope : Scope}
    (call : ∀ (i : ι) (t : XK → TE), (∀ (A : Around) (outer : List Env) (s : Shared) (H : Hp) (E : XK) (f d : Addr), Room k (A.deeper (lamEnv (X i) scope s.heap.objs.size f d)) → PE (lamCx (X i) A outer s H E scope f d) body (t E)) → PE (X i) e (tLamS T Pt (TWord K cs last) t))
    (pen : ∀ P, W.pc P → P.is Pt ∧ (∀ n H, P.ok n H → Tabs T H) ∧ ∀ n H J, P.ok n H → Off Pt H J → Tabs T J → P.ok n J)
    (hbody : ∀ E : XK, DE (LamF X scope k E) K ⟨fun cls dd _ H => E cls dd H, fun _ => True⟩ 0 body we) : DE X K W 0 e (wLam K cs last we) := by
  refine ⟨_, fun i => call i (fun E => (hbody E).choose) fun A outer s H E f d hr => (hbody E).choose_spec.1 ⟨i, A, outer, s, H, f, d, hr⟩, fun P av H0 ed hw n H σ G Qd L h Q q => ?_⟩
  obtain ⟨p1, p2, p3⟩ := pen P hw.1
  refine ⟨p2 _ _ L.ok, fun J off tb => ?_⟩
  have eJ : Ext P.is H J := fun a o na hh => off a o (fun z => na (z ▸ p1)) hh
  have LJ := L.grow eJ (p3 _ _ _ L.ok off tb)
  obtain ⟨LF, no⟩ := LJ.frzAll
  have L' : LocOk noPen K av J n J σ (frzG G) := ⟨LF.len, LF.sl, LF.inj, .refl _ _, fun a z => absurd z (no a), trivial, fun _ z => z.elim, fun a z => LJ.avNe z⟩
  have fin : ∀ (t : Str) (J2 : Hp), Qd (.str t) → Ex J J2 → Q (.str t) J2 := fun t J2 hd ex => q (.str t) J2 (.str t) hd ((LJ.growEx ex).le (Nat.le_refl _)) (eJ.trans (Ex.ext ex)) (.str t)
  refine (hbody _).choose_spec.2 noPen av J (fun cls => told K cls (fun t => Qd (.str t)) cs) ⟨trivial, fun cls σ' J2 hc ex => ?_⟩ n J σ (frzG G) _ L' h _ fun v J2 d hd L2 e2 r2 => ?_
  · exact told_mono (fun t z => fin t J2 z fun a o hh => ex a o (fun z => z) hh) hc
  · exact fin last J2 hd fun a o hh => e2 a o (fun z => z) hh
end DL

namespace DL
open PySem PySem.Spec PyProof.Rows L2
/-! ### an exception's object, kept as a value -/
section
variable {X : Cx} {pins : List (Addr × Obj)} {σ : L2.St} {H : Hp} {s : Shared}
theorem erO_ok {P : Program} {w : World} {h : Heap} {a : Addr} {cls : Value} {oe : Obj} {vs : Array Value} {t : Option Addr} (e : h.get? a = some oe) (z : Zc cls none oe) (d : oe.data = .fields vs) (ht : ∀ b, t = some b → vs[0]? = some (.ref b)) : ObjOk P w H h a (ErO cls a t) :=
  ⟨⟨oe, vs, e, z, d, ht⟩, ⟨oe, e⟩, fun _ _ ⟨o, v, q, r⟩ k => ⟨o, v, k o q, r⟩⟩
theorem laid2 {h' : Heap} {a b : Addr} {oa ob : HO} {t' : Nat} (I : Inv X pins σ H s) (k : ∀ b u, s.heap.get? b = some u → h'.get? b = some u) (pa : s.heap.get? a = none) (pb : s.heap.get? b = none) (na : H a = none) (nb : H b = none) (ab : a ≠ b)
    (newb : ObjOk X.prog X.w (upd H b ob) h' b ob) (newa : ObjOk X.prog X.w (upd (upd H b ob) a oa) h' a oa) : Inv X pins σ (upd (upd H b ob) a oa) { s with heap := h', toks := t' } := by
  have na' : upd H b ob a = none := by rw [upd_ne ab]; exact na
  exact I.un (Un.trans (Un.laidN (fun _ _ e => e) pb nb) (Un.laidN k pa na')) ((I.hok.laidN k nb newb).laidN (fun _ _ e => e) na' newa)
/-- X(e), an own error made from a text, as a value -/
theorem pe_err1 {C : Addr} {bmB : List Value} {B newId initId : String} {x : Str} {e : Expr} {ta : TE} {p pos : Pos} (F : ExcBaseFacts B newId initId bmB) (q : PySem.W.excIn X.K C bmB newId = true) (gC : X.mg x = some (.ref C)) (kC : PySem.W.keepIn X.K (.ref C) = true) (hg : Gl X x)
    (he : PE X e ta) (hs : starEach [e] X.env = (false, eval e X.env) :: starEach [] X.env := by rfl) (hdb : (x == ("__debug__" : Str)) = false := by decide) :
    PE X (.Call (.Name x p) [e] [] pos) (fun σ H Q => ta σ H fun v H1 => ∃ m : Str, v = .str m ∧ ∀ a t, H1 a = none → H1 t = none → a ≠ t → Q (.ref a) (upd (upd H1 t (.tup [.str m])) a (ErO (.ref C) a (some t)))) := by
  refine ⟨fun pins s σ H Q I h => ?_⟩
  refine wpAny_Call_Name_kw (ld_glob I hg gC ?_ hdb)
  refine PySem.W.callWith_K (h₀ := X.base) I.ok.mod.kin kC ?_ hs (by rfl)
  rw [hs]
  show wpAny _ _ (spliced ((false, eval e X.env) :: backTo pos (starEach [] X.env))) _ _ s
  refine Calls.spliced_cons (thn (he.run pins s σ H _ I h) fun u s1 ⟨v, H1, I1, r1, q1⟩ => ?_)
  refine Calls.spliced_nil ⟨I1.kIn, ?_⟩
  show wpAny _ _ (call (.ref C) [u]) _ _ _
  obtain ⟨m, rfl, q1⟩ := q1
  obtain ⟨bm, N, nm, qn, bs, hdct, sn, sub, ab, col, dd, k0, k1, k2, k3, k5, mN, hC, hN, hni, T⟩ := exc_obj I1.kIn q
  refine wpAny_call_exc_subT F T hC hN hni (fun h' a hm => ?_) (by show 1 ≤ sizeLine; rw [sizeLine_eq]; omega)
  obtain ⟨t, ht, tn, tt⟩ := hm.there
  have at' : a ≠ t := fun z => by
    rw [← z, ht] at tt
    have := congrArg Obj.data (Option.some.inj tt)
    exact nomatch this
  have hn := I1.hok.gone hm.new
  have hn2 := I1.hok.gone tn
  exact ⟨.ref a, upd (upd H1 t (.tup [.str m])) a (ErO (.ref C) a (some t)), laid2 (ob := .tup [.str m]) (oa := ErO (.ref C) a (some t)) I1 hm.keeps hm.new tn hn hn2 at' ⟨by show 1 ≤ sizeLine; rw [sizeLine_eq]; omega, [u], .cons r1 .nil, ⟨_, tt, rfl, _, rfl⟩⟩ (erO_ok ht ⟨rfl, rfl⟩ rfl fun b e => by cases e; rfl), rfl, q1 a t hn hn2 at'⟩
/-- isinstance(e, c) of such -/
def rIsT (K : Fg) : List V → Hp → VK → Prop := fun xs H Q => ∃ (a D : Addr) (t : Option Addr) (c : V) (cv : Value) (b : Bool), xs = [.ref a, c] ∧ H a = some (ErO (.ref D) a t) ∧ ExcC K D ∧ (∀ u, RelV c u → u = cv) ∧ PySem.W.kitOne K (.ref D) cv = some b ∧ Q (.bl b) H
theorem call_isT : CallR X (.builtin "isinstance") (rIsT X.K) := by
  intro pins s σ H xs us Q I r h
  obtain ⟨a, D, t, c, cv, b, rfl, ha, C, hcv, e, q⟩ := h
  cases r with
  | cons rx rr =>
    cases rr with
    | cons rt rr =>
      cases rr
      cases rx
      have ec := hcv _ rt
      subst ec
      obtain ⟨⟨oe, vs, hget, hz, hv, _⟩, _, _⟩ := I.hok a _ ha
      have J : PySem.W.InstAt s.heap a oe D none := by
        obtain ⟨oc, od, oda, osl⟩ := oe
        obtain ⟨h1, h2⟩ := hz
        dsimp only at h1 h2 hv
        subst h1 h2 hv
        exact ⟨hget, rfl, rfl, trivial⟩
      exact PySem.W.kia_one (PySem.W.handS_kitx_exc C.hg C.hk C.hs C.hd C.ha C.hn C.ht C.hm) I.kIn J e (fun z => nomatch z) fun tk => ⟨.bl b, H, I.kept (t' := tk) fun _ _ z => z, rfl, q⟩
/-- str(e) of such, made from one text -/
def rStrT (K : Fg) : List V → Hp → VK → Prop := fun xs H Q => ∃ (a D t : Addr) (m : Str), xs = [.ref a] ∧ H a = some (ErO (.ref D) a (some t)) ∧ H t = some (.tup [.str m]) ∧ PySem.W.findIn K (.ref D) "__str__" = some (some (.builtin "BaseException.__str__")) ∧ PySem.W.subIn K (.ref D) (.type "BaseException") = some true ∧ Q (.str m) H
theorem call_strT {k : Nat} (hr : Room k X.A) : CallR X (.type "str") (rStrT X.K) := by
  intro pins s σ H xs us Q I r h
  obtain ⟨a, D, t, m, rfl, ha, ht, hs, hB, q⟩ := h
  cases r with
  | cons rx rr =>
    cases rr
    cases rx
    obtain ⟨⟨oe, vs, hget, hz, hv, h0⟩, _, _⟩ := I.hok a _ ha
    obtain ⟨_, its, hits, o, ho, hoc, n, hod⟩ := I.hok t _ ht
    cases hits with
    | cons r1 rr =>
      cases rr
      obtain ⟨tk, rfl⟩ := r1
      exact PySem.P.str_of_C_one (by have := hr.units; omega) ⟨I.kIn, oe, vs, hget, hz.1, hv, h0 t rfl⟩ ⟨o, n, ho, hoc, hod⟩ hs hB ⟨.str m, H, I, ⟨tk, rfl⟩, q⟩
/-- a thing that is there, but wasn't at the entry, is tracked from now on -/
theorem Inv.adopt {a : Addr} {o : HO} {ob : Obj} {vs : Array Value} (I : Inv X pins σ H s) (hn : H a = none) (h0 : X.s_0.heap.get? a = none) (hl : a ≠ X.env.locals) (hob : s.heap.get? a = some ob) (hd : ob.data = .fields vs) (hp : ∀ p ∈ X.pn ++ pins, p.1 ≠ a) (new : ObjOk X.prog X.w (upd H a o) s.heap a o) : Inv X pins σ (upd H a o) s := by
  have hc : ∀ x c, X.env.cells.lookup x = some c → c ≠ a := fun x c e z => by
    obtain ⟨v, o2, e2, e3⟩ := I.cell x c e
    rw [z, hob] at e2
    cases e2
    rw [hd] at e3
    exact nomatch e3
  refine ⟨I.ok, I.os, I.bare, ⟨I.base.keep, I.base.slot, fun b u e n hx => ?_, I.base.there, fun b xs e => ?_, fun b u v e => ?_, fun b ps e => ?_⟩, I.loc, I.cell, ?_, fun x c e => ?_, fun p hpp => ?_, I.hok.laidN (fun _ _ e => e) hn new, I.len⟩
  · rw [upd_ne (fun z => by rw [z, h0] at e; exact nomatch e)]
    exact I.base.free b u e n hx
  · have q := I.base.tups b xs e
    rw [upd_ne (ne_of_none q hn)]
    exact q
  · have q := I.base.frzs b u v e
    rw [upd_ne (ne_of_none q hn)]
    exact q
  · obtain ⟨m, q⟩ := I.base.tbls b ps e
    exact ⟨m, by rw [upd_ne (ne_of_none q hn)]; exact q⟩
  · rw [upd_ne (Ne.symm hl)]
    exact I.free
  · rw [upd_ne (hc x c e)]
    exact I.freeC x c e
  · obtain ⟨e, n, ne, nf, d⟩ := I.pin p hpp
    exact ⟨e, by rw [upd_ne (hp p hpp)]; exact n, ne, nf, d⟩
theorem Inv.unsuiteP {a : Addr} {q : Addr × Obj} {pn' : List (Addr × Obj)} (I : Inv (X.suite a (q :: (X.pn ++ pins))) pn' σ H s) (ok : X.Ok) : Inv X (q :: pins) σ H s :=
  ⟨ok, I.os, I.bare, I.base, I.loc, I.cell, I.free, I.freeC, fun p hp => I.pin p (List.mem_append_left _ (by
    rcases List.mem_append.mp hp with h | h
    · exact List.mem_cons_of_mem _ (List.mem_append_left _ h)
    · rcases List.mem_cons.mp h with h | h
      · rw [h]; exact List.mem_cons_self
      · exact List.mem_cons_of_mem _ (List.mem_append_right _ h))), I.hok, I.len⟩
end
end DL

namespace DL
open PySem PySem.Spec PyProof.Rows L2
/-! ### a def that calls what it got and hands on the error that is raised -/
section
variable {X : Cx} {pins : List (Addr × Obj)} {D : Ends} {a : Addr} {B : Heap} {sI s' : Shared} {τ : Sg} {J : Hp} {cls : Value} {d : Option Addr} {h3 : Heap}
def CaughtW (K : Fg) (c : Value) (D : Ends) : WX := fun cls d _ J => d = none ∧ PySem.W.exmOne K cls c = some true ∧ ∀ a, J a = none → D.rt (.ref a) (upd J a (ErO cls a none))
theorem handledR {x n : Str} {c : Value} {i : Nat} {q1 q2 q3 q4 : Pos} (ok : X.Ok) (hN : X.N.Nodup) (hst : X.stack = X.env :: X.outer) (hf : X.env.frame = some X.env.locals) (nm : Names X x c) (pl : X.N[i]? = some n) (lc : X.env.kindOf n = some .local) (vs : Vis X.env.scope n)
    (nd : (n == ("__debug__" : Str)) = false) (nc : (n == ("__classdict__" : Str)) = false) (hx : X.ex = []) (k : Caught X pins a B sI s' τ J cls d h3) (w : CaughtW X.K c D cls d τ J) :
    wpAny (model X.prog X.w) X.A (handleBy (.ref a) X.env [.ExceptHandler (some (.Name x q1)) (some n) [.Return (some (.Name n q3)) q4] q2]) (SP X pins D) X.xe { s' with heap := h3 } := by
  obtain ⟨rfl, known, w⟩ := w
  obtain ⟨nL, nF⟩ := k.apart hf
  obtain ⟨ob3, vs3, o1, o2, o3⟩ := k.fly.there
  have here := k.now.suite (a := a) o1 o3 k.na nL nF
  have away0 : a ∉ frs X.stack := fun m => by
    rcases List.mem_cons.mp (k.inv.stkSub _ m) with e | e
    · exact nL e
    · exact nF e
  have s0 : X.s_0.heap.get? a = none := by
    cases e : X.s_0.heap.get? a with
    | none => rfl
    | some o =>
      obtain ⟨o', e'⟩ := k.inv.base.there a o e (by rw [hx]; exact fun z => nomatch z)
      have := k.nb a o' e' away0
      rw [k.fly.2.1] at this
      exact nomatch this
  have pinsNe : ∀ p ∈ X.pn ++ pins, p.1 ≠ a := fun p hp z => by
    obtain ⟨e, n, ne, nf, _⟩ := k.inv.pin p hp
    have nf' : p.1 ∉ frs X.stack := by rw [z]; exact away0
    have := k.nb _ _ e nf'
    rw [z, k.fly.2.1] at this
    exact nomatch this
  refine wpAny_handleBy_cons (codeAny_handlers_test ?_) (by intro z; cases z)
  have ofCls : PySem.W.Looks (model X.prog X.w) h3 (typeOf (.ref a)) cls := fun _ _ _ _ kp z => wpAny_typeOf_ref (kp _ _ o1) (by rw [o2.1]; exact z)
  have tells := PySem.W.exm_one (M := model X.prog X.w) k.now.kIn ofCls known
  have named : ∀ {Q : Value → Shared → Prop} {E : Value → Shared → Prop}, Q c { s' with heap := h3 } → wpAny (model X.prog X.w) (X.A.mark (some (.ref a))) (eval (.Name x q1) X.env) Q E { s' with heap := h3 } := by
    intro Q E z
    obtain ⟨y1, y2, y3⟩ := nm
    rcases y3 with y3 | ⟨y3, y4, y5⟩
    · exact ld_glob (X := X.suite a ((a, ob3) :: (X.pn ++ pins))) here y1 y3 z y2
    · exact ld_blt (X := X.suite a ((a, ob3) :: (X.pn ++ pins))) here y1 y3 y4 z y5 y2
  refine named (tells.here ?_)
  refine codeAny_handlers_suite_as (HandSPX.lands_againZ k.fly fun h4 fly4 up4 => ?_)
  have now4 : Inv X pins τ J { s' with heap := h4 } := k.inv.landed k.nb fly4.1 (k.up.trans up4) k.os k.ag
  obtain ⟨ob4, vs4, p1, p2, p3⟩ := fly4.there
  have inside := now4.suite (a := a) p1 p3 k.na nL nF
  refine store_ok (X := X.suite a ((a, ob4) :: (X.pn ++ pins))) (v := .ref a) inside hN pl (.inl lc) rfl (fun s5 I5 => ?_) (.inr lc)
  have il : i < τ.length := by
    rw [k.inv.len]
    exact (List.getElem?_eq_some_iff.mp pl).1
  let D' : Ends := { nx := fun _ _ => False, rt := fun v J6 => v = .ref a ∧ J6 = J, bk := fun _ _ => False, ct := fun _ _ => False }
  have rd : PSs (X.suite a ((a, ob4) :: (X.pn ++ pins))) [.Return (some (.Name n q3)) q4] (tRet (tVar i)) := pss_one (ps_ret (pe_var pl vs nd nc))
  refine wpAny_mono (rd.run [] s5 _ J D' I5 ⟨.ref a, by rw [List.getElem?_set_self il], rfl, rfl⟩) (fun fl s6 told => ?_) fun _ _ z => z.elim
  cases fl <;> simp only [SP] at told
  · obtain ⟨_, _, _, z⟩ := told
    exact z.elim
  · obtain ⟨_, _, _, z⟩ := told
    exact z.elim
  · obtain ⟨_, _, _, z⟩ := told
    exact z.elim
  · obtain ⟨v6, τ6, J6, I6, rv, rfl, rfl⟩ := told
    refine gone_ok (Inv.unsuiteP I6 ok) hN pl lc fun s7 I7 => ?_
    obtain ⟨e7, n7, _, _, _⟩ := I7.pin (a, ob4) (List.mem_append_right _ List.mem_cons_self)
    have I8 : Inv X pins (τ6.set i none) J6 s7 := ⟨I7.ok, I7.os, I7.bare, I7.base, I7.loc, I7.cell, I7.free, I7.freeC, fun p hp => I7.pin p (by
      rcases List.mem_append.mp hp with h | h
      · exact List.mem_append_left _ h
      · exact List.mem_append_right _ (List.mem_cons_of_mem _ h)), I7.hok, I7.len⟩
    have I9 := Inv.adopt (o := ErO cls a none) I8 n7 s0 nL e7 p3 pinsNe (erO_ok e7 p2 p3 fun _ z => nomatch z)
    exact ⟨_, _, _, I9, rv, w a n7⟩
theorem ps_try_caught {x n : Str} {c : Value} {i : Nat} {q1 q2 q3 q4 pos : Pos} {body : List Stmt} {tb : WX → TS} (hN : X.N.Nodup) (hst : X.stack = X.env :: X.outer) (hf : X.env.frame = some X.env.locals) (nm : Names X x c) (pl : X.N[i]? = some n) (lc : X.env.kindOf n = some .local) (vs : Vis X.env.scope n)
    (nd : (n == ("__debug__" : Str)) = false) (nc : (n == ("__classdict__" : Str)) = false) (hx : X.ex = [])
    (hb : ∀ (W : WX) (pn : List (Addr × Obj)) (xe : Value → Shared → Prop), Takes (X.tr pn xe) W → PassesOwn (model X.prog X.w) X.A X.env xe → PSs (X.tr pn xe) body (tb W)) :
    PS X (.Try body [.ExceptHandler (some (.Name x q1)) (some n) [.Return (some (.Name n q3)) q4] q2] [] [] pos) (fun D τ J => tb (CaughtW X.K c D) D τ J) := by
  constructor
  intro pins s τ J D I h
  have ok := I.ok
  have frames : X.A.frames = some (X.env :: X.outer) := ok.frames.trans (congrArg some hst)
  refine wpAny_Try_except (wpAny_mono ((hb (CaughtW X.K c D) (X.pn ++ pins) (fun e s₁ => wpAny (model X.prog X.w) X.A (noteFrame e X.env) (fun _ s₂ => wpAny (model X.prog X.w) X.A (setFlight e none)
    (fun _ s₃ => wpAny (model X.prog X.w) X.A (handleBy e X.env _) (SP X pins D) X.xe s₃) X.xe s₂) X.xe s₁) ?_ PassesOwn.looking).run [] s τ J D (I.toTry _) h) (fun fl s1 told => ?_) fun _ _ z => z)
  · rintro u s' ⟨a, B, sI, pins', τ', J', cls, d, rfl, I', nb, up, sky, na, os, ag, w⟩
    show wpAny (model X.prog X.w) X.A (noteFrame (.ref a) X.env) _ _ _
    refine Sky.land Zc.steady frames hf (by rw [← hst]; exact sky) fun h3 fly up3 => ?_
    exact handledR ok hN hst hf nm pl lc vs nd nc hx ⟨I'.ofTry ok, nb, up.trans up3, fly, na, os, ag⟩ w
  · cases fl <;> simp only [SP] at told
    · obtain ⟨τ6, J6, I6, z⟩ := told
      exact wpAny_execs_nil ⟨_, _, I6.ofTry ok, z⟩
    · obtain ⟨τ6, J6, I6, z⟩ := told
      exact ⟨_, _, I6.ofTry ok, z⟩
    · obtain ⟨τ6, J6, I6, z⟩ := told
      exact ⟨_, _, I6.ofTry ok, z⟩
    · obtain ⟨v6, τ6, J6, I6, rv, z⟩ := told
      exact ⟨_, _, _, I6.ofTry ok, rv, z⟩
end
def TErr (K : Fg) (c : Value) : (XK → Hp → VK → Prop) → Hp → VK → Prop := fun tl H Q => tl (fun cls d J => d = none ∧ PySem.W.exmOne K cls c = some true ∧ ∀ a, J a = none → Q (.ref a) (upd J a (ErO cls a none))) H fun _ J => Q .non J
theorem err_gives {X : Cx} {Ng : List Str} {x a n q y : Str} {c : Value} {sg : Scope} {g : Addr} {cdg : Value} {j i : Nat} {p1 p2 p3 p4 p5 p6 q1 q2 q3 q4 : Pos} (nd : Ng.Nodup) (pl : Ng[i]? = some n)
    (lc : ∀ (s : Shared) (H : Hp), (cxOf C8.CX0 X.prog X.w X.K X.mg X.base Ng x sg g cdg X.A X.stack s H C8.E0).nox.env.kindOf n = some .local) (vs : Vis sg n) (h0 : ∀ f : Addr, (L2.start Ng [V.ref f])[0]? = some (some (V.ref f)))
    (nm : ∀ (s : Shared) (H : Hp), Names (cxOf C8.CX0 X.prog X.w X.K X.mg X.base Ng x sg g cdg X.A X.stack s H C8.E0).nox y c)
    (hsw : ∀ (s : Shared) (H : Hp), swapsWith (.Call (.Name a p1) [] [] p2) none p3.line (cxOf C8.CX0 X.prog X.w X.K X.mg X.base Ng x sg g cdg X.A X.stack s H C8.E0).env = pure false := by intro _ _; rfl)
    (nd1 : (n == ("__debug__" : Str)) = false := by decide) (nc1 : (n == ("__classdict__" : Str)) = false := by decide) :
    LamX.GivesTo X Ng x sg g cdg [.Try [.Expr (.Call (.Name a p1) [] [] p2) p3] [.ExceptHandler (some (.Name y q1)) (some n) [.Return (some (.Name n q3)) q4] q2] [] [] p4, .Return (some (.Constant .none j p5)) p6] a q (TErr X.K c) := by
  intro f c' s H Q tl act hc h
  refine ⟨_, pss_cons (ps_try_caught (X := (cxOf C8.CX0 X.prog X.w X.K X.mg X.base Ng x sg g cdg X.A X.stack s H C8.E0).nox)
      (tb := fun W D σ H => ∃ Ech : XK, (∀ cls d σ' H', Ech cls d H' → W cls d σ' H') ∧ σ[0]? = some (some (.ref f)) ∧ H c' = some (LamX.CodeO c' q) ∧ tl Ech H fun _ H' => D.nx σ H')
      nd rfl rfl (nm s H) pl (lc s H) vs nd1 nc1 rfl (fun W pn xe tk _ => ?_)) (pss_one (ps_ret pe_non)), ?_⟩
  · refine ⟨fun pins s' σ H D I ⟨Ech, hW, k1, k2, k3⟩ => ?_⟩
    exact (pss_one (ps_expr (act W pn xe Ech p1 p2 tk hW) (hsw s H))).run pins s' σ H D I ⟨k1, k2, k3⟩
  · exact ⟨fun cls d J => d = none ∧ PySem.W.exmOne X.K cls c = some true ∧ ∀ a, J a = none → Q (.ref a) (upd J a (ErO cls a none)), fun cls d σ' H' z => z, h0 f, hc, h⟩
end DL

namespace DL
open PySem PySem.Spec PyProof.Rows L2
open LamX (Tabs TabS TabB CodeO codeO_ne lamEnv lamCx LamS)
/-! ### what is never reached -/
section
variable {ι : Type} {X : ι → Cx} {K : Fg} {W : Ctl} {c c1 : Nat} {e : Expr} {es : List Expr} {wl : WL} {st : Stmt} {sts : List Stmt} {pos p2 : Pos}
def wDead : WE := fun _ _ _ => False
def wDeadS : WS := fun _ _ => False
theorem de_dead : DE X K W 0 e wDead := ⟨fun _ _ _ => False, fun i => ⟨fun _ _ _ _ _ _ z => z.elim⟩, fun _ _ _ _ _ _ _ _ _ _ _ h _ _ => h.elim⟩
theorem ds_dead : DS X K W 0 st wDeadS := ⟨fun _ _ _ => False, fun i => ⟨fun _ _ _ _ _ _ z => z.elim⟩, fun _ _ _ _ _ _ _ _ _ _ h _ _ => h.elim⟩
/-! ### errors as values -/
def wErr (C : Addr) (w : WE) : WE := fun G ed Q => w G ed fun d => onS d fun m => Q (.err (.ref C) (some m))
theorem de_err1 {mg : Str → Option Value} {x : Str} {C : Addr} {w : WE} (hK : ∀ i, (X i).K = K) (hmg : ∀ i, (X i).mg = mg) (F : XFact K mg x C) (h : DE X K W c e w) (hg : ∀ i, Gl (X i) x := by intro _; rfl) (hs : ∀ i, starEach [e] (X i).env = (false, eval e (X i).env) :: starEach [] (X i).env := by intro _; rfl)
    (hdb : (x == ("__debug__" : Str)) = false := by decide) : DE X K W c (.Call (.Name x p2) [e] [] pos) (wErr C w) := by
  obtain ⟨te, pe, s⟩ := h
  refine ⟨_, fun i => pe_err1 PySem.F.excBase_ValueError (by rw [hK i]; exact F.q) (by rw [hmg i]; exact F.g) (by rw [hK i]; exact F.kp) (hg i) (pe i) (hs i) hdb, fun P av H0 ed hw n H σ G Qd L h Q q => ?_⟩
  refine s P av H0 ed hw n H σ G _ L h _ fun v H1 d hd L1 e1 r1 => ?_
  obtain ⟨m, rfl, hd⟩ := onS_of hd
  cases r1
  refine ⟨m, rfl, fun a t na nt ne => ?_⟩
  have ex1 : Ex H1 (upd H1 t (.tup [.str m])) := ex_new nt
  have na' : upd H1 t (.tup [.str m]) a = none := by rw [upd_ne ne]; exact na
  have ex : Ex H1 (upd (upd H1 t (.tup [.str m])) a (ErO (.ref C) a (some t))) := fun b o hb => ex_new na' b o (ex1 b o hb)
  refine q _ _ _ hd (L1.growEx ex) (e1.trans (Ex.ext ex)) (.err ⟨some t, upd_same, fun z => L1.avoNe z na, fun x hx => ?_⟩)
  cases hx
  exact ⟨t, rfl, by rw [upd_ne (Ne.symm ne)]; exact upd_same, fun z => L1.avoNe z nt⟩
def fIsE (K : Fg) : List D → (D → Prop) → Prop
  | [.err (.ref E) _, .obj (.ref C)], Q => ExcC K E ∧ onO (PySem.W.kitOne K (.ref E) (.ref C)) fun b => Q (.bl b)
  | [.err (.ref E) _, .obj (.ty n)], Q => ExcC K E ∧ onO (PySem.W.kitOne K (.ref E) (.type n)) fun b => Q (.bl b)
  | _, _ => False
theorem caIsE : CaS K (rIsT K) (fIsE K) := by
  intro is av H xs ds Qd hi ha r h Q q
  unfold fIsE at h
  split at h
  · obtain ⟨hx, h⟩ := h
    obtain ⟨b, hb, h⟩ := onO_of h
    cases r with
    | cons r rr =>
      cases rr with
      | cons r2 rr =>
        cases rr
        cases r2
        cases r with
        | err z =>
          obtain ⟨t, h1, _⟩ := z
          exact ⟨_, _, t, _, _, b, rfl, h1, hx, fun u hu => hu, hb, q _ H _ h (fun _ _ z => z) (.bl _)⟩
  · obtain ⟨hx, h⟩ := h
    obtain ⟨b, hb, h⟩ := onO_of h
    cases r with
    | cons r rr =>
      cases rr with
      | cons r2 rr =>
        cases rr
        cases r2
        cases r with
        | err z =>
          obtain ⟨t, h1, _⟩ := z
          exact ⟨_, _, t, _, _, b, rfl, h1, hx, fun u hu => hu, hb, q _ H _ h (fun _ _ z => z) (.bl _)⟩
  · exact h.elim
theorem de_isE {p : Pos} {e2 : Expr} (hK : ∀ i, (X i).K = K) (hm : ∀ i, (X i).mg "isinstance" = none) (h : DB X K W c [e, e2] wl) (hg : ∀ i, Gl (X i) "isinstance" := by intro _; rfl) (he : ∀ i, starEach [e, e2] (X i).env = (false, eval e (X i).env) :: starEach [e2] (X i).env := by intro _; rfl) (hpl : ∀ i, (backTo pos (starEach [e2] (X i).env)).any (·.1) = false := by intro _; rfl) :
    DE X K W c (.Call (.Name "isinstance" p) [e, e2] [] pos) (wCb (fIsE K) wl) :=
  de_cb caIsE (fun i _ pa => by rw [← hK i]; exact pe_callB call_isT (hg i) (hm i) (by decide +kernel) pa (by decide) (by decide) (he i) (hpl i)) h
def fStrE (K : Fg) : List D → (D → Prop) → Prop
  | [.err (.ref E) (some m)], Q => PySem.W.findIn K (.ref E) "__str__" = some (some (.builtin "BaseException.__str__")) ∧ PySem.W.subIn K (.ref E) (.type "BaseException") = some true ∧ Q (.str m)
  | _, _ => False
theorem caStrE : CaS K (rStrT K) (fStrE K) := by
  intro is av H xs ds Qd hi ha r h Q q
  unfold fStrE at h
  split at h
  · obtain ⟨h1, h2, h⟩ := h
    cases r with
    | cons r rr =>
      cases rr
      cases r with
      | err z =>
        obtain ⟨t, e1, _, e2⟩ := z
        obtain ⟨b, rfl, e3, _⟩ := e2 _ rfl
        exact ⟨_, _, b, _, rfl, e1, e3, h1, h2, q _ H _ h (fun _ _ z => z) (.str _)⟩
  · exact h.elim
theorem de_strE {k : Nat} {p : Pos} (hK : ∀ i, (X i).K = K) (hr : ∀ i, Room k (X i).A) (hm : ∀ i, (X i).mg "str" = none) (h : DB X K W c [e] wl) (hg : ∀ i, Gl (X i) "str" := by intro _; rfl) (he : ∀ i, starEach [e] (X i).env = (false, eval e (X i).env) :: starEach [] (X i).env := by intro _; rfl) (hpl : ∀ i, (backTo pos (starEach [] (X i).env)).any (·.1) = false := by intro _; rfl) :
    DE X K W c (.Call (.Name "str" p) [e] [] pos) (wCb (fStrE K) wl) :=
  de_cb caStrE (fun i _ pa => by rw [← hK i]; exact pe_callTy (call_strT (hr i)) (hg i) (hm i) bt_str pa (by decide) (by decide) (he i) (hpl i)) h
/-- a class of the text, as a value -/
theorem de_cls {mg : Str → Option Value} {x : Str} {C : Addr} (hmg : ∀ i, (X i).mg = mg) (g : mg x = some (.ref C)) (hg : ∀ i, Gl (X i) x := by intro _; rfl) (hdb : (x == ("__debug__" : Str)) = false := by decide) : DE X K W 0 (.Name x pos) (wC (.obj (.ref C))) :=
  de_glob (v := .ref C) (u := .ref C) (fun i => by rw [hmg i]; exact g) rfl (.obj _) hg hdb
end
/-! ### pens with tables -/
structure HasPen (p : Addr) (Q : Pn) (c : Addr) : Prop where
  isp : Q.is p
  isc : Q.is c
  get : ∀ n H, Q.ok n H → penOk p c n H
  back : ∀ n m H H', Q.ok n H → Ext (penP p c).is H H' → penOk p c m H' → Q.ok m H'
theorem hasPen0 {p c : Addr} : HasPen p (penP p c) c := ⟨.inl rfl, .inr rfl, fun _ _ h => h, fun _ _ _ _ _ _ h => h⟩
def penT (p c : Addr) (T : List (Addr × Str)) : Pn where
  is := fun a => a = p ∨ a = c ∨ ∃ t ∈ T, a = t.1
  ok := fun n H => penOk p c n H ∧ Tabs T H
  mono := fun h hm => ⟨(penP p c).mono h.1 hm, h.2⟩
  stab := fun {n H H'} h e k => ⟨(penP p c).stab h.1 (fun a z => e a (z.elim .inl fun z => .inr (.inl z))) k, fun t ht => by
    obtain ⟨ps, h1, h2, h3⟩ := h.2 t ht
    refine ⟨ps, by rw [e t.1 (.inr (.inr ⟨t, ht, rfl⟩))]; exact h1, h2, fun pos cv hc => ?_⟩
    obtain ⟨d, e1, e2⟩ := h3 pos cv hc
    refine ⟨d, e1, k d _ e2 (fun xs z => ?_) (fun ks z => ?_) codeO_ne⟩
    · unfold CodeO at z
      exact nomatch z
    · unfold CodeO at z
      exact nomatch z⟩
  al := fun {n H a} h i => by
    rcases i with i | i | ⟨t, ht, rfl⟩
    · exact (penP p c).al h.1 (.inl i)
    · exact (penP p c).al h.1 (.inr i)
    · obtain ⟨ps, h1, _⟩ := h.2 t ht
      rw [h1]
      exact fun z => nomatch z
theorem pen_not_tab {p c : Addr} {n : Nat} {H : Hp} {a : Addr} {ps : Array Value} (h : penOk p c n H) (i : a = p ∨ a = c) (t : H a = some (.tbl ps)) : False := by
  obtain ⟨ne, cells, k, z, h1, h2, h3, h4, h5⟩ := h
  rcases i with rfl | rfl
  · rw [h3] at t; exact nomatch t
  · rw [h1] at t; exact nomatch t
theorem hasPenT {p c : Addr} {T : List (Addr × Str)} : HasPen p (penT p c T) c := ⟨.inl rfl, .inr (.inl rfl), fun _ _ h => h.1, fun n m H H' h e k => ⟨k, fun t ht => by
  obtain ⟨ps, h1, h2, h3⟩ := h.2 t ht
  refine ⟨ps, e _ _ (fun z => pen_not_tab h.1 z h1) h1, h2, fun pos cv hc => ?_⟩
  obtain ⟨d, e1, e2⟩ := h3 pos cv hc
  refine ⟨d, e1, e _ _ (fun z => ?_) e2⟩
  obtain ⟨ne, cells, k', z', g1, g2, g3, g4, g5⟩ := h.1
  rcases z with rfl | rfl
  · rw [g3] at e2; unfold CodeO at e2; exact nomatch e2
  · rw [g1] at e2; unfold CodeO at e2; exact nomatch e2⟩⟩
/-- what a lambda's rule wants of the pen -/
theorem penT_lam {p c Pt : Addr} {T : List (Addr × Str)} (hm : ∃ t ∈ T, t.1 = Pt) : (penT p c T).is Pt ∧ (∀ n H, (penT p c T).ok n H → Tabs T H) ∧ ∀ n H J, (penT p c T).ok n H → Off Pt H J → Tabs T J → (penT p c T).ok n J := by
  obtain ⟨t, ht, rfl⟩ := hm
  refine ⟨.inr (.inr ⟨t, ht, rfl⟩), fun _ _ h => h.2, fun n H J h o tb => ⟨?_, tb⟩⟩
  obtain ⟨ps, k1, _, _⟩ := h.2 t ht
  have np : p ≠ t.1 := fun z => pen_not_tab h.1 (.inl z.symm) k1
  have nc : c ≠ t.1 := fun z => pen_not_tab h.1 (.inr z.symm) k1
  obtain ⟨ne, cells, k', z', g1, g2, g3, g4, g5⟩ := h.1
  exact ⟨ne, cells, k', z', o _ _ nc g1, g2, o _ _ np g3, g4, g5⟩
section
variable {ι : Type} {X : ι → Cx} {K : Fg} {W : Ctl} {c : Nat} {e : Expr} {es : List Expr} {wl : WL} {pos p2 : Pos}
theorem de_callPT {P : Program} {w : World} {mg : Str → Option Value} {base : Heap} {x : Str} {k kk np cst : Nat} {Wf : WF} {p : Addr} (F : PFn P w K mg base x k np cst Wf) (hF : Fam X P w K mg base) (hp : ∀ Q, W.pc Q → ∃ c, HasPen p Q c) (tk : ∀ i, Takes (X i) W.w) (hr : ∀ i, Room kk (X i).A) (h : DA X K W c (e :: es) wl) (hk : k ≤ kk := by decide)
    (hg : ∀ i, Gl (X i) x := by intro _; rfl) (hdb : (x == ("__debug__" : Str)) = false := by decide) (he : ∀ i, starEach (e :: es) (X i).env = (false, eval e (X i).env) :: starEach es (X i).env := by intro _; rfl) (hpl : ∀ i, (backTo pos (starEach es (X i).env)).any (·.1) = false := by intro _; rfl) :
    DE X K W (c + cst) (.Call (.Name x p2) (e :: es) [] pos) (wCallP p Wf wl) := by
  obtain ⟨ta, pa, s⟩ := h
  obtain ⟨f, fd, ps, h1, h2, h3, h4⟩ := F.ex
  refine ⟨tCallS (spP K np cst Wf) (L2.WE W.w) ta, fun i => ?_, fun P' av H0 ed hw n H σ G Qd L h Q q => ?_⟩
  · obtain ⟨e1, e2, e3, e4, e5⟩ := hF i
    subst e1; subst e2; subst e3; subst e4; subst e5
    exact pe_callS (h4.mono (Nat.le_refl _)) ((hr i).mono hk) (hg i) h1 h2 h3 (fun σ => passAt (tk i) σ) (pa i) hdb (he i) (hpl i)
  · obtain ⟨cc, hpn⟩ := hp P' hw.1
    have sub : ∀ a, (penP p cc).is a → P'.is a := fun a z => z.elim (fun z => z ▸ hpn.isp) fun z => z ▸ hpn.isc
    have extS : ∀ {A B : Hp}, Ext (penP p cc).is A B → Ext P'.is A B := fun ex a o hn hh => ex a o (fun z => hn (sub a z)) hh
    refine s P' av H0 ed hw (n + cst) H σ G _ (L.le (by omega)) h _ fun vs H1 ds hd L1 e1 r1 => ?_
    obtain ⟨q', r, e0, e2, hd2⟩ := penA_of hd
    subst e0
    subst e2
    cases r1 with
    | cons r0 rr =>
      cases r0
      refine ⟨by rw [List.length_cons, rr.len, F.len r ed Qd hd2], q', cc, n, avo av σ G, _, r, ed, Qd, rfl, hpn.get _ _ L1.ok, L1.isAvo hpn.isp, L1.isAvo hpn.isc, fun _ => L1.avoNe, rr, hd2, fun cls H' hc ex => hw.2 cls σ H' hc (L1.ext.trans (extS ex)), fun v H' d hd ex hk r => ?_⟩
      exact q v H' d hd (L1.grow (extS ex) (hpn.back _ _ _ _ L1.ok ex hk)) (e1.trans (extS ex)) r
/-! ### x(lambda: body), where x hands on the error -/
def wLamE (K : Fg) (c : Value) (we : WE) : WE := fun G _ Q => we (frzG G) (fun cls => PySem.W.exmOne K cls c = some true ∧ Q (.err cls none)) fun _ => Q .non
theorem de_lamE {k : Nat} {T : List (Addr × Str)} {Pt : Addr} {c : Value} {we : WE} {body : Expr} {scope : Scope}
    (call : ∀ (i : ι) (t : XK → TE), (∀ (A : Around) (outer : List Env) (s : Shared) (H : Hp) (E : XK) (f d : Addr), Room k (A.deeper (lamEnv (X i) scope s.heap.objs.size f d)) → PE (lamCx (X i) A outer s H E scope f d) body (t E)) → PE (X i) e (tLamS T Pt (TErr K c) t))
    (pen : ∀ P, W.pc P → P.is Pt ∧ (∀ n H, P.ok n H → Tabs T H) ∧ ∀ n H J, P.ok n H → Off Pt H J → Tabs T J → P.ok n J)
    (hbody : ∀ E : XK, DE (LamF X scope k E) K ⟨fun cls dd _ H => E cls dd H, fun _ => True⟩ 0 body we) : DE X K W 0 e (wLamE K c we) := by
  refine ⟨_, fun i => call i (fun E => (hbody E).choose) fun A outer s H E f d hr => (hbody E).choose_spec.1 ⟨i, A, outer, s, H, f, d, hr⟩, fun P av H0 ed hw n H σ G Qd L h Q q => ?_⟩
  obtain ⟨p1, p2, p3⟩ := pen P hw.1
  refine ⟨p2 _ _ L.ok, fun J off tb => ?_⟩
  have eJ : Ext P.is H J := fun a o na hh => off a o (fun z => na (z ▸ p1)) hh
  have LJ := L.grow eJ (p3 _ _ _ L.ok off tb)
  obtain ⟨LF, no⟩ := LJ.frzAll
  have L' : LocOk noPen K av J n J σ (frzG G) := ⟨LF.len, LF.sl, LF.inj, .refl _ _, fun a z => absurd z (no a), trivial, fun _ z => z.elim, fun a z => LJ.avNe z⟩
  refine (hbody _).choose_spec.2 noPen av J (fun cls => PySem.W.exmOne K cls c = some true ∧ Qd (.err cls none)) ⟨trivial, fun cls σ' J2 hc ex => ?_⟩ n J σ (frzG G) _ L' h _ fun v J2 d hd L2 e2 r2 => ?_
  · refine ⟨rfl, hc.1, fun a na => ?_⟩
    have ex1 : Ex J J2 := fun a o hh => ex a o (fun z => z) hh
    have ex2 : Ex J (upd J2 a (ErO cls a none)) := fun b o hh => ex_new na b o (ex1 b o hh)
    have naJ : J a = none := by
      cases e : J a with
      | none => rfl
      | some o => rw [ex1 a o e] at na; exact nomatch na
    exact q _ _ _ hc.2 ((LJ.growEx ex2).le (Nat.le_refl _)) (eJ.trans (Ex.ext ex2)) (.err ⟨none, upd_same, fun z => LJ.avoNe z naJ, fun _ z => nomatch z⟩)
  · have ex : Ex J J2 := fun a o hh => e2 a o (fun z => z) hh
    exact q _ J2 .non hd ((LJ.growEx ex).le (Nat.le_refl _)) (eJ.trans (Ex.ext ex)) .non
end
end DL

namespace DL
open PySem PySem.Spec PyProof.Rows L2
/-! ### a dict of the module, texts to ints, read -/
def kvOf (e : DictEntry) : Option (Str × Int) := match e.key, e.val with
  | .str x _, .int i _ => some (x, i)
  | _, _ => none
def lookS (kvs : List (Str × Int)) (z : Str) : Option Int := (kvs.find? fun p => p.1 == z).map (·.2)
structure DicF (K : Fg) (w : World) (mg : Str → Option Value) (x : Str) (d : Addr) (kvs : List (Str × Int)) : Prop where
  g : mg x = some (.ref d)
  ex : ∃ es n, KDict K w d es n ∧ es.toList.map kvOf = kvs.map some
theorem kvOf_some {e : DictEntry} {x : Str} {i : Int} (h : kvOf e = some (x, i)) : ∃ t u, e.key = .str x t ∧ e.val = .int i u := by
  unfold kvOf at h
  split at h
  · rename_i x' t i' u h1 h2
    cases h
    exact ⟨t, u, h1, h2⟩
  · exact nomatch h
theorem find_kv (z : Str) : ∀ {es : List DictEntry} {kvs : List (Str × Int)}, es.map kvOf = kvs.map some →
    es.any (·.refKey) = false ∧ match lookS kvs z with
      | some i => ∃ e u, es.find? (·.key.isStr z) = some e ∧ e.val = .int i u
      | none => es.find? (·.key.isStr z) = none
  | [], [], _ => ⟨rfl, rfl⟩
  | [], _ :: _, h => nomatch h
  | _ :: _, [], h => nomatch h
  | e :: es, (x, i) :: kvs, h => by
    rw [List.map_cons, List.map_cons, List.cons.injEq] at h
    obtain ⟨t, u, h1, h2⟩ := kvOf_some h.1
    obtain ⟨r1, r2⟩ := find_kv z h.2
    have rk : e.refKey = false := by unfold DictEntry.refKey; rw [h1]
    refine ⟨by rw [List.any_cons, rk, r1]; rfl, ?_⟩
    have hk : e.key.isStr z = (x == z) := by rw [h1]; rfl
    unfold lookS at r2 ⊢
    rw [List.find?_cons, List.find?_cons, hk]
    cases hx : (x == z) with
    | true => exact ⟨e, u, rfl, h2⟩
    | false => exact r2
theorem DicF.ns {K : Fg} {w : World} {mg : Str → Option Value} {x : Str} {d : Addr} {kvs : List (Str × Int)} (F : DicF K w mg x d kvs) (z : Str) : ∃ r, PySem.W.nsIn K d z = some r ∧ r.isSome = (lookS kvs z).isSome ∧ ∀ i, lookS kvs z = some i → ∃ u, r = some u ∧ RelV (.int i) u := by
  obtain ⟨es, n, D, hk⟩ := F.ex
  obtain ⟨h1, h2⟩ := find_kv z hk
  unfold PySem.W.nsIn
  rw [D.at_]
  dsimp only
  cases q : lookS kvs z with
  | none =>
    rw [q] at h2
    dsimp only at h2
    rw [h2]
    dsimp only
    rw [h1]
    exact ⟨none, rfl, rfl, fun _ z => nomatch z⟩
  | some i =>
    rw [q] at h2
    obtain ⟨e, u, h3, h4⟩ := h2
    rw [h3]
    exact ⟨some e.val, rfl, rfl, fun j hj => by cases hj; exact ⟨e.val, rfl, u, h4⟩⟩
section
variable {ι : Type} {X : ι → Cx} {K : Fg} {W : Ctl} {c : Nat} {a : Expr} {wa : WE} {pos p2 : Pos} {w : World} {mg : Str → Option Value} {x : Str} {d : Addr} {kvs : List (Str × Int)}
def fKdIn (d : Addr) (kvs : List (Str × Int)) (g : Bool → Bool) : D → D → (D → Prop) → Prop
  | .str z, .obj (.ref d'), Q => d' = d ∧ Q (.bl (g (lookS kvs z).isSome))
  | _, _, _ => False
theorem opKdIn {r : R2} {g : Bool → Bool} (F : DicF K w mg x d kvs) (hr : ∀ z H Q r0, PySem.W.nsIn K d z = some r0 → Q (.bl (g r0.isSome)) H → r (.str z) (.ref d) H Q) : OpS K r (fKdIn d kvs g) := by
  intro is av H x y dx dy Qd hi ha rx ry h Q q
  unfold fKdIn at h
  split at h
  · obtain ⟨rfl, h⟩ := h
    cases rx
    cases ry
    obtain ⟨r0, h1, h2, _⟩ := F.ns ‹Str›
    exact hr _ _ _ r0 h1 (q _ H _ (by rw [h2]; exact h) (fun _ _ z => z) (.bl _))
  · exact h.elim
theorem dx_kdIn (hK : ∀ i, (X i).K = K) (hW : ∀ i, (X i).w = w) (hmg : ∀ i, (X i).mg = mg) (F : DicF K w mg x d kvs) (ha : DR X K W c a wa) (hg : ∀ i, Gl (X i) x := by intro _; rfl) (hdb : (x == ("__debug__" : Str)) = false := by decide) : DX X K W (c + 0) (.Compare a [.In] [.Name x p2] pos) (w2 (fKdIn d kvs id) wa (wC (.obj (.ref d)))) := by
  obtain ⟨es, n, D, _⟩ := F.ex
  exact twoX (r := fun x y H Q => ∃ (z : Str) (r : Option Value), x = .str z ∧ y = .ref d ∧ PySem.W.nsIn K d z = some r ∧ Q (.bl r.isSome) H) (opKdIn (g := id) F fun z H Q r0 h q => ⟨z, r0, rfl, rfl, h, q⟩) (fun i _ _ pa pb => by
    have D' : KDict (X i).K (X i).w d es n := by rw [hK i, hW i]; exact D
    have e1 := op_in_kd D'
    rw [hK i] at e1
    exact ⟨pe_cmpR e1 pa pb rfl, pt_cmpR e1 pa pb rfl⟩) ha (de_cls hmg F.g hg hdb).r
theorem dx_kdNotIn (hK : ∀ i, (X i).K = K) (hW : ∀ i, (X i).w = w) (hmg : ∀ i, (X i).mg = mg) (F : DicF K w mg x d kvs) (ha : DR X K W c a wa) (hg : ∀ i, Gl (X i) x := by intro _; rfl) (hdb : (x == ("__debug__" : Str)) = false := by decide) : DX X K W (c + 0) (.Compare a [.NotIn] [.Name x p2] pos) (w2 (fKdIn d kvs not) wa (wC (.obj (.ref d)))) := by
  obtain ⟨es, n, D, _⟩ := F.ex
  exact twoX (r := fun x y H Q => ∃ (z : Str) (r : Option Value), x = .str z ∧ y = .ref d ∧ PySem.W.nsIn K d z = some r ∧ Q (.bl (!r.isSome)) H) (opKdIn (g := not) F fun z H Q r0 h q => ⟨z, r0, rfl, rfl, h, q⟩) (fun i _ _ pa pb => by
    have D' : KDict (X i).K (X i).w d es n := by rw [hK i, hW i]; exact D
    have e1 := op_notIn_kd D'
    rw [hK i] at e1
    exact ⟨pe_cmpR e1 pa pb rfl, pt_cmpR e1 pa pb rfl⟩) ha (de_cls hmg F.g hg hdb).r
def fKdIx (d : Addr) (kvs : List (Str × Int)) : D → D → (D → Prop) → Prop
  | .obj (.ref d'), .str z, Q => d' = d ∧ onO (lookS kvs z) fun i => Q (.int i)
  | _, _, _ => False
theorem opKdIx (F : DicF K w mg x d kvs) : OpS K (rIxD K w) (fKdIx d kvs) := by
  intro is av H x y dx dy Qd hi ha rx ry h Q q
  unfold fKdIx at h
  split at h
  · obtain ⟨rfl, h⟩ := h
    obtain ⟨i, e, h⟩ := onO_of h
    cases rx
    cases ry
    obtain ⟨r0, h1, _, h3⟩ := F.ns ‹Str›
    obtain ⟨u, rfl, ru⟩ := h3 i e
    obtain ⟨es, n, D, _⟩ := F.ex
    exact ⟨_, _, .int i, rfl, rfl, ⟨es, n, u, D.at_, D.lit, h1, ru⟩, q _ H _ h (fun _ _ z => z) (.int _)⟩
  · exact h.elim
theorem de_kdIx (hK : ∀ i, (X i).K = K) (hW : ∀ i, (X i).w = w) (hmg : ∀ i, (X i).mg = mg) (F : DicF K w mg x d kvs) (hb : DR X K W c a wa) (hg : ∀ i, Gl (X i) x := by intro _; rfl) (hdb : (x == ("__debug__" : Str)) = false := by decide) (hs : PlainIx a := by exact fun _ _ => rfl) : DE X K W (0 + c) (.Subscript (.Name x p2) a pos) (w2 (fKdIx d kvs) (wC (.obj (.ref d))) wa) :=
  two (opKdIx F) (fun i _ _ pa pb => by
    have e1 := ix_kdict (X := X i)
    rw [hK i, hW i] at e1
    exact pe_ix e1 pa pb hs) (de_cls hmg F.g hg hdb).r hb
end
end DL

namespace DL
open PySem PySem.Spec PyProof.Rows L2
/-! ### more methods of texts -/
section
variable {ι : Type} {X : ι → Cx} {K : Fg} {W : Ctl} {c c1 c2 : Nat} {a e e2 : Expr} {wa : WE} {wl : WL} {pos apos cpos : Pos}
def fStr1 (g : Str → Str → D) : D → List D → (D → Prop) → Prop
  | .str a, [.str b], Q => Q (g a b)
  | _, _, _ => False
theorem meStr1 {g : Str → Str → D} {gv : Str → Str → V} (hg : ∀ a b, Atom (gv a b) (g a b)) : MeS K W (fun _ x xs H Q => ∃ a b, x = .str a ∧ xs = [.str b] ∧ Q (gv a b) H) "str" (fStr1 g) := by
  intro is av σ H H' x xs dx ds Qd hi ha ex rx rs h Q q
  unfold fStr1 at h
  split at h
  · cases rx
    cases rs with
    | cons r rr =>
      cases rr
      cases r
      exact ⟨_, _, rfl, rfl, q _ H' _ h (fun _ _ z => z) (hg _ _).rp⟩
  · exact h.elim
theorem de_count (hK : ∀ i, (X i).K = K) (ha : DR X K W c1 a wa) (hb : DB X K W c2 [e] wl)
    (hbase : ∀ i, attributeBase a "count" (X i).env (eval a (X i).env) = eval a (X i).env := by intro _; rfl)
    (hfew : ∀ i, ((backTo cpos (starEach [e] (X i).env)).all (fun x => !x.1) && (backToKw cpos (keywordEach [] (X i).env)).all (fun x => x.1.isSome) && decide ([e].length + ([] : List Keyword).length + (if ([] : List Keyword).isEmpty then 0 else 1) < 30)) = true := by intro _; rfl)
    (hline : (apos.endLine == cpos.line) = true := by rfl) (hs : ∀ i, starEach [e] (X i).env = (false, eval e (X i).env) :: starEach [] (X i).env := by intro _; rfl) : DE X K W (c1 + c2) (.Call (.Attribute a "count" apos) [e] [] cpos) (wMe (fStr1 fun a b => .int (Txt.count a b)) isStr wa wl) :=
  de_me (T := "str") (fun _ _ _ _ _ => str_ty) (meStr1 (gv := fun a b => .int (Txt.count a b)) fun _ _ => .int _) (fun i _ _ pa pl => by rw [← hK i]; exact pe_bmS PySem.F.plainAttrs_str PySem.F.slot_str_count PySem.F.type_str_count (MtR.toS mt_count) pa pl (hbase i) (hfew i) hline (hs i)) ha hb
def fUpper : D → List D → (D → Prop) → Prop
  | .str a, [], Q => a.length ≤ 5592405 ∧ Q (.str (Txt.upper a))
  | _, _, _ => False
theorem de_upper (hK : ∀ i, (X i).K = K) (ha : DR X K W c a wa)
    (hbase : ∀ i, attributeBase a "upper" (X i).env (eval a (X i).env) = eval a (X i).env := by intro _; rfl) (hline : (apos.endLine == cpos.line) = true := by rfl) : DE X K W c (.Call (.Attribute a "upper" apos) [] [] cpos) (fun G ed Q => wa G ed fun x => fUpper x [] Q) := by
  obtain ⟨ta, pa, sa⟩ := ha
  refine ⟨tBM0 K "str" (fun x xs H Q => ∃ a, x = .str a ∧ xs = [] ∧ a.length ≤ 5592405 ∧ Q (.str (Txt.upper a)) H) ta, fun i => by rw [← hK i]; exact pe_bm0 PySem.F.plainAttrs_str PySem.F.slot_str_upper PySem.F.type_str_upper mt_upper (pa i) (hbase i) hline, fun P av H0 ed hw n H σ G Qd L h Q q => ?_⟩
  refine sa P av H0 ed hw n H σ G _ L h _ fun x H1 dx hx L1 e1 r1 => ?_
  unfold fUpper at hx
  split at hx
  · cases r1
    exact ⟨rfl, _, rfl, rfl, hx.1, q _ _ _ hx.2 L1 e1 (.str _)⟩
  · exact hx.elim
end
end DL

namespace DL
open PySem PySem.Spec PyProof.Rows L2
/-! ### x, y = a, b with plain local names -/
section
variable {ι : Type} {X : ι → Cx} {K : Fg} {W : Ctl} {c1 c2 : Nat} {a b : Expr} {wa wb : WE} {wl : WL} {pos px py pt pt2 : Pos} {x y : Str} {i j : Nat} {kt k2 : Nat}
def wPar (i j : Nat) (wa wb : WE) : WS := fun G De => wa G De.ex fun d => wb G De.ex fun d2 => De.nx ((G.set j (.dat d2)).set i (.dat d))
def wParO (i j : Nat) (wa : WE) (wl : WL) : WS := fun G De => wa G De.ex fun d => wl G De.ex fun ds => De.nx ((G.set j (.own (.lst ds))).set i (.dat d))
theorem ds_parO (ha : DE X K W c1 a wa) (hb : DF X K W c2 b wl) (hN : ∀ q, (X q).N.Nodup) (hij : i ≠ j := by decide) (hc : ∀ q, (X q).calm = true := by intro _; rfl) (hi : ∀ q, (X q).N[i]? = some x := by intro _; rfl) (hj : ∀ q, (X q).N[j]? = some y := by intro _; rfl)
    (hx : ∀ q, (X q).env.scope.names.lookup x = some .local := by intro _; rfl) (hy : ∀ q, (X q).env.scope.names.lookup y = some .local := by intro _; rfl)
    (hw : ∀ q, swappedStores [.Tuple [.Name x px, .Name y py] kt pt] (.Tuple [a, b] k2 pt2) (X q).env = pure (some [x, y]) := by intro _; rfl)
    (hs : ∀ q, swapsWithSole [.Tuple [.Name x px, .Name y py] kt pt] (.Tuple [a, b] k2 pt2) pos.line (X q).env = pure false := by intro _; rfl)
    (h1 : ∀ q, starEach [a, b] (X q).env = (false, eval a (X q).env) :: starEach [b] (X q).env := by intro _; rfl) (h2 : ∀ q, starEach [b] (X q).env = (false, eval b (X q).env) :: starEach [] (X q).env := by intro _; rfl) :
    DS X K W (c1 + c2) (.Assign [.Tuple [.Name x px, .Name y py] kt pt] (.Tuple [a, b] k2 pt2) pos) (wParO i j wa wl) := by
  obtain ⟨ta, pa, sa⟩ := ha
  obtain ⟨tb, pb, sb⟩ := hb
  refine ⟨_, fun q => ps_par (hc q) (hN q) (hi q) (hj q) hij (hx q) (hy q) (pa_cons (pa q) (pa_cons (pb q) pa_nil (h2 q)) (h1 q)) (hw q) (hs q), fun P av H0 De hw n H σ G L h D dd => ?_⟩
  refine sa P av H0 _ hw (n + c2) H σ G _ (L.le (by omega)) h _ fun v H1 d hd L1 e1 r1 => ?_
  refine sb P av H0 _ hw n H1 σ G _ (L1.le (Nat.le_refl _)) hd _ fun p xs H2 ds hds L2 e2 hn hp r => ?_
  refine ⟨v, .ref p, rfl, ?_⟩
  obtain ⟨L3, o⟩ := L1.putOwn (i := j) L2 e2 hn hp .lst r
  have r1' : Rp K (avo av (σ.set j (some (.ref p))) (G.set j (.own (.lst ds)))) H2 v d := r1.ext e2 (fun _ => L1.isAvo) fun z hz k => by
    rcases k with k | k
    · exact .inl k
    · rcases o z k with k | rfl
      · exact .inr k
      · exact absurd hn hz
  obtain ⟨L4, o4⟩ := L3.put (i := i) (v := some v) (s := .dat d) ⟨v, rfl, r1'⟩ fun _ => fun z => nomatch z
  have np : ¬ P.is p := fun z => L1.avNe (L1.pav _ z) hn
  rw [List.set_comm _ _ (Ne.symm hij)] at L4 o4
  have hnH : H p = none := e1.none np hn
  refine dd.nx _ _ _ hds L4 ⟨fun a u k hh => e2 a u (fun z => k (.inl z)) (e1 a u (fun z => k (.inl z)) hh), fun a z => ?_⟩
  rcases o a (o4 a z) with z | z
  · exact .inl z
  · exact .inr ⟨z ▸ hnH, z ▸ np⟩
theorem ds_par (ha : DE X K W c1 a wa) (hb : DE X K W c2 b wb) (hN : ∀ q, (X q).N.Nodup) (hij : i ≠ j := by decide) (hc : ∀ q, (X q).calm = true := by intro _; rfl) (hi : ∀ q, (X q).N[i]? = some x := by intro _; rfl) (hj : ∀ q, (X q).N[j]? = some y := by intro _; rfl)
    (hx : ∀ q, (X q).env.scope.names.lookup x = some .local := by intro _; rfl) (hy : ∀ q, (X q).env.scope.names.lookup y = some .local := by intro _; rfl)
    (hw : ∀ q, swappedStores [.Tuple [.Name x px, .Name y py] kt pt] (.Tuple [a, b] k2 pt2) (X q).env = pure (some [x, y]) := by intro _; rfl)
    (hs : ∀ q, swapsWithSole [.Tuple [.Name x px, .Name y py] kt pt] (.Tuple [a, b] k2 pt2) pos.line (X q).env = pure false := by intro _; rfl)
    (h1 : ∀ q, starEach [a, b] (X q).env = (false, eval a (X q).env) :: starEach [b] (X q).env := by intro _; rfl) (h2 : ∀ q, starEach [b] (X q).env = (false, eval b (X q).env) :: starEach [] (X q).env := by intro _; rfl) :
    DS X K W (c1 + c2) (.Assign [.Tuple [.Name x px, .Name y py] kt pt] (.Tuple [a, b] k2 pt2) pos) (wPar i j wa wb) := by
  obtain ⟨ta, pa, sa⟩ := ha
  obtain ⟨tb, pb, sb⟩ := hb
  refine ⟨_, fun q => ps_par (hc q) (hN q) (hi q) (hj q) hij (hx q) (hy q) (pa_cons (pa q) (pa_cons (pb q) pa_nil (h2 q)) (h1 q)) (hw q) (hs q), fun P av H0 De hw n H σ G L h D dd => ?_⟩
  refine sa P av H0 _ hw (n + c2) H σ G _ (L.le (by omega)) h _ fun v H1 d hd L1 e1 r1 => ?_
  refine sb P av H0 _ hw n H1 σ G _ (L1.le (Nat.le_refl _)) hd _ fun v2 H2 d2 hd2 L2 e2 r2 => ?_
  refine ⟨v, v2, rfl, ?_⟩
  obtain ⟨L3, o⟩ := L2.put (i := j) (v := some v2) (s := .dat d2) ⟨v2, rfl, r2⟩ fun _ => fun z => nomatch z
  have r1' : Rp K (avo av (σ.set j (some v2)) (G.set j (.dat d2))) H2 v d := r1.ext e2 (fun _ => L1.isAvo) fun z hz k => by
    rcases k with k | k
    · exact .inl k
    · exact .inr (o z k)
  obtain ⟨L4, o4⟩ := L3.put (i := i) (v := some v) (s := .dat d) ⟨v, rfl, r1'⟩ fun _ => fun z => nomatch z
  rw [List.set_comm _ _ (Ne.symm hij)] at L4 o4
  exact dd.nx _ _ _ hd2 L4 (.of (e1.trans e2) fun a z => o a (o4 a z))
end
end DL

namespace DL
open PySem PySem.Spec PyProof.Rows L2
open LamX (Tabs TabS)
/-! ### the law's own def, once it has its pen -/
abbrev G0 (N : List Str) (p : Addr) : Gm := (List.replicate N.length Slot.un).set 1 (.dat (.obj (.ref p)))
theorem loc_pen {P : Pn} {K : Fg} {av : Av} {H : Hp} {n : Nat} {N : List Str} {a p : Addr} (hl : 2 ≤ N.length) (ok : P.ok n H) (pav : ∀ a, P.is a → av a) (al : ∀ a, av a → H a ≠ none) : LocOk P K av H n H ((L2.start N [.ref a]).set 1 (some (.ref p))) (G0 N p) := by
  have ln : (L2.start N [V.ref a]).length = N.length := by
    unfold L2.start
    simp
    omega
  have no : ∀ (i : Nat) (ds : D), (G0 N p)[i]? ≠ some (.own ds) := fun i ds h => by
    rw [List.getElem?_set] at h
    split at h
    · split at h <;> exact nomatch h
    · rw [List.getElem?_replicate] at h
      split at h <;> exact nomatch h
  refine ⟨by rw [List.length_set, List.length_set, List.length_replicate, ln], fun i s hs => ?_, fun i j d1 _ _ h1 _ _ _ => absurd h1 (no i d1), .refl _ _, fun x ⟨i, ds, h1, _⟩ => absurd h1 (no i ds), ok, pav, al⟩
  rw [List.getElem?_set] at hs
  by_cases e : 1 = i
  · rw [if_pos e, List.length_replicate, if_pos (by omega)] at hs
    cases hs
    subst e
    exact ⟨some (.ref p), by rw [List.getElem?_set_self (by rw [ln]; omega)], .ref p, rfl, .obj _⟩
  · rw [if_neg e, List.getElem?_replicate] at hs
    split at hs
    · rename_i hi
      cases hs
      refine ⟨(L2.start N [V.ref a])[i]'(by rw [ln]; exact hi), ?_, trivial⟩
      rw [List.getElem?_set_ne e]
      exact List.getElem?_eq_getElem _
    · exact nomatch hs
/-- the rest of the law's def is read with the pen -/
theorem rest_pen {X : Cx} {K : Fg} {E : XK} {cst : Nat} {sts : List Stmt} {wb : WS} {N : List Str} {a p c Pt : Addr} {q : Str} {H' : Hp} {Q : VK} (der : DSs (fun _ : Unit => X) K ⟨fun cls d _ H => E cls d H, fun Q => ∃ c, Q = penT p c [(Pt, q)]⟩ cst sts wb) (hl : 2 ≤ N.length) (hc : cst ≤ 1000000000)
    (hp : penOk p c 1000000000 H') (hT : H' Pt = some (.tbl #[])) (h : wb (G0 N p) (dEnds (fun _ => False) fun d => d = .bl true)) (hQ : ∀ H2, Q (.bl true) H2) :
    der.choose { nx := fun _ H' => Q .non H', rt := Q } ((L2.start N [.ref a]).set 1 (some (.ref p))) H' := by
  have tb : Tabs [(Pt, q)] H' := fun t ht => by
    rw [List.mem_singleton.mp ht]
    exact ⟨#[], hT, trivial, fun pos cv hcv => nomatch hcv⟩
  have ok : (penT p c [(Pt, q)]).ok 1000000000 H' := ⟨hp, tb⟩
  have L : LocOk (penT p c [(Pt, q)]) K (penT p c [(Pt, q)]).is H' 1000000000 H' ((L2.start N [.ref a]).set 1 (some (.ref p))) (G0 N p) := loc_pen hl ok (fun _ z => z) fun x z => (penT p c [(Pt, q)]).al ok z
  refine der.choose_spec.2 (penT p c [(Pt, q)]) _ H' (dEnds (fun _ => False) fun d => d = .bl true) ⟨⟨c, rfl⟩, fun _ _ _ z => z.elim⟩ 0 H' _ _ (L.le (by omega)) h _ ⟨(fun _ _ _ z => nomatch (show D.non = .bl true from z)), fun _ _ _ z => z.elim, fun _ _ _ z => z.elim, fun v H2 d hd _ _ r => ?_, fun _ _ _ _ z => nomatch (show D.lst _ = .bl true from z)⟩
  have hd : d = .bl true := hd
  subst hd
  cases r
  exact hQ H2
end DL

namespace DL
open PySem PySem.Spec PyProof.Rows L2
open LamX (Tabs TabS TabB)
/-! ### repr, at the outermost call alone -/
section
variable {X : Cx}
def rRepr (K : Fg) : List V → Hp → VK → Prop := fun xs H Q => ∃ (x : V) (d : PyData), xs = [x] ∧ Dp K H x d ∧ d.showable = true ∧ d.hasDict = false ∧ d.depth ≤ 60 ∧ d.shown.length ≤ sizeLine ∧ Q (.str d.shown) H
theorem call_reprD {k : Nat} (hr : Room k X.A) (hg : X.A.guards = some []) : CallR X (.builtin "repr") (rRepr X.K) := by
  intro pins s σ H xs us Q I r h
  obtain ⟨x, d, rfl, hd, h1, h2, h3, h4, q⟩ := h
  cases r with
  | cons rx rr =>
    cases rr
    rename_i u
    cases d with
    | none =>
      cases hd
      cases rx
      exact PySem.P.repr_of_none ⟨.str _, H, I.tok _, ⟨_, rfl⟩, q⟩
    | bool b =>
      cases hd
      cases rx
      exact PySem.P.repr_of_bool ⟨.str _, H, I.tok _, ⟨_, rfl⟩, q⟩
    | int i =>
      cases hd
      obtain ⟨t, rfl⟩ := rx
      exact PySem.P.repr_of_int (of_decide_eq_true h1) ⟨.str _, H, I.tok _, ⟨_, rfl⟩, q⟩
    | str z =>
      cases hd
      obtain ⟨t, rfl⟩ := rx
      exact PySem.P.repr_of_str ⟨.str _, H, I.tok _, ⟨_, rfl⟩, q⟩ h4
    | list ds =>
      obtain ⟨as, rd⟩ := Dp.reads I _ _ _ hd rx
      cases hd
      cases rx
      exact repr_of_reads' rd h1 (fun z => by rw [h2] at z; exact nomatch z) hg (by have := hr.units; omega) (fun _ _ e => e) (fun h' u tk hk => ⟨.str _, H, I.kept hk, ⟨_, rfl⟩, q⟩) h4
    | tuple ds =>
      obtain ⟨as, rd⟩ := Dp.reads I _ _ _ hd rx
      cases hd
      cases rx
      exact repr_of_reads' rd h1 (fun z => by rw [h2] at z; exact nomatch z) hg (by have := hr.units; omega) (fun _ _ e => e) (fun h' u tk hk => ⟨.str _, H, I.kept hk, ⟨_, rfl⟩, q⟩) h4
    | _ => exact nomatch hd
end
section
variable {ι : Type} {X : ι → Cx} {K : Fg} {W : Ctl} {c : Nat} {e : Expr} {wl : WL} {pos p : Pos}
def fRepr : List D → (D → Prop) → Prop
  | [d], Q => onO (pyD d) fun p => p.showable = true ∧ p.hasDict = false ∧ p.depth ≤ 60 ∧ p.shown.length ≤ sizeLine ∧ Q (.str p.shown)
  | _, _ => False
theorem caRepr : CaS K (rRepr K) fRepr := by
  intro is av H xs ds Qd hi ha r h Q q
  unfold fRepr at h
  split at h
  · obtain ⟨p, hp, h1, h2, h3, h4, h⟩ := onO_of h
    cases r with
    | cons r rr =>
      cases rr
      exact ⟨_, p, rfl, rq_dp r hp, h1, h2, h3, h4, q _ H _ h (fun _ _ z => z) (.str _)⟩
  · exact h.elim
theorem de_repr {k : Nat} (hK : ∀ i, (X i).K = K) (hr : ∀ i, Room k (X i).A) (hgd : ∀ i, (X i).A.guards = some []) (hm : ∀ i, (X i).mg "repr" = none) (h : DB X K W c [e] wl) (hg : ∀ i, Gl (X i) "repr" := by intro _; rfl) (he : ∀ i, starEach [e] (X i).env = (false, eval e (X i).env) :: starEach [] (X i).env := by intro _; rfl) (hpl : ∀ i, (backTo pos (starEach [] (X i).env)).any (·.1) = false := by intro _; rfl) :
    DE X K W c (.Call (.Name "repr" p) [e] [] pos) (wCb fRepr wl) :=
  de_cb caRepr (fun i _ pa => by rw [← hK i]; exact pe_callB (call_reprD (hr i) (hgd i)) (hg i) (hm i) (by decide +kernel) pa (by decide) (by decide) (he i) (hpl i)) h
end
end DL

namespace DL
open PySem PySem.Spec PyProof.Rows L2
open LamX (Tabs TabS TabB)
/-! ### the law's call, at the outermost caller -/
/-- what is tracked at the law's entry: the script and the tables -/
def H1 (K : Fg) (a : Addr) (o : Obj) (xs : List V) (Ts : List Addr) : Hp := fun b =>
  if b = a then (if (K.lookup a).isNone = true then some (.frz o (.lst xs)) else none) else if b ∈ Ts then some (.tbl #[]) else none
section
variable {P : Program} {w : World} {K : Fg} {mg mb : Str → Option Value} {a : Addr} {cs : List (Addr × Addr)} {s : Shared} {vs : List Value} {ns : List Int}
abbrev sObj (vs : List Value) : Obj := { cls := .type "list", data := .seq vs.toArray }
abbrev tObj : Obj := { cls := .none, data := .fields #[] }
theorem h1_cases {b : Addr} {u : HO} {o : Obj} {xs : List V} {Ts : List Addr} (h : H1 K a o xs Ts b = some u) : (b = a ∧ K.lookup a = none ∧ u = .frz o (.lst xs)) ∨ (b ∈ Ts ∧ u = .tbl #[]) := by
  unfold H1 at h
  by_cases e : b = a
  · rw [if_pos e] at h
    by_cases k : (K.lookup a).isNone = true
    · rw [if_pos k] at h
      exact .inl ⟨e, Option.isNone_iff_eq_none.mp k, (Option.some.inj h).symm⟩
    · rw [if_neg k] at h
      exact nomatch h
  · rw [if_neg e] at h
    by_cases m : b ∈ Ts
    · rw [if_pos m] at h
      exact .inr ⟨m, (Option.some.inj h).symm⟩
    · rw [if_neg m] at h
      exact nomatch h
theorem law_env (KX : K.In s.heap) (hns : s.heap.Ns mainGlobals mg) (hb : s.heap.Ns builtinsNs mb) (hbb : ∀ x : Str, x ≠ "__name__" → mb x = bootBuiltins x) (hlim : s.heap.NoLimit) (hg : s.gens = #[])
    (hT : ∀ t ∈ cs, s.heap.get? t.2 = some tObj) (nT : ∀ t ∈ cs, K.lookup t.2 = none) (hC : ∀ t ∈ cs, PySem.W.CodeHd s.heap t.1 t.2)
    (hbm : ∃ (m : Addr) (om : Obj), mg "__builtins__" = some (.ref m) ∧ m ≠ builtinsNs ∧ s.heap.get? m = some om ∧ om.cls = .type "module" ∧ om.dict = some builtinsNs ∧ om.data = .plain)
    (ha : s.heap.get? a = some (sObj vs)) (hi : IntsAre vs ns) (hl : ns.length ≤ sizeLine) :
    ∃ (base : Heap) (H : Hp), K.In base ∧ base.Ns mainGlobals mg ∧ (∀ t ∈ cs, TabB base mg t.1 t.2) ∧ Env0 P w K mg base callerA [] s H ∧ (∀ t ∈ cs, H t.2 = some (.tbl #[])) ∧ SqL K H a (ns.map V.int) ∧
      ∀ (r : Result) (s' : Shared), CR (L2.CX P w) [] P w H s (fun v _ => v = .bl true) (fun _ _ _ => False) r s' → r = .ok (.ret (.bool true)) ∧ OldK s.heap s'.heap ∧ s'.os = s.os ∧ AllBare s'.gens := by
  have ri := vals_ints hi
  have li := hi.length
  obtain ⟨Ts, eT⟩ : ∃ Ts, Ts = cs.map (·.2) := ⟨_, rfl⟩
  have mT : ∀ t ∈ cs, t.2 ∈ Ts := fun t h => by rw [eT]; exact List.mem_map.mpr ⟨t, h, rfl⟩
  have oT : ∀ b ∈ Ts, s.heap.get? b = some tObj := fun b h => by
    rw [eT] at h
    obtain ⟨t, h1, h2⟩ := List.mem_map.mp h
    exact h2 ▸ hT t h1
  have aT : a ∉ Ts := fun z => by
    have q := (oT a z).symm.trans ha
    have := congrArg Obj.data (Option.some.inj q)
    exact nomatch this
  obtain ⟨H, eH⟩ : ∃ H, H = H1 K a (sObj vs) (ns.map V.int) Ts := ⟨_, rfl⟩
  have what : ∀ {b u}, H b = some u → (b = a ∧ K.lookup a = none ∧ u = .frz (sObj vs) (.lst (ns.map V.int))) ∨ (b ∈ Ts ∧ u = .tbl #[]) := fun {b u} h => h1_cases (eH ▸ h)
  have tabH : ∀ b ∈ Ts, H b = some (.tbl #[]) := fun b m => by
    have n : ¬ b = a := fun z => aT (z ▸ m)
    rw [eH]
    unfold H1
    rw [if_neg n, if_pos m]
  have hok : HOk P w H s.heap := fun b u h => by
    rcases what h with ⟨rfl, _, rfl⟩ | ⟨m, rfl⟩
    · exact ⟨ha, by rw [List.length_map]; exact hl, vs, _, ri, ha⟩
    · exact oT b m
  have off : ∀ {b : Addr} {o : Obj}, s.heap.get? b = some o → (∀ z n, o.data ≠ .seq z n) → o.data ≠ .fields #[] → H b = none := fun {b o} g n1 n2 => by
    cases q : H b with
    | none => rfl
    | some u =>
      rcases what q with ⟨rfl, _, _⟩ | ⟨m, _⟩
      · rw [ha] at g
        cases g
        exact absurd rfl (n1 _ _)
      · rw [oT b m] at g
        cases g
        exact absurd rfl n2
  have offD : ∀ {b : Addr} {o : Obj} {es : Array DictEntry} {n : Nat}, s.heap.get? b = some o → o.data = .dict es n → H b = none := fun {b o es n} g d =>
    off g (fun z k y => by rw [d] at y; exact nomatch y) fun y => by rw [d] at y; exact nomatch y
  have keepNs : ∀ {b : Addr} {m : Str → Option Value}, s.heap.Ns b m → (hidT s.heap H).Ns b m := fun {b m} x => by
    obtain ⟨o, es, n, g, d, r⟩ := x
    exact ⟨o, es, n, hidT_get g (offD g d), d, r⟩
  have inK : K.In (hidT s.heap H) := fun b o e => by
    refine hidT_get (KX b o e) ?_
    cases q : H b with
    | none => rfl
    | some u =>
      rcases what q with ⟨rfl, k, _⟩ | ⟨m, _⟩
      · rw [k] at e; exact nomatch e
      · rw [eT] at m
        obtain ⟨t, h1, h2⟩ := List.mem_map.mp m
        rw [← h2, nT t h1] at e
        exact nomatch e
  have noT : ∀ {b : Addr} {o : Obj} {t : Addr × Addr}, t ∈ cs → s.heap.get? b = some o → o ≠ tObj → b ≠ t.2 := fun ht g n z => by
    rw [z, hT _ ht] at g
    exact n (Option.some.inj g).symm
  have tb : ∀ t ∈ cs, TabB (hidT s.heap H) mg t.1 t.2 := fun t ht => by
    obtain ⟨o, us, f1, t1, f2, t2, b1, t3, t4, g, k1, k2, k3, k4⟩ := hC t ht
    obtain ⟨m, om, m1, m2, m3, m4, m5, m6⟩ := hbm
    refine ⟨⟨o, us, f1, t1, f2, t2, b1, t3, t4, hidT_get g (off g (fun z k y => ?_) fun y => ?_), k1, k2, k3, k4⟩, ⟨m, om, m1, m2, fun z => ?_, noT ht m3 (fun z => ?_), hidT_get m3 (off m3 (fun z k y => ?_) fun y => ?_), m4, m5, m6⟩, fun z => ?_⟩
    · rw [k2] at y; exact nomatch y
    · rw [k2] at y
      have y := Data.fields.inj y
      rw [y] at k3
      exact nomatch k3
    · obtain ⟨o', es, n, g', d', _⟩ := hns
      rw [z, g'] at m3
      cases m3
      rw [d'] at m6
      exact nomatch m6
    · rw [z] at m4; exact nomatch m4
    · rw [m6] at y; exact nomatch y
    · rw [m6] at y; exact nomatch y
    · obtain ⟨o', es, n, g', d', _⟩ := hns
      rw [z, hT t ht] at g'
      cases g'
      exact nomatch d'
  have em : ∀ {α : Type} {x : α}, x ∉ ([] : List α) := fun z => nomatch z
  have e0 : Env0 P w K mg (hidT s.heap H) callerA [] s H := by
    obtain ⟨mc, l1, l2⟩ := hlim
    exact { frames := rfl, mod := ⟨inK, keepNs hns, ⟨mb, keepNs hb, hbb⟩, ⟨mc, keepNs l1, l2⟩⟩, bs := fun b o => of_hidT, bsz := Nat.le_of_eq (hidT_size _ _), funs := trivial, frf := fun b z => absurd z em, hok := hok, bare := .of_eq hg }
  have sq : SqL K H a (ns.map V.int) := by
    cases k : K.lookup a with
    | none =>
      have hH : H a = some (.frz (sObj vs) (.lst (ns.map V.int))) := by
        rw [eH]
        unfold H1
        rw [if_pos rfl, k]
        rfl
      exact .inl (.inr ⟨_, hH⟩)
    | some o =>
      have g := KX a o k
      rw [ha] at g
      cases g
      exact .inr ⟨_, vs.toArray, _, k, rfl, rfl, rfl, by rw [List.size_toArray, li]; exact hl, by simpa using ri⟩
  refine ⟨hidT s.heap H, H, inK, keepNs hns, tb, e0, fun t ht => tabH _ (mT t ht), sq, fun r s' h => ?_⟩
  cases r with
  | error e =>
    obtain ⟨_, _, _, _, _, _, _, _, _, _, _, _, z⟩ := (show L2.CX P w [] H s (fun _ _ _ => False) e s' from h)
    exact z.elim
  | ok fl =>
    cases fl with
    | next => exact (show False from h).elim
    | brk => exact (show False from h).elim
    | cont => exact (show False from h).elim
    | ret u =>
      obtain ⟨v, H', os, bare, un, hok', rv, q⟩ := (show CE [] P w H s (fun v _ => v = .bl true) u s' from h)
      subst q
      obtain rfl : u = .bool true := rv
      have stay : ∀ b o, b ∉ Ts → s.heap.get? b = some o → s'.heap.get? b = some o := fun b o nb g => by
        cases q : H b with
        | none => exact un.keep b o g q em em
        | some v =>
          rcases what q with ⟨rfl, _, rfl⟩ | ⟨m, _⟩
          · have g2 := (hok' _ _ (un.frzs _ _ _ q)).1
            rw [ha] at g
            cases g
            exact g2
          · exact absurd m nb
      have more : ∀ b ∈ Ts, ∃ z : Array Value, s'.heap.get? b = some { cls := .none, data := .fields z } := fun b m => by
        obtain ⟨z, e⟩ := un.tbls b #[] (tabH b m)
        exact ⟨_, hok' b _ e⟩
      refine ⟨rfl, ⟨fun b o g => ?_, fun b o g => ?_⟩, os, bare⟩
      · by_cases m : b ∈ Ts
        · obtain ⟨z, e⟩ := more b m
          have g2 := g.symm.trans (oT b m)
          cases g2
          rw [eT] at m
          obtain ⟨t, h1, h2⟩ := List.mem_map.mp m
          subst h2
          exact .inr (.inl ⟨((hC t h1).tab (hT t h1)).isCodeTable, rfl, #[], z, rfl, by rw [Array.empty_append]; exact e⟩)
        · exact .inl (stay b o m g)
      · by_cases m : b ∈ Ts
        · obtain ⟨z, e⟩ := more b m
          exact ⟨_, e⟩
        · exact ⟨o, stay b o m g⟩
end
end DL

namespace DL
open PySem PySem.Spec PyProof.Rows L2
open LamX (Tabs TabS TabB)
/-- what is to be shown of the law's def at the head's heap h -/
def LawC (l : PySem.W.OpenLaw) (w : World) (K : Fg) (n : Nat) (mg : Str → Option Value) (fa : Addr) (h : Heap) : Prop :=
  ∃ cs : List (Addr × Addr), (∀ t ∈ cs, h.get? t.2 = some tObj) ∧ (∀ t ∈ cs, K.lookup t.2 = none) ∧ (∀ t ∈ cs, PySem.W.CodeHd h t.1 t.2) ∧
    ∀ (base : Heap) (s : Shared) (H : Hp) (a : Addr) (ns : List Int), K.In base → base.Ns mainGlobals mg → (∀ t ∈ cs, TabB base mg t.1 t.2) → Env0 l.prog w K mg base callerA [] s H → (∀ t ∈ cs, H t.2 = some (.tbl #[])) → SqL K H a (ns.map V.int) → ns.length ≤ n →
      codeAny (model l.prog w) callerA (.call (.ref fa) ⟨[.ref a], []⟩) (CR (L2.CX l.prog w) [] l.prog w H s (fun v _ => v = .bl true) fun _ _ _ => False) s
theorem walk_at {l : PySem.W.OpenLaw} {n : Nat} {q : Program} {loose : List Str} {XP : (Str → Option Value) → Heap → Prop} {YP : World → Heap → Prop} {d : DefRec} {K : Params → Fg} (hn : l.most = some n) (hn2 : n ≤ sizeLine) (hdf : d.params.defaults = []) (hY : ∀ (w : World) (h : Heap), YP w h → (K w.params).In h)
    (F : ∀ (w : World) (mg : Str → Option Value) (fa : Addr) (h : Heap), YP w h → (K w.params).In h → h.Ns mainGlobals mg → mg d.name = some (.ref fa) → LawC l w (K w.params) n mg fa h) : PySem.W.WalkO q loose XP YP l.row.toRowW d [] (fun f vs => PySem.call f vs) := by
  refine Att.attach_callB hn hdf fun w _ s mg mb fa _ _ _ _ a vs ns G Y _ _ _ hmg ho hi hlen _ hg => ?_
  obtain ⟨cs, h1, h2, h3, h4⟩ := F w mg fa _ Y (hY w _ Y) G.T.g hmg
  obtain ⟨base, H, i1, i2, i3, e0, i4, sq, fin⟩ := law_env (P := l.prog) (w := w) (hY w _ Y) G.T.g G.T.b G.T.builtins G.T.nolimit hg h1 h2 h3 G.T.bmain ho hi (Nat.le_trans hlen hn2)
  exact codeAny_mono (h4 base s H a ns i1 i2 i3 e0 i4 sq hlen) fin
/-- the law's body at the outermost caller -/
theorem law_body {P : Program} {w : World} {K : Fg} {mg : Str → Option Value} {base : Heap} {k : Nat} {f a : Addr} {name qual : Str} {params : Arguments} {body : List Stmt} {scope : Scope} {dV kV doc pm cdv ct oc : Value} {an od : Option Addr} {osl : Array (Option Value)} {N : List Str} {x : Str} {s : Shared} {H : Hp} {Q : VK} {E : XK}
    (lk : K.lookup f = some ⟨oc, od, .func (PySem.W.fnOf name qual params body scope dV kV doc pm an cdv ct), osl⟩) (hcd : PySem.W.codeIn K cdv qual = true) (S : FnScope N [x] scope) (hr : Room (k + 1) callerA) (e0 : Env0 P w K mg base callerA [] s H)
    (hb : ∀ (s : Shared) (u : Value), BindsTo s (PySem.W.fnOf name qual params body scope dV kV doc pm an cdv ct) ⟨[u], []⟩ [(x, u)])
    (h : Room k (callerA.deeper (envOfC qual scope s.heap.objs.size f cdv)) → ∃ t, PSs (cxOf (L2.CX P w) P w K mg base N qual scope f cdv callerA [] s H E) body t ∧ t { nx := fun _ H' => Q .non H', rt := Q } (L2.start N [.ref a]) H) :
    codeAny (model P w) callerA (.call (.ref f) ⟨[.ref a], []⟩) (CR (L2.CX P w) [] P w H s Q E) s :=
  LamX.run_ofS (ps := [x]) (us := [.ref a]) (vs := [.ref a]) lk hcd S hr e0 (hb s (.ref a)) (.cons rfl .nil) rfl h
theorem caller_guards (qual : Str) (scope : Scope) (L f : Addr) (cdv : Value) : (callerA.deeper (envOfC qual scope L f cdv)).guards = some [] := rfl
end DL

namespace DL
open PySem PySem.Spec PyProof.Rows L2
/-! ### lists of lists, made and stored into -/
/-- at each place a list of its own -/
inductive Inn (K : Fg) (av : Av) (H : Hp) : List Addr → List (List D) → Prop
  | nil : Inn K av H [] []
  | cons {q : Addr} {qs : List Addr} {xs : List V} {ds : List D} {rows : List (List D)} : H q = some (.lst xs) → Rps K av H xs ds → Inn K av H qs rows → Inn K av H (q :: qs) (ds :: rows)
theorem Inn.len {K : Fg} {av : Av} {H : Hp} : ∀ {qs : List Addr} {rows : List (List D)}, Inn K av H qs rows → qs.length = rows.length
  | _, _, .nil => rfl
  | _, _, .cons _ _ h => congrArg (· + 1) h.len
theorem Inn.ext {K : Fg} {is av av' : Av} {H H' : Hp} (e : Ext is H H') (hi : ∀ a, is a → av a) (ha : ∀ a, H a ≠ none → av' a → av a) : ∀ {qs : List Addr} {rows : List (List D)}, Inn K av H qs rows → (∀ q ∈ qs, ¬ is q) → Inn K av' H' qs rows
  | _, _, .nil, _ => .nil
  | _, _, .cons h r hs, n => .cons (e _ _ (n _ List.mem_cons_self) h) (r.ext e hi ha) (hs.ext e hi ha fun q m => n q (List.mem_cons_of_mem _ m))
theorem Inn.snoc {K : Fg} {av : Av} {H : Hp} {q : Addr} {xs : List V} {ds : List D} (h : H q = some (.lst xs)) (r : Rps K av H xs ds) : ∀ {qs : List Addr} {rows : List (List D)}, Inn K av H qs rows → Inn K av H (qs ++ [q]) (rows ++ [ds])
  | _, _, .nil => .cons h r .nil
  | _, _, .cons h1 r1 hs => .cons h1 r1 (hs.snoc h r)
theorem Inn.some {K : Fg} {av : Av} {H : Hp} : ∀ {qs : List Addr} {rows : List (List D)}, Inn K av H qs rows → ∀ q ∈ qs, ∃ xs ds, H q = some (.lst xs) ∧ ds ∈ rows ∧ Rps K av H xs ds
  | _, _, .cons h1 r1 hs, q, m => by
    rcases List.mem_cons.mp m with rfl | m
    · exact ⟨_, _, h1, List.mem_cons_self, r1⟩
    · obtain ⟨xs, ds, e1, e2, e3⟩ := hs.some q m
      exact ⟨xs, ds, e1, List.mem_cons_of_mem _ e2, e3⟩
abbrev W2 := Gm → (Value → Prop) → (List (List D) → Prop) → Prop
def SF2 (K : Fg) (W : Ctl) (c : Nat) (te : TE) (w : W2) : Prop := ∀ (P : Pn) (av : Av) (H0 : Hp) (ed : Value → Prop), HW W P H0 ed → ∀ (n : Nat) (H : Hp) (σ : Sg) (G : Gm) (Qd : List (List D) → Prop), LocOk P K av H0 (n + c) H σ G → w G ed Qd → ∀ Q : VK,
  (∀ p qs H' rows, Qd rows → LocOk P K av H0 n H' σ G → Ext P.is H H' → H p = none → H' p = some (.lst (qs.map V.ref)) → (∀ q ∈ qs, H q = none ∧ q ≠ p) → qs.Nodup → Inn K (avp (avo av σ G) p) H' qs rows → Q (.ref p) H') → te σ H Q
def compW2 (wg : WG) (we : WL) (G : Gm) : List D → List (List D) → (List (List D) → Prop) → Prop
  | [], acc, Q => Q acc
  | d :: r, acc, Q => wg d G fun G1 => we G1 (fun _ => False) fun y => compW2 wg we G r (acc ++ [y]) Q
def wLc2 (cb : Nat) (vs : List Nat) (wi : WL) (wg : WG) (we : WL) : W2 := fun G ed Q => wi G ed fun ds => ds.length < sizeLine ∧ (cb = 0 ∨ ds.length ≤ 256) ∧ compW2 wg we (inG G vs) ds [] Q
section
variable {ι : Type} {X : ι → Cx} {K : Fg} {W : Ctl} {c c1 c2 c3 ci ct ce : Nat} {e a b t tg it elt : Expr} {wl wi we : WL} {wg : WG} {pos p : Pos}
theorem sf_lc2 {is vs : List Nat} {wi' : TI} {g : TG} {te : TE}
    (si : ∀ (P : Pn) (av : Av) (H0 : Hp) (ed : Value → Prop), HW W P H0 ed → ∀ (n : Nat) (H : Hp) (σ : Sg) (G : Gm) (Qd : List D → Prop), LocOk P K av H0 (n + ci) H σ G → wi G ed Qd → ∀ R : It → Hp → Prop, (∀ J H' ds, Qd ds → LocOk P K av H0 n H' σ G → Ext P.is H H' → Walks P K (avo av σ G) H' J ds → R J H') → wi' σ H R)
    (sg : ∀ (P : Pn) (av : Av) (H0 : Hp) (n : Nat) (H : Hp) (σ : Sg) (G : Gm) (v : V) (d : D) (Qd : Gm → Prop), LocOk P K av H0 n H σ G → Rp K (avo av σ G) H v d → wg d G Qd → ∀ Q : L2.St → Hp → Prop, (∀ σ' G', Qd G' → LocOk P K av H0 n H σ' G' → (∀ a, Own σ' G' a → Own σ G a) → (∀ vs, (∀ i ∈ is, i ∈ vs) → wipe σ' vs = wipe σ vs) → Q σ' H) → g v σ H Q)
    (se : SF K W.no ce te we) (hv : ∀ i ∈ is, i ∈ vs) : SF2 K W (ci + 256 * ce) (tLc wi' g tYes te vs) (wLc2 ce vs wi wg we) := by
  intro P av H0 ed hw n H σ G Qd L h Q q
  refine si P av H0 ed hw (n + 256 * ce) H σ G _ (L.le (by omega)) h _ fun J H1 ds hd L1 e1 Wk => ?_
  obtain ⟨hz, hc, hd⟩ := hd
  intro D hD
  obtain ⟨GG, Y, wk, hG, hy⟩ := Wk.ex
  have avD : ¬ avo av σ G D := fun z => L1.avoNe z hD
  have isD : ¬ P.is D := fun z => avD (L1.isAvo z)
  have small : ∀ i, i ≤ ds.length → (ds.length - i) * ce ≤ 256 * ce := fun i _ => by
    rcases hc with hc | hc
    · rw [hc]; simp
    · exact Nat.mul_le_mul_right _ (by omega)
  have isN : ∀ a, H1 a = none → ¬ P.is a := fun a hn z => L1.avoNe (L1.isAvo z) hn
  refine lc_it wk (fun i H' => ∃ qs rows, i ≤ ds.length ∧ Ext P.is H1 H' ∧ Ext (avo av σ G) H1 H' ∧ P.ok (n + (ds.length - i) * ce) H' ∧ H' D = some (.lst (qs.map V.ref)) ∧ rows.length ≤ i ∧ (∀ q ∈ qs, H1 q = none ∧ q ≠ D) ∧ qs.Nodup ∧ Inn K (avp (avo av σ G) D) H' qs rows ∧ compW2 wg we (inG G vs) (ds.drop i) rows Qd)
    ⟨[], [], Nat.zero_le _, .new hD, .new hD, P.mono (L1.new hD).ok (by have := small 0 (Nat.zero_le _); omega), upd_same, Nat.le_refl _, (fun _ z => nomatch z), .nil, .nil, hd⟩ (fun i H' _ ⟨_, _, _, _, ea, _⟩ => hG H' ea) ?_ ?_
  · rintro i x H' H2 hi ⟨qs, rows, hle, e', ea, k', hx, hl, hq, hnd, hr, hcw⟩ y
    have Li := L1.inner vs e' k' hD (by rw [hx]; exact fun z => nomatch z)
    have no : ∀ a, ¬ Own (wipe σ vs) (inG G vs) a := fun a ⟨j, ds, h1, _⟩ => inG_no h1
    obtain ⟨d, hd, ex, rx⟩ := hy i x H' H2 (avo (avp (avo av σ G) D) (wipe σ vs) (inG G vs)) hi (fun a ka z => by
      rcases z with (z | z) | z
      · exact z
      · exact absurd (z ▸ hD) ka
      · exact absurd z (no a)) (fun a z => Li.avoNe z) ea y
    have hdrop : ds.drop i = d :: ds.drop (i + 1) := by
      rw [List.drop_eq_getElem_cons hi]
      rw [List.getElem?_eq_getElem hi] at hd
      rw [Option.some.inj hd]
    rw [hdrop] at hcw
    have L2 := Li.growEx ex
    have e2 : Ext P.is H1 H2 := e'.trans (Ex.ext ex)
    have ea2 : Ext (avo av σ G) H1 H2 := ea.trans (Ex.ext ex)
    have hx2 : H2 D = some (.lst (qs.map V.ref)) := ex D _ hx
    have cnt : n + (ds.length - i) * ce = n + (ds.length - (i + 1)) * ce + ce := by
      have : ds.length - i = ds.length - (i + 1) + 1 := by omega
      rw [this, Nat.add_mul]
      omega
    refine sg P _ _ _ H2 _ _ x d _ L2 rx hcw _ fun σ' G' hG' L' o' k' => ⟨(k' vs hv).trans (wipe_wipe vs vs σ fun _ z => z), ?_⟩
    refine se P _ _ _ hw.no (n + (ds.length - (i + 1)) * ce) H2 σ' G' _ (L'.le (by omega)) hG' _ fun p xs H4 row hrow L4 e4 hp hp4 r4 => ?_
    have hx4 : H4 D = some (.lst (qs.map V.ref)) := e4 D _ isD hx2
    have hp1 : H1 p = none := by
      cases z : H1 p with
      | none => rfl
      | some o =>
        have := e2 p o (fun y => L'.avNe (L'.pav _ y) hp) z
        rw [hp] at this
        exact nomatch this
    have pD : p ≠ D := fun z => by rw [z, hx2] at hp; exact nomatch hp
    refine ⟨qs.map V.ref, hx4, by rw [List.length_map, hr.len]; omega, qs ++ [p], rows ++ [row], by omega, ?_, ?_, ?_, by rw [upd_same, List.map_append]; rfl, by rw [List.length_append]; simp; omega, ?_, ?_, ?_, hrow⟩
    · intro a o na hh
      rw [upd_ne (ne_of_none hh hD)]
      exact e4 a o na (e2 a o na hh)
    · intro a o na hh
      rw [upd_ne (ne_of_none hh hD)]
      exact e4 a o (fun z => na (L1.isAvo z)) (ea2 a o na hh)
    · exact P.stab L4.ok (fun a ia => upd_ne (fun z : a = D => isD (by rw [← z]; exact ia))) (.lst hx4)
    · intro q m
      rcases List.mem_append.mp m with m | m
      · exact hq q m
      · rw [List.mem_singleton.mp m]
        exact ⟨hp1, pD⟩
    · refine List.nodup_append.mpr ⟨hnd, by simp, fun a ma b mb z => ?_⟩
      subst z
      rw [List.mem_singleton.mp mb] at ma
      obtain ⟨xs', _, h', _⟩ := hr.some p ma
      rw [ex p _ h'] at hp
      exact nomatch hp
    · have stay : Ext (fun a => a = D) H4 (upd H4 D (.lst (qs.map V.ref ++ [V.ref p]))) := fun a o na hh => by rw [upd_ne na]; exact hh
      have s1 := (hr.ext (is := P.is) (Ex.ext ex) (fun _ z => .inl (L1.isAvo z)) (fun _ _ z => z) fun q m => isN q (hq q m).1).ext e4 (fun _ z => .inl (L1.isAvo z)) (fun _ _ z => z) fun q m => isN q (hq q m).1
      have s2 := s1.ext stay (av' := avp (avo av σ G) D) (fun _ z => .inr z) (fun _ _ z => z) fun q m => (hq q m).2
      refine s2.snoc (by rw [upd_ne pD]; exact hp4) ?_
      exact (r4.ext (is := fun _ => False) (.refl _ _) (fun _ z => z.elim) fun _ _ z => .inl (.inl z) : Rps K (avp (avo av σ G) D) H4 xs row).ext stay (fun _ z => .inr z) fun _ _ z => z
  · rintro H' ⟨qs, rows, hle, e', ea, k', hx, hl, hq, hnd, hr, hcw⟩
    rw [List.drop_length] at hcw
    have L' : LocOk P K av H0 n H' σ G := L1.grow e' (P.mono k' (by omega))
    exact q D qs H' rows hcw L' (e1.trans e') (e1.none isD hD) hx (fun q m => ⟨e1.none (isN q (hq q m).1) (hq q m).1, (hq q m).2⟩) hnd hr
theorem setLc2_core {scope : Scope} {is : List Nat} {own : List (Str × Nat)} {i : Nat} {y : Str} {py spos : Pos} (hc : ∀ i, (X i).calm = true) (hN : ∀ i, (X i).N.Nodup) (hi : DI X K W ci tg it wi) (hg : DG (blkF X scope) K is tg wg) (he : DF (blkF X scope) K W.no ce elt we) (ok : ∀ i, BlkOk (X i).N (X i).env.scope scope own)
    (hv : ∀ i ∈ is, i ∈ own.map (·.2) := by decide) (hy : ∀ j, (X j).N[i]? = some y := by intro _; rfl) (hyl : ∀ j, (X j).env.scope.names.lookup y = some .local := by intro _; rfl) (hsw : ∀ j, swapsWith (.ListComp elt [⟨tg, it, [], 0⟩] scope pos) (some (.Name y py)) spos.line (X j).env = pure true := by intro _; exact sw_true rfl rfl rfl (by decide +kernel)) (hs : ∀ i x, foldedSetIterable it (X i).env x = pure x := by intro _ _; rfl) :
    ∃ te, (∀ j, PS (X j) (.Assign [.Name y py] (.ListComp elt [⟨tg, it, [], 0⟩] scope pos) spos) (tAsg te (gName i))) ∧ SF2 K W (ci + 256 * ce) te (wLc2 ce (own.map (·.2)) wi wg we) := by
  obtain ⟨wi', pi, si⟩ := hi
  obtain ⟨g, pg, sg⟩ := hg
  obtain ⟨te, pe, se⟩ := he
  refine ⟨_, fun j => ps_setLc (tt := tYes) (hc j) (hN j) (hy j) (hyl j) (hsw j) (pi j) (ok j) (fun s H C cl fp => pg (j, s, H, C, cl, fp)) (fun _ _ _ _ _ => pts_nil) (fun s H C cl fp => pe (j, s, H, C, cl, fp)) (hs j), ?_⟩
  exact sf_lc2 si sg se hv
end
end DL

namespace DL
open PySem PySem.Spec PyProof.Rows L2
/-! ### a pen with lists of lists, into which the def stores: entries None or below n -/
def RG (n : Nat) (d : D) : Prop := d = .non ∨ ∃ k : Nat, k < n ∧ d = .int (k : Nat)
def RV (n : Nat) (v : V) : Prop := v = .non ∨ ∃ k : Nat, k < n ∧ v = .int (k : Nat)
theorem rg_rv {K : Fg} {av : Av} {H : Hp} {n : Nat} {v : V} {d : D} (h : RG n d) (r : Rp K av H v d) : RV n v := by
  rcases h with rfl | ⟨k, hk, rfl⟩
  · cases r; exact .inl rfl
  · cases r; exact .inr ⟨k, hk, rfl⟩
theorem rv_rg {n : Nat} {v : V} (h : RV n v) : ∃ d, RG n d ∧ ∀ (K : Fg) (av : Av) (H : Hp), Rp K av H v d := by
  rcases h with rfl | ⟨k, hk, rfl⟩
  · exact ⟨.non, .inl rfl, fun _ _ _ => .non⟩
  · exact ⟨.int (k : Nat), .inr ⟨k, hk, rfl⟩, fun _ _ _ => .int _⟩
def ShpN (N wd : Nat) (H : Hp) (o : Addr) (qs : List Addr) : Prop := H o = some (.lst (qs.map V.ref)) ∧ ∀ q ∈ qs, ∃ ys, H q = some (.lst ys) ∧ ys.length = wd ∧ ∀ y ∈ ys, RV N y
structure Apart (P0 : Pn) (o : Addr) (qs : List Addr) : Prop where
  no : o ∉ qs
  nd : qs.Nodup
  is : ∀ a, P0.is a → a ≠ o ∧ a ∉ qs
def penN (P0 : Pn) (N wd : Nat) (o : Addr) (qs : List Addr) : Pn where
  is := fun a => P0.is a ∨ a = o ∨ a ∈ qs
  ok := fun n H => P0.ok n H ∧ ShpN N wd H o qs ∧ Apart P0 o qs
  mono := fun h m => ⟨P0.mono h.1 m, h.2⟩
  stab := fun {n H H'} h e k => ⟨P0.stab h.1 (fun a i => e a (.inl i)) k, ⟨by rw [e o (.inr (.inl rfl))]; exact h.2.1.1, fun q m => by
    obtain ⟨ys, h1, h2⟩ := h.2.1.2 q m
    exact ⟨ys, by rw [e q (.inr (.inr m))]; exact h1, h2⟩⟩, h.2.2⟩
  al := fun {n H a} h i => by
    rcases i with i | rfl | i
    · exact P0.al h.1 i
    · rw [h.2.1.1]; exact fun z => nomatch z
    · obtain ⟨ys, h1, _⟩ := h.2.1.2 a i
      rw [h1]; exact fun z => nomatch z
theorem hasPenN {p c : Addr} {P0 : Pn} {N wd : Nat} {o : Addr} {qs : List Addr} (h : HasPen p P0 c) : HasPen p (penN P0 N wd o qs) c where
  isp := .inl h.isp
  isc := .inl h.isc
  get := fun n H k => h.get n H k.1
  back := fun n m H H' k e pk => by
    have far : ∀ a, ¬ P0.is a → ¬ (a = p ∨ a = c) := fun a na z => na (z.elim (fun z => z ▸ h.isp) fun z => z ▸ h.isc)
    refine ⟨h.back n m H H' k.1 e pk, ⟨e _ _ (far o fun z => (k.2.2.is o z).1 rfl) k.2.1.1, fun q mq => ?_⟩, k.2.2⟩
    obtain ⟨ys, h1, h2⟩ := k.2.1.2 q mq
    exact ⟨ys, e _ _ (far q fun z => (k.2.2.is q z).2 mq) h1, h2⟩
section
variable {ι : Type} {X : ι → Cx} {K : Fg} {W : Ctl} {c cv c1 c2 c3 : Nat} {e ev e1 e2 : Expr} {wv w1 w2 : WE} {pos p0 p1 p2 : Pos} {x : Str} {st1 st2 : Stmt} {sts : List Stmt}
/-- x[e1][e2] = ev, the store into such lists -/
def wNset (i : Nat) (o : Addr) (nq N wd : Nat) (wv w1 w2 : WE) : WS := fun G De => G[i]? = some (.dat (.obj (.ref o))) ∧ wv G De.ex fun d => RG N d ∧ w1 G De.ex fun d1 => onI d1 fun k => 0 ≤ k ∧ k < nq ∧ w2 G De.ex fun d2 => onI d2 fun j => 0 ≤ j ∧ j < wd ∧ De.nx G
theorem ds_nset {i nq N wd : Nat} {o : Addr} (hK : ∀ j, (X j).K = K) (hp : ∀ Q, W.pc Q → ∃ P0 qs, Q = penN P0 N wd o qs ∧ qs.length = nq) (hx : ∀ j, PE (X j) (.Name x p0) (tVar i)) (hv : DE X K W cv ev wv) (h1 : DE X K W c1 e1 w1) (h2 : DE X K W c2 e2 w2)
    (hs : ∀ j, swapsWithSole [.Subscript (.Subscript (.Name x p0) e1 p1) e2 p2] ev pos.line (X j).env = pure false := by intro _; rfl) (hw : ∀ j, swappedStores [.Subscript (.Subscript (.Name x p0) e1 p1) e2 p2] ev (X j).env = pure none := by intro _; rfl) (ha : ∀ j, (assignEach [.Subscript (.Subscript (.Name x p0) e1 p1) e2 p2] (X j).env).map (·.2) = [assign (.Subscript (.Subscript (.Name x p0) e1 p1) e2 p2) (X j).env] := by intro _; rfl)
    (hi : PlainIx e1 := by exact fun _ _ => rfl)
    (hb : ∀ j v, assign (.Subscript (.Subscript (.Name x p0) e1 p1) e2 p2) (X j).env v = (do
      let a ← holding [v] (eval (.Subscript (.Name x p0) e1 p1) (X j).env)
      let b ← holding [v, a] (eval e2 (X j).env)
      standAt p2
      holding [v, a, b] (setItem a b v)
      release [v, a, b] []) := by intro _ _; rfl) : DS X K W (cv + (c1 + c2)) (.Assign [.Subscript (.Subscript (.Name x p0) e1 p1) e2 p2] ev pos) (wNset i o nq N wd wv w1 w2) := by
  obtain ⟨tv, pv', sv⟩ := hv
  obtain ⟨t1, q1, s1⟩ := h1
  obtain ⟨t2, q2, s2⟩ := h2
  refine ⟨_, fun j => ps_asg (pv' j) (pg_sub (by have z := pe_ix (pos := p1) ix_list (hx j) (q1 j) hi; rw [hK j] at z; exact z) (q2 j) set_list (hb j)) (hs j) (hw j) (ha j), fun P av H0 De hw n H σ G L h D dd => ?_⟩
  obtain ⟨P0, qs, rfl, hq⟩ := hp P hw.1
  obtain ⟨hG, h⟩ := h
  refine sv _ av H0 _ hw (n + (c1 + c2)) H σ G _ (L.le (by omega)) h _ fun v Ha d hd La ea ra => ?_
  obtain ⟨hR, hd⟩ := hd
  obtain ⟨so, e1', v', e2', r'⟩ := L.sl i _ hG
  subst e2'
  cases r'
  refine ⟨.ref o, e1', ?_⟩
  refine s1 _ av H0 _ hw (n + c2) Ha σ G _ (La.le (by omega)) hd _ fun v1 Hb d1 hd1 Lb eb rb => ?_
  obtain ⟨k, rfl, k0, k1, hd1'⟩ := onI_of hd1
  cases rb
  obtain ⟨m, rfl⟩ := Int.eq_ofNat_of_zero_le k0
  have hm : m < qs.length := by omega
  refine ⟨o, qs.map V.ref, _, .ref qs[m], rfl, rfl, (.inl (.inl Lb.ok.2.1.1)), atI_nat (by rw [List.getElem?_map, List.getElem?_eq_getElem hm]; rfl), ?_⟩
  refine s2 _ av H0 _ hw n Hb σ G _ (Lb.le (Nat.le_refl _)) hd1' _ fun v2 Hc d2 hd2 Lc ec rc => ?_
  obtain ⟨j, rfl, j0, j1, hd2'⟩ := onI_of hd2
  cases rc
  obtain ⟨b, rfl⟩ := Int.eq_ofNat_of_zero_le j0
  have mq : qs[m] ∈ qs := List.getElem_mem hm
  obtain ⟨ys, y1, y2, y3⟩ := Lc.ok.2.1.2 _ mq
  have ap := Lc.ok.2.2
  refine ⟨qs[m], ys, _, b, rfl, rfl, y1, ?_, ?_⟩
  · unfold ixN
    rw [y2, if_pos (by omega), if_pos (by omega)]
    rfl
  have ne : ∀ a, P0.is a → a ≠ qs[m] := fun a z y => (ap.is a z).2 (y ▸ mq)
  have on : o ≠ qs[m] := fun z => ap.no (z ▸ mq)
  refine dd.nx σ _ G hd2' (Lc.grow (fun a u na hh => by rw [upd_ne (fun z : a = qs[m] => na (.inr (.inr (z ▸ mq))))]; exact hh) ⟨P0.stab Lc.ok.1 (fun a ia => upd_ne (ne a ia)) (.lst y1), ⟨by rw [upd_ne on]; exact Lc.ok.2.1.1, fun q hq' => ?_⟩, ap⟩) ?_
  · by_cases z : q = qs[m]
    · rw [z]
      refine ⟨_, upd_same, by rw [List.length_set]; exact y2, fun y hy => ?_⟩
      rcases List.mem_or_eq_of_mem_set hy with hy | rfl
      · exact y3 y hy
      · exact rg_rv hR ra
    · obtain ⟨zs, z1, z2⟩ := Lc.ok.2.1.2 q hq'
      exact ⟨zs, by rw [upd_ne z]; exact z1, z2⟩
  · refine .of ?_ fun _ z => z
    intro a u na hh
    rw [upd_ne (fun z : a = qs[m] => na (.inr (.inr (z ▸ mq))))]
    exact ec a u na (eb a u na (ea a u na hh))
end
end DL

namespace DL
open PySem PySem.Spec PyProof.Rows L2
theorem pss_exD {α : Type} {X : Cx} {sts : List Stmt} {ts : α → TS} (h : ∀ a, PSs X sts (ts a)) : PSs X sts (fun D σ H => ∃ a, ts a D σ H) := ⟨fun pins s σ H D I ⟨a, z⟩ => (h a).run pins s σ H D I z⟩
def noOwn (G : Gm) : Bool := G.all fun s => match s with | .own _ => false | _ => true
theorem noOwn_of {G : Gm} (h : noOwn G = true) {i : Nat} {ds : D} : G[i]? ≠ some (.own ds) := fun z => by
  have := List.all_eq_true.mp h _ (List.mem_of_getElem? z)
  exact nomatch this
def Good (N wd : Nat) (rows : List (List D)) : Prop := ∀ row ∈ rows, row.length = wd ∧ ∀ d ∈ row, RG N d
theorem rps_rg {K : Fg} {av : Av} {H : Hp} {N : Nat} : ∀ {vs : List V} {ds : List D}, Rps K av H vs ds → (∀ d ∈ ds, RG N d) → ∀ v ∈ vs, RV N v
  | _, _, .nil, _, _, m => nomatch m
  | _, _, .cons r rs, h, v, m => by
    rcases List.mem_cons.mp m with rfl | m
    · exact rg_rv (h _ List.mem_cons_self) r
    · exact rps_rg rs (fun d hd => h d (List.mem_cons_of_mem _ hd)) v m
theorem rvs_rps {N : Nat} : ∀ {vs : List V}, (∀ v ∈ vs, RV N v) → ∃ ds : List D, ds.length = vs.length ∧ (∀ d ∈ ds, RG N d) ∧ ∀ (K : Fg) (av : Av) (H : Hp), Rps K av H vs ds
  | [], _ => ⟨[], rfl, (fun _ z => nomatch z), fun _ _ _ => .nil⟩
  | v :: vs, h => by
    obtain ⟨d, h1, h2⟩ := rv_rg (h v List.mem_cons_self)
    obtain ⟨ds, k1, k2, k3⟩ := rvs_rps (vs := vs) fun v m => h v (List.mem_cons_of_mem _ m)
    refine ⟨d :: ds, congrArg (· + 1) k1, fun d' m => ?_, fun K av H => .cons (h2 K av H) (k3 K av H)⟩
    rcases List.mem_cons.mp m with rfl | m
    · exact h1
    · exact k2 d' m
theorem shp_of {K : Fg} {av : Av} {H : Hp} {N wd : Nat} {o : Addr} {qs : List Addr} {rows : List (List D)} (ho : H o = some (.lst (qs.map V.ref))) (inn : Inn K av H qs rows) (g : Good N wd rows) : ShpN N wd H o qs := ⟨ho, fun q m => by
  obtain ⟨xs, ds, h1, h2, h3⟩ := inn.some q m
  obtain ⟨g1, g2⟩ := g ds h2
  exact ⟨xs, h1, by rw [h3.len]; exact g1, rps_rg h3 g2⟩⟩
/-- the lists read again as data -/
theorem shp_rows {H : Hp} {N wd : Nat} : ∀ {qs : List Addr}, (∀ q ∈ qs, ∃ ys, H q = some (.lst ys) ∧ ys.length = wd ∧ ∀ y ∈ ys, RV N y) → ∃ rows : List (List D), rows.length = qs.length ∧ Good N wd rows ∧ ∀ (K : Fg) (av : Av), (∀ q ∈ qs, ¬ av q) → Rps K av H (qs.map V.ref) (rows.map D.lst)
  | [], _ => ⟨[], rfl, (fun _ z => nomatch z), fun _ _ _ => .nil⟩
  | q :: qs, h => by
    obtain ⟨ys, y1, y2, y3⟩ := h q List.mem_cons_self
    obtain ⟨ds, k1, k2, k3⟩ := rvs_rps y3
    obtain ⟨rows, r1, r2, r3⟩ := shp_rows (qs := qs) fun q m => h q (List.mem_cons_of_mem _ m)
    refine ⟨ds :: rows, congrArg (· + 1) r1, fun row m => ?_, fun K av n => .cons (.lst ⟨y1, n q List.mem_cons_self⟩ (k3 K av H)) (r3 K av fun q m => n q (List.mem_cons_of_mem _ m))⟩
    rcases List.mem_cons.mp m with rfl | m
    · exact ⟨k1.trans y2, k2⟩
    · exact r2 row m
section
variable {ι : Type} {X : ι → Cx} {K : Fg} {W : Ctl} {c c1 c2 c3 : Nat} {st1 st2 : Stmt} {sts : List Stmt} {w1 : W2} {w3 : WS}
def nestEnds (i : Nat) (o : Addr) (N wd nq : Nat) (w3 : WS) (De : DEnds) : DEnds := { nx := fun G2 => G2[i]? = some (.dat (.obj (.ref o))) ∧ ∀ rows' : List (List D), rows'.length = nq → Good N wd rows' → w3 (G2.set i (.dat (.lst (rows'.map D.lst)))) De, rt := fun _ => False, bk := fun _ => False, ct := fun _ => False, ex := De.ex, rf := fun _ => False }
def wNest (i : Nat) (w1 : W2) (w2 : Addr × Nat × Nat × Nat → WS) (w3 : WS) : WS := fun G De => noOwn G = true ∧ i < G.length ∧ w1 G De.ex fun rows => ∃ N wd, Good N wd rows ∧
  ∀ o, w2 (o, rows.length, N, wd) (G.set i (.dat (.obj (.ref o)))) (nestEnds i o N wd rows.length w3 De)
abbrev pcN (W : Ctl) (z : Addr × Nat × Nat × Nat) : Ctl := ⟨W.w, fun Q => ∃ P0 qs, W.pc P0 ∧ Q = penN P0 z.2.2.1 z.2.2.2 z.1 qs ∧ qs.length = z.2.1⟩
theorem dss_nest {i : Nat} {w2 : Addr × Nat × Nat × Nat → WS} (core : ∃ te, (∀ j, PS (X j) st1 (tAsg te (gName i))) ∧ SF2 K W c1 te w1) (loop : ∀ z : Addr × Nat × Nat × Nat, DS X K (pcN W z) c2 st2 (w2 z)) (rest : DSs X K W c3 sts w3) : DSs X K W (c1 + (c2 + c3)) (st1 :: st2 :: sts) (wNest i w1 w2 w3) := by
  obtain ⟨te, hps, s1⟩ := core
  obtain ⟨tr, pr, sr⟩ := rest
  refine ⟨_, fun j => pss_cons (hps j) (pss_exD fun z => pss_cons ((loop z).choose_spec.1 j) (pr j)), fun P av H0 De hw n H σ G L h Dn dd => ?_⟩
  obtain ⟨hno, hi, h⟩ := h
  have no : ∀ a, ¬ Own σ G a := fun a ⟨j, ds, k, _⟩ => noOwn_of hno k
  refine s1 P av H0 De.ex hw (n + (c2 + c3)) H σ G _ (L.le (by omega)) h _ fun p qs H1 rows hrows L1 e1 hp hp1 hq hnd inn => ?_
  obtain ⟨N, wd, good, hrows⟩ := hrows
  have isH : ∀ a, H a = none → ¬ P.is a := fun a hn z => L.avNe (L.pav a z) hn
  have newH : ∀ a, a = p ∨ a ∈ qs → H a = none := fun a z => z.elim (fun z => z ▸ hp) fun z => (hq a z).1
  have back : ∀ {H2 : Hp}, Ext (penN P N wd p qs).is H1 H2 → Ext P.is H H2 := fun e2 a u na hh => e2 a u (fun z => by
    rcases z with z | z
    · exact na z
    · rw [newH a z] at hh; exact nomatch hh) (e1 a u na hh)
  have ok1 : (penN P N wd p qs).ok (n + (c2 + c3)) H1 := ⟨L1.ok, shp_of hp1 inn good, ⟨fun m => (hq p m).2 rfl, hnd, fun a ia => ⟨fun z => isH p hp (z ▸ ia), fun m => isH a (hq a m).1 ia⟩⟩⟩
  have hG : ∀ {j : Nat} {s : Slot}, (G.set i (.dat (.obj (.ref p))))[j]? = some s → (j = i ∧ s = .dat (.obj (.ref p))) ∨ G[j]? = some s ∧ j ≠ i := fun {j s} z => by
    by_cases y : i = j
    · subst y
      exact .inl ⟨rfl, getElem?_set_self' z⟩
    · rw [List.getElem?_set_ne y] at z
      exact .inr ⟨z, Ne.symm y⟩
  have no1 : ∀ a, ¬ Own (σ.set i (some (.ref p))) (G.set i (.dat (.obj (.ref p)))) a := fun a ⟨j, ds, k, _⟩ => by
    rcases hG k with ⟨_, z⟩ | ⟨z, _⟩
    · exact nomatch z
    · exact noOwn_of hno z
  have L1' : LocOk (penN P N wd p qs) K (fun a => av a ∨ a = p ∨ a ∈ qs) H1 (n + (c2 + c3)) H1 (σ.set i (some (.ref p))) (G.set i (.dat (.obj (.ref p)))) := by
    refine ⟨by rw [List.length_set, List.length_set]; exact L.len, fun j s hs => ?_, fun j k d1 d2 a z _ y _ => absurd ⟨j, d1, z, y⟩ (no1 a), .refl _ _, fun a z => absurd z (no1 a), ok1, fun a z => z.elim (fun z => .inl (L.pav a z)) .inr, fun a z => ?_⟩
    · rcases hG hs with ⟨rfl, rfl⟩ | ⟨z, ne⟩
      · exact ⟨some (.ref p), by rw [List.getElem?_set_self (by rw [← L.len]; exact hi)], .ref p, rfl, .obj _⟩
      · obtain ⟨ov, o1, o2⟩ := L.sl j s z
        refine ⟨ov, by rw [List.getElem?_set_ne (Ne.symm ne)]; exact o1, ?_⟩
        cases s with
        | un => trivial
        | own ds => exact absurd z (noOwn_of hno)
        | dat d =>
          obtain ⟨v, v1, v2⟩ := o2
          refine ⟨v, v1, v2.ext e1 (fun _ => L.isAvo) fun a ha y => ?_⟩
          rcases y with (y | y) | y
          · exact .inl y
          · exact absurd (newH a y) ha
          · exact absurd y (no1 a)
    · rcases z with z | rfl | z
      · exact L1.avNe z
      · rw [hp1]; exact fun z => nomatch z
      · obtain ⟨ys, y1, _⟩ := ok1.2.1.2 a z
        rw [y1]; exact fun z => nomatch z
  refine ⟨(p, rows.length, N, wd), ?_⟩
  refine (loop (p, rows.length, N, wd)).choose_spec.2 (penN P N wd p qs) _ H1 (nestEnds i p N wd rows.length w3 De) ⟨⟨P, qs, hw.1, rfl, inn.len⟩, fun cls σ' H' hc ex => hw.2 cls σ' H' hc (L.ext.trans (back ex))⟩ (n + c3) H1 _ _ (L1'.le (by omega)) (hrows p) _ ⟨fun σ2 H2 G2 hG2 L2 r2 => ?_, fun _ _ _ z => z.elim, fun _ _ _ z => z.elim, fun _ _ _ z => z.elim, fun _ _ _ _ z => z.elim⟩
  obtain ⟨g2, hr⟩ := hG2
  obtain ⟨rows', l1, l2, l3⟩ := shp_rows L2.ok.2.1.2
  have e2 : Ext (penN P N wd p qs).is H1 H2 := fun a u na hh => r2.ext a u (fun z => z.elim na fun z => no1 a z) hh
  have eH : Ext P.is H H2 := back e2
  have ownNew : ∀ a, Own σ2 G2 a → H1 a = none ∧ ¬ (penN P N wd p qs).is a := fun a z => by
    rcases r2.own a z with y | y
    · exact absurd y (no1 a)
    · exact y
  have own3 : ∀ a, Own σ2 (G2.set i (.dat (.lst (rows'.map DL.D.lst)))) a → Own σ2 G2 a := fun a ⟨j, ds, z1, z2⟩ => by
    by_cases y : i = j
    · subst y
      exact absurd (getElem?_set_self' z1) (fun z => nomatch z)
    · rw [List.getElem?_set_ne y] at z1
      exact ⟨j, ds, z1, z2⟩
  have notAv : ∀ a, (a = p ∨ a ∈ qs) → ¬ avo av σ2 (G2.set i (.dat (.lst (rows'.map DL.D.lst)))) a := fun a z y => by
    rcases y with y | y
    · exact L.avNe y (newH a z)
    · exact (ownNew a (own3 a y)).2 (.inr z)
  have L3 : LocOk P K av H0 (n + c3) H2 σ2 (G2.set i (.dat (.lst (rows'.map DL.D.lst)))) := by
    refine ⟨by rw [List.length_set]; exact L2.len, fun j s hs => ?_, fun j k d1 d2 a z1 z2 z3 z4 => ?_, L.ext.trans eH, fun a z => ?_, L2.ok.1, L.pav, L.al⟩
    · by_cases y : i = j
      · subst y
        obtain rfl := getElem?_set_self' hs
        obtain ⟨ov, o1, v, rfl, o2⟩ := L2.sl i _ g2
        cases o2
        exact ⟨_, o1, .ref p, rfl, .lst ⟨L2.ok.2.1.1, notAv p (.inl rfl)⟩ (l3 K _ fun q m => notAv q (.inr m))⟩
      · rw [List.getElem?_set_ne y] at hs
        obtain ⟨ov, o1, o2⟩ := L2.sl j s hs
        refine ⟨ov, o1, o2.shrink fun a _ z => ?_⟩
        rcases z with z | z
        · exact .inl (.inl z)
        · exact .inr (own3 a z)
    · by_cases y : i = j
      · subst y
        exact absurd (getElem?_set_self' z1) (fun z => nomatch z)
      · by_cases y2 : i = k
        · subst y2
          exact absurd (getElem?_set_self' z2) (fun z => nomatch z)
        · rw [List.getElem?_set_ne y] at z1
          rw [List.getElem?_set_ne y2] at z2
          exact L2.inj j k d1 d2 a z1 z2 z3 z4
    · have z := own3 a z
      obtain ⟨n1, n2⟩ := ownNew a z
      have n3 : ¬ P.is a := fun y => n2 (.inl y)
      exact L.ext.none n3 (e1.none n3 n1)
  have rl : Rl P H σ G H2 σ2 (G2.set i (.dat (.lst (rows'.map DL.D.lst)))) := ⟨fun a u na hh => eH a u (fun z => na (.inl z)) hh, fun a z => by
    obtain ⟨n1, n2⟩ := ownNew a (own3 a z)
    have n3 : ¬ P.is a := fun y => n2 (.inl y)
    exact .inr ⟨e1.none n3 n1, n3⟩⟩
  exact sr P av H0 De hw n H2 σ2 _ (L3.le (Nat.le_refl _)) (hr rows' (l1.trans inn.len) l2) Dn ⟨fun σ' H' G' h' L' q => dd.nx σ' H' G' h' L' (rl.trans q), fun σ' H' G' h' L' q => dd.bk σ' H' G' h' L' (rl.trans q), fun σ' H' G' h' L' q => dd.ct σ' H' G' h' L' (rl.trans q), dd.rt, dd.rf⟩
end
theorem nest_pen {W : Ctl} {z : Addr × Nat × Nat × Nat} {Q : Pn} (h : (pcN W z).pc Q) : ∃ P0 qs, Q = penN P0 z.2.2.1 z.2.2.2 z.1 qs ∧ qs.length = z.2.1 := by
  obtain ⟨P0, qs, _, h1, h2⟩ := h
  exact ⟨P0, qs, h1, h2⟩
theorem nest_has {W : Ctl} {z : Addr × Nat × Nat × Nat} {p : Addr} (hpn : ∀ Q, W.pc Q → ∃ c, HasPen p Q c) {Q : Pn} (h : (pcN W z).pc Q) : ∃ c, HasPen p Q c := by
  obtain ⟨P0, qs, h0, rfl, _⟩ := h
  obtain ⟨c, hc⟩ := hpn P0 h0
  exact ⟨c, hasPenN hc⟩
theorem pen_has {p : Addr} {Q : Pn} (h : pcP p Q) : ∃ c, HasPen p Q c := by
  obtain ⟨c, rfl⟩ := h
  exact ⟨c, hasPen0⟩
end DL

namespace DL
open PySem PySem.Spec PyProof.Rows L2
/-! ### list(range(n)) -/
section
variable {ι : Type} {X : ι → Cx} {K : Fg} {W : Ctl} {c : Nat} {e : Expr} {w : WE} {pos p q1 q2 : Pos}
def wListRg (w : WE) : WL := fun G ed Q => w G ed fun d => onI d fun n => RgOk 0 n ∧ Q (rngD 0 n.toNat)
theorem rps_rng {K : Fg} {av : Av} {H : Hp} (a : Int) : ∀ (l : List Nat), Rps K av H (l.map fun i => V.int (a + (i : Nat))) (l.map fun i => D.int (a + (i : Nat)))
  | [] => .nil
  | i :: r => .cons (.int _) (rps_rng a r)
theorem df_listRg (hm : ∀ i, (X i).mg "list" = none) (hm2 : ∀ i, (X i).mg "range" = none) (h : DE X K W c e w) (hc : ∀ i, (X i).calm = true := by intro _; rfl) (hg : ∀ i, Gl (X i) "list" := by intro _; rfl) (hg2 : ∀ i, Gl (X i) "range" := by intro _; rfl)
    (n1 : ∀ i, starEach [.Call (.Name "range" q1) [e] [] q2] (X i).env = (false, eval (.Call (.Name "range" q1) [e] [] q2) (X i).env) :: starEach [] (X i).env := by intro _; rfl) (n2 : ∀ i, starEach [e] (X i).env = (false, eval e (X i).env) :: starEach [] (X i).env := by intro _; rfl) :
    DF X K W c (.Call (.Name "list" p) [.Call (.Name "range" q1) [e] [] q2] [] pos) (wListRg w) := by
  obtain ⟨te, pe, s⟩ := h
  refine ⟨_, fun i => pe_listRg (hc i) (hg i) (hm i) (prg_1 (hg2 i) (hm2 i) (pe i) (n2 i)) (n1 i), fun P av H0 ed hw n H σ G Qd L h Q q => ?_⟩
  refine s P av H0 ed hw n H σ G _ L h _ fun v H1 d hd L1 e1 r1 => ?_
  obtain ⟨k, rfl, hk, hd'⟩ := onI_of hd
  cases r1
  refine ⟨k, rfl, hk, fun z hz => ?_⟩
  have nz : ¬ P.is z := fun y => L1.avNe (L1.pav _ y) hz
  refine q z _ _ _ hd' (L1.new hz) (e1.trans (.new hz)) (e1.none nz hz) upd_same ?_
  have e : rgV 0 k = (List.range k.toNat).map fun i => V.int (0 + (i : Nat)) := by
    unfold rgV
    simp
  rw [e]
  exact rps_rng 0 _
end
end DL

namespace DL
open PySem PySem.Spec PyProof.Rows L2
/-! ### comprehensions of which a property alone is known -/
theorem compW_any {Pr : D → Prop} {wg : WG} {we : WE} {G : Gm} : ∀ {ds : List D} {acc : List D} {Q : List D → Prop}, (∀ d ∈ ds, ∀ R : D → Prop, (∀ y, Pr y → R y) → wg d G fun G1 => we G1 (fun _ => False) R) → (∀ y ∈ acc, Pr y) → (∀ out : List D, out.length = acc.length + ds.length → (∀ y ∈ out, Pr y) → Q out) → compW wg wTt we G ds acc Q
  | [], acc, Q, _, ha, q => q acc rfl ha
  | d :: r, acc, Q, h, ha, q => by
    show wg d G fun G1 => fork true (we G1 (fun _ => False) fun y => compW wg wTt we G r (acc ++ [y]) Q) (compW wg wTt we G r acc Q)
    have e : (fun G1 => fork true (we G1 (fun _ => False) fun y => compW wg wTt we G r (acc ++ [y]) Q) (compW wg wTt we G r acc Q)) = fun G1 => we G1 (fun _ => False) fun y => compW wg wTt we G r (acc ++ [y]) Q := funext fun G1 => fork_tt
    rw [e]
    refine h d List.mem_cons_self _ fun y hy => ?_
    refine compW_any (fun d hd => h d (List.mem_cons_of_mem _ hd)) (fun z hz => ?_) fun out ho => q out (by rw [ho, List.length_append, List.length_cons]; simp; omega)
    rcases List.mem_append.mp hz with hz | hz
    · exact ha z hz
    · rw [List.mem_singleton.mp hz]; exact hy
theorem compW_sub {wg : WG} {wt : WT} {we : WE} {G : Gm} : ∀ {ds : List D} {acc : List D} {Q : List D → Prop}, (∀ d ∈ ds, ∀ (R : D → Prop) (Z : Prop), R d → Z → wg d G fun G1 => wt G1 (fun _ => False) fun b => fork b (we G1 (fun _ => False) R) Z) → (∀ out : List D, out.Sublist ds → Q (acc ++ out)) → compW wg wt we G ds acc Q
  | [], acc, Q, _, q => by
    have := q [] (.refl _)
    rw [List.append_nil] at this
    exact this
  | d :: r, acc, Q, h, q => by
    refine h d List.mem_cons_self _ _ (compW_sub (fun d hd => h d (List.mem_cons_of_mem _ hd)) fun out ho => ?_) (compW_sub (fun d hd => h d (List.mem_cons_of_mem _ hd)) fun out ho => q out (ho.cons d))
    rw [List.append_assoc]
    exact q (d :: out) (ho.cons₂ d)
theorem compW2_any {Pr : List D → Prop} {wg : WG} {we : WL} {G : Gm} : ∀ {ds : List D} {acc : List (List D)} {Q : List (List D) → Prop}, (∀ d ∈ ds, ∀ R : List D → Prop, (∀ y, Pr y → R y) → wg d G fun G1 => we G1 (fun _ => False) R) → (∀ y ∈ acc, Pr y) → (∀ out : List (List D), out.length = acc.length + ds.length → (∀ y ∈ out, Pr y) → Q out) → compW2 wg we G ds acc Q
  | [], acc, Q, _, ha, q => q acc rfl ha
  | d :: r, acc, Q, h, ha, q => by
    refine h d List.mem_cons_self _ fun y hy => ?_
    refine compW2_any (fun d hd => h d (List.mem_cons_of_mem _ hd)) (fun z hz => ?_) fun out ho => q out (by rw [ho, List.length_append, List.length_cons]; simp; omega)
    rcases List.mem_append.mp hz with hz | hz
    · exact ha z hz
    · rw [List.mem_singleton.mp hz]; exact hy
end DL

namespace DL
open PySem PySem.Spec PyProof.Rows L2
/-! ### dicts whose values are all True -/
def keyD : Key → D
  | .inl i => .int i
  | .inr s => .str s
def keyOf : D → Option Key
  | .int i => some (.inl i)
  | .str s => some (.inr s)
  | _ => none
theorem keyOf_of {d : D} {k : Key} (h : keyOf d = some k) : d = keyD k := by
  cases d <;> first | (cases h; rfl) | exact nomatch h
theorem keyD_rp {K : Fg} {av : Av} {H : Hp} {v : V} {k : Key} (r : Rp K av H v (keyD k)) : v = kV k := by
  cases k <;> (cases r; rfl)
instance memK (k : Key) (ks : List Key) : Decidable (k ∈ ks) := decidable_of_iff ((ks.any fun j => decide (j = k)) = true) (by simp [List.any_eq_true])
def addK (ks : List Key) (k : Key) : List Key := if k ∈ ks then ks else ks ++ [k]
abbrev tT (ks : List Key) : List D := ks.map fun _ => .bl true
abbrev tD (ks : List Key) : D := .dic ks (tT ks)
abbrev tV (ks : List Key) : List (Key × V) := ks.map fun k => (k, V.bl true)
theorem rps_true {K : Fg} {av : Av} {H : Hp} : ∀ {xs : List V} {ks : List Key}, Rps K av H xs (tT ks) → xs = ks.map fun _ => V.bl true
  | _, [], .nil => rfl
  | _, k :: ks, .cons r rs => by
    cases r
    rw [rps_true rs]
    rfl
theorem true_rps {K : Fg} {av : Av} {H : Hp} : ∀ (ks : List Key), Rps K av H (ks.map fun _ => V.bl true) (tT ks)
  | [] => .nil
  | _ :: ks => .cons (.bl true) (true_rps ks)
theorem zip_true : ∀ (ks : List Key), ks.zip (ks.map fun _ => V.bl true) = tV ks
  | [] => rfl
  | k :: ks => congrArg ((k, V.bl true) :: ·) (zip_true ks)
theorem any_key (k : Key) : ∀ ks : List Key, ((tV ks).any fun kv => decide (kv.1 = k)) = decide (k ∈ ks)
  | [] => rfl
  | j :: ks => by
    show (decide (j = k) || (tV ks).any fun kv => decide (kv.1 = k)) = _
    rw [any_key k ks]
    by_cases h : j = k
    · subst h; simp
    · by_cases h2 : k ∈ ks
      · simp [h, h2]
      · have h3 : ¬ k = j := fun z => h z.symm
        simp [h, h2, h3]
theorem put_true (ks : List Key) (k : Key) : putK (tV ks) k (.bl true) = tV (addK ks k) := by
  unfold putK addK
  rw [any_key]
  by_cases h : k ∈ ks
  · rw [if_pos (decide_eq_true h), if_pos h, List.map_map]
    refine List.map_congr_left fun j _ => ?_
    show (if j = k then (j, V.bl true) else (j, V.bl true)) = _
    split <;> rfl
  · rw [if_neg (by rw [decide_eq_false h]; decide), if_neg h]
    show tV ks ++ [(k, V.bl true)] = (ks ++ [k]).map fun k => (k, V.bl true)
    rw [List.map_append]
    rfl
theorem merge_true : ∀ (es ks : List Key), mergeK (tV ks) (tV es) = tV (es.foldl addK ks)
  | [], _ => rfl
  | e :: es, ks => by
    show mergeK (putK (tV ks) e (.bl true)) (tV es) = _
    rw [put_true, merge_true es]
    rfl
theorem val_zip {k : Key} : ∀ {ks : List Key} {xs : List V}, ks.length = xs.length → (valV (ks.zip xs) k).isSome = decide (k ∈ ks)
  | [], [], _ => rfl
  | j :: ks, x :: xs, h => by
    have ih := val_zip (k := k) (ks := ks) (xs := xs) (by simpa using h)
    by_cases e : j = k
    · subst e
      rw [List.zip_cons_cons, valV_pos rfl]
      simp
    · rw [List.zip_cons_cons, valV_neg e, ih]
      have e3 : ¬ k = j := fun z => e z.symm
      by_cases h2 : k ∈ ks <;> simp [h2, e3]
section
variable {ι : Type} {X : ι → Cx} {K : Fg} {W : Ctl} {c c1 c2 : Nat} {e a b : Expr} {w wa wb : WE} {wl : WL} {pos p p0 p1 : Pos} {x : Str}
def fInT (g : Bool → Bool) : D → D → (D → Prop) → Prop
  | .non, .dic ks vs, Q => Q (.bl (g false))
  | .int i, .dic ks vs, Q => Q (.bl (g (decide (Sum.inl i ∈ ks))))
  | .str s, .dic ks vs, Q => Q (.bl (g (decide (Sum.inr s ∈ ks))))
  | _, _, _ => False
def rInN : R2 := fun y x H Q => (∃ a o, x = .ref a ∧ DGet H a y o ∧ Q (.bl o.isSome) H) ∨ ∃ a kvs, x = .ref a ∧ y = .non ∧ Rd H a (.dK kvs) ∧ Q (.bl false) H
theorem opInT : OpS K rInN (fInT id) := by
  intro is av H x y dx dy Qd hi ha rx ry h Q q
  cases dy <;> try (cases dx <;> exact h.elim)
  rename_i ks vs
  obtain ⟨p, xs, rfl, n, hl, r⟩ := ry
  cases dx <;> try exact h.elim
  · cases rx
    exact .inr ⟨p, _, rfl, rfl, .inl n.1, q _ H _ h (fun _ _ z => z) (.bl _)⟩
  · rename_i i
    cases rx
    refine .inl ⟨p, _, rfl, DGet.k (k := .inl i) n.1, ?_⟩
    rw [val_zip hl]
    exact q _ H _ h (fun _ _ z => z) (.bl _)
  · rename_i z
    cases rx
    refine .inl ⟨p, _, rfl, DGet.k (k := .inr z) n.1, ?_⟩
    rw [val_zip hl]
    exact q _ H _ h (fun _ _ z => z) (.bl _)
theorem dx_inT {k : Nat} (hr : ∀ i, Room k (X i).A) (ha : DR X K W c1 a wa) (hb : DR X K W c2 b wb) (hm : behindInMarks .In b = false := by rfl) : DX X K W (c1 + c2) (.Compare a [.In] [b] pos) (w2 (fInT id) wa wb) :=
  twoX opInT (fun i _ _ pa pb => by
    have z := pc_dinN (hu_of (hr i)) pa pb
    exact ⟨pe_cmp z hm, pt_cmp z hm⟩) ha hb
def owT : Option Slot → (List Key → Prop) → Prop
  | some (.own (.dic ks vs)), Q => vs = tT ks ∧ Q ks
  | _, _ => False
theorem owT_of {o : Option Slot} {Q : List Key → Prop} (h : owT o Q) : ∃ ks, o = some (.own (tD ks)) ∧ Q ks := by
  unfold owT at h
  split at h
  · obtain ⟨rfl, h⟩ := h
    exact ⟨_, rfl, h⟩
  · exact h.elim
/-- x[e] = True -/
def wPutT (i : Nat) (w : WE) : WS := fun G De => owT G[i]? fun ks => ks.length < sizeLine ∧ w G De.ex fun d => onO (keyOf d) fun k => De.nx (G.set i (.own (tD (addK ks k))))
theorem ds_putT {i k : Nat} {j : Nat} (hr : ∀ q, Room k (X q).A) (hx : ∀ q, PE (X q) (.Name x p0) (tVar i)) (h : DE X K W c e w)
    (hs : ∀ q, swapsWithSole [.Subscript (.Name x p0) e p1] (.Constant (.bool true) j p) pos.line (X q).env = pure false := by intro _; rfl) (hw : ∀ q, swappedStores [.Subscript (.Name x p0) e p1] (.Constant (.bool true) j p) (X q).env = pure none := by intro _; rfl)
    (h1 : ∀ q, (assignEach [.Subscript (.Name x p0) e p1] (X q).env).map (·.2) = [assign (.Subscript (.Name x p0) e p1) (X q).env] := by intro _; rfl)
    (hb : ∀ q v, assign (.Subscript (.Name x p0) e p1) (X q).env v = (do
      let a ← holding [v] (eval (.Name x p0) (X q).env)
      let b ← holding [v, a] (eval e (X q).env)
      standAt p1
      holding [v, a, b] (setItem a b v)
      release [v, a, b] []) := by intro _ _; rfl) : DS X K W c (.Assign [.Subscript (.Name x p0) e p1] (.Constant (.bool true) j p) pos) (wPutT i w) := by
  obtain ⟨te, pe, s⟩ := h
  refine ⟨_, fun q => ps_asg pe_bl (pg_sub (hx q) (pe q) (set_dict (hu_of (hr q))) (hb q)) (hs q) (hw q) (h1 q), fun P av H0 De hw n H σ G L h D dd => ?_⟩
  obtain ⟨ks, hG, hz, h⟩ := owT_of h
  obtain ⟨o, e1, l, u, xs, es, e2, e3, sh, r⟩ := L.sl i _ hG
  subst e2
  refine ⟨.ref l, e1, ?_⟩
  refine s P av H0 _ hw n H σ G _ L h _ fun v H' d hd L2 e' rv => ?_
  obtain ⟨k, hk, hd'⟩ := onO_of hd
  have ed := keyOf_of hk
  subst ed
  have ev := keyD_rp rv
  subst ev
  obtain ⟨o', f1, l', u', xs', es', f2, f3, sh', r'⟩ := L2.sl i _ hG
  rw [e1] at f1
  cases f1
  cases f2
  cases sh'
  have ex := rps_true r'
  subst ex
  rw [zip_true] at f3
  refine ⟨l, _, rfl, DPut.k f3 (by rw [List.length_map]; exact hz), ?_⟩
  rw [put_true]
  obtain ⟨L3, rl⟩ := L2.mut (ee := tD (addK ks k)) hG e1 (.dic (by rw [List.length_map])) (true_rps (addK ks k))
  rw [zip_true] at L3 rl
  exact dd.nx _ _ _ hd' L3 ((Rl.of e' fun _ z => z).trans rl)
/-- x = dict(e), e a list of pairs (key, True) -/
def wSetT (i : Nat) (w : WE) : WS := fun G De => w G De.ex fun d => ∃ es : List Key, d = .lst (es.map fun k => .tup [keyD k, .bl true]) ∧ De.nx (G.set i (.own (tD (es.foldl addK []))))
theorem pairs_of {K : Fg} {av : Av} {H : Hp} : ∀ {vs : List V} {es : List Key}, Rps K av H vs (es.map fun k => .tup [keyD k, .bl true]) → ∃ ps : List Addr, vs = ps.map V.ref ∧ Paired (fun p kv => SqT K H p [kV kv.1, kv.2]) ps (tV es)
  | _, [], .nil => ⟨[], rfl, .nil⟩
  | _, e :: es, .cons r rs => by
    obtain ⟨ps, rfl, hp⟩ := pairs_of rs
    cases r with
    | tup n r =>
      cases r with
      | cons r1 r =>
        cases r with
        | cons r2 r =>
          cases r
          cases r2
          have := keyD_rp r1
          subst this
          exact ⟨_ :: ps, rfl, .cons n.sq hp⟩
theorem ds_setT {i : Nat} {py q1 : Pos} {y : Str} (hK : ∀ q, (X q).K = K) (hc : ∀ q, (X q).calm = true) (hm : ∀ q, (X q).mg "dict" = none) (h : DR X K W c e w) (hN : ∀ q, (X q).N.Nodup) (hg : ∀ q, Gl (X q) "dict" := by intro _; rfl) (hi : ∀ j, (X j).N[i]? = some y := by intro _; rfl) (hx : ∀ j, Loc (X j).env.scope y := by intro _; first | exact .inl rfl | exact .inr rfl)
    (hs : ∀ j, swapsWith (.Call (.Name "dict" q1) [e] [] p) (some (.Name y py)) pos.line (X j).env = pure false := by intro _; rfl) (hf : ∀ j, (X j).fn y = true ∨ (X j).env.scope.names.lookup y = some .local := by intro _; first | exact .inl rfl | exact .inr rfl)
    (he : ∀ q, starEach [e] (X q).env = (false, eval e (X q).env) :: starEach [] (X q).env := by intro _; rfl) (hpl : ∀ q, (backTo p (starEach [] (X q).env)).any (·.1) = false := by intro _; rfl) : DS X K W c (.Assign [.Name y py] (.Call (.Name "dict" q1) [e] [] p) pos) (wSetT i w) := by
  obtain ⟨te, pe, s⟩ := h
  refine ⟨_, fun q => ps_set (hN q) (hi q) (hx q) (by
    have z := call_dictP (X := X q) (hc q)
    rw [hK q] at z
    exact pe_callTy z (hg q) (hm q) bt_dict (pa_cons (pe q) pa_nil (he q)) (by decide) (by decide) (he q) (hpl q)) (hs q) (hf q), fun P av H0 De hw n H σ G L h D dd => ?_⟩
  refine s P av H0 _ hw n H σ G _ L h _ fun v H' d hd L2 e' rv => ?_
  obtain ⟨es, rfl, hd⟩ := hd
  obtain ⟨a, xs, rfl, nl, r⟩ := rv
  obtain ⟨ps, rfl, hp⟩ := pairs_of r
  refine ⟨a, ps, tV es, rfl, .inl (.inl nl.1), hp, fun z hz => ?_⟩
  have em : mergeK [] (tV es) = tV (es.foldl addK []) := merge_true es []
  rw [em]
  have nz : ¬ P.is z := fun y => L2.avNe (L2.pav _ y) hz
  have L3 : LocOk P K av H0 n (upd H' z (.dK (tV (es.foldl addK [])))) σ G := L2.new hz
  obtain ⟨L4, o⟩ := L2.putOwn (i := i) (dd := tD (es.foldl addK [])) (u := .dK (tV (es.foldl addK []))) L3 (.new hz) hz upd_same (by
    have y := Shp.dic (ks := es.foldl addK []) (xs := (es.foldl addK []).map fun _ => V.bl true) (ds := tT (es.foldl addK [])) (by rw [List.length_map])
    rw [zip_true] at y
    exact y) (true_rps _)
  refine dd.nx _ _ _ hd L4 ⟨fun b u k hh => ?_, fun b y => ?_⟩
  · rw [upd_ne (ne_of_none (e' b u (fun y => k (.inl y)) hh) hz)]
    exact e' b u (fun y => k (.inl y)) hh
  · rcases o b y with y | rfl
    · exact .inl y
    · exact .inr ⟨e'.none nz hz, nz⟩
end
end DL

namespace DL
open PySem PySem.Spec PyProof.Rows L2
section
variable {ι : Type} {X : ι → Cx} {K : Fg} {W : Ctl} {c : Nat} {a e : Expr} {wt : WT} {wl : WL} {ws : WS} {sts : List Stmt} {pos apos cpos : Pos}
/-- what a def owns, seen as data -/
def seen (i : Nat) (G : Gm) : Gm := match G[i]? with
  | some (.own d) => G.set i (.dat d)
  | _ => G
theorem LocOk.seen {P : Pn} {av : Av} {H0 H : Hp} {n : Nat} {σ : Sg} {G : Gm} (i : Nat) (L : LocOk P K av H0 n H σ G) : LocOk P K av H0 n H σ (seen i G) ∧ ∀ a, Own σ (DL.seen i G) a → Own σ G a := by
  unfold DL.seen
  split
  · rename_i d h
    exact L.frz h
  · exact ⟨L, fun _ z => z⟩
/-- a test may read it so: nothing is left behind -/
theorem dt_seen (i : Nat) (h : DT X K W c e wt) : DT X K W c e (fun G ed Q => wt (seen i G) ed Q) := by
  obtain ⟨tt, pt, s⟩ := h
  refine ⟨tt, pt, fun P av H0 ed hw n H σ G Qd L h Q q => ?_⟩
  exact s P av H0 ed hw n H σ _ Qd (L.seen i).1 h Q fun b H' hb L2 e' => q b H' hb ((L.le (Nat.le_add_right n c)).grow e' L2.ok) e'
/-- from here on it is not written -/
theorem dss_seen (i : Nat) (h : DSs X K W c sts ws) : DSs X K W c sts (fun G De => ws (seen i G) De) := by
  obtain ⟨ts, ps, s⟩ := h
  refine ⟨ts, ps, fun P av H0 De hw n H σ G L h D dd => ?_⟩
  obtain ⟨L2, o⟩ := L.seen i
  have r : ∀ {σ' : Sg} {H' : Hp} {G' : Gm}, Rl P H σ (seen i G) H' σ' G' → Rl P H σ G H' σ' G' := fun r => ⟨fun b u k hh => r.ext b u (fun z => k (z.elim .inl fun z => .inr (o b z))) hh, fun b z => (r.own b z).elim (fun z => .inl (o b z)) .inr⟩
  exact s P av H0 De hw n H σ _ L2 h D ⟨fun σ' H' G' h' L' q => dd.nx σ' H' G' h' L' (r q), fun σ' H' G' h' L' q => dd.bk σ' H' G' h' L' (r q), fun σ' H' G' h' L' q => dd.ct σ' H' G' h' L' (r q), dd.rt, dd.rf⟩
end
end DL

namespace DL
open PySem PySem.Spec PyProof.Rows L2
section
variable {ι : Type} {X : ι → Cx} {K : Fg} {W : Ctl} {c c1 c2 c3 : Nat} {e a b : Expr} {es : List Expr} {w wa wb : WE} {wl : WL} {pos p apos cpos : Pos}
/-! ### slices of lists, new -/
def onL (d : D) (Q : List D → Prop) : Prop := match d with | .lst xs => Q xs | _ => False
theorem onL_of {d : D} {Q : List D → Prop} (h : onL d Q) : ∃ xs, d = .lst xs ∧ Q xs := by
  cases d <;> first | exact ⟨_, rfl, h⟩ | exact h.elim
def wSlF (wa : WE) (wl wh : WO) : WL := fun G ed Q => wa G ed fun x => wl G ed fun lo => wh G ed fun hi => onL x fun xs => Q (cut xs lo hi)
theorem df_sl {lo hi : Option Expr} {p2 : Pos} {wl wh : WO} (hK : ∀ i, (X i).K = K) (ha : DR X K W c1 a wa) (hl : DO X K W c2 lo wl) (hh : DO X K W c3 hi wh) : DF X K W (c1 + c2 + c3) (.Subscript a (.Slice lo hi none p2) pos) (wSlF wa wl wh) := by
  obtain ⟨ta, pa, sa⟩ := ha
  obtain ⟨tl, pl, sl⟩ := hl
  obtain ⟨th, ph, sh⟩ := hh
  refine ⟨tSl (rSl3 K) ta tl th, fun i => (by rw [← hK i]; exact pe_slice (sl_str.or sl_list) (pa i) (pl i) (ph i)), fun P av H0 ed hw n H σ G Qd L h Q q => ?_⟩
  refine sa P av H0 ed hw (n + c2 + c3) H σ G _ (L.le (by omega)) h _ fun x H1 dx hx L1 e1 r1 => ?_
  refine sl P av H0 ed hw (n + c3) H1 σ G _ (L1.le (by omega)) hx _ fun lo H2 hl L2 e2 => ?_
  refine sh P av H0 ed hw n H2 σ G _ (L2.le (by omega)) hl _ fun hi H3 hh L3 e3 => ?_
  have r3 := (r1.ext e2 fun _ => L2.isAvo).ext e3 fun _ => L3.isAvo
  have e13 := e1.trans (e2.trans e3)
  obtain ⟨xd, rfl, hh⟩ := onL_of hh
  obtain ⟨p, xs, rfl, n1, r⟩ := r3
  refine .inr ⟨p, xs, rfl, n1.sq, fun z hz => ?_⟩
  have nz : ¬ P.is z := fun y => P.al L3.ok y hz
  refine q z _ _ _ hh (L3.new hz) (e13.trans (.new hz)) (e13.none nz hz) upd_same ?_
  exact (rps_cut r lo hi).ext (is := P.is) (.new hz) (fun _ => L3.isAvo) (avp_of hz)
/-! ### a new list given back -/
def wRetF (w : WL) : WS := fun G De => w (frzG G) De.ex De.rf
theorem ds_retF (h : DF X K W c e wl) : DS X K W c (.Return (some e) pos) (wRetF wl) := by
  obtain ⟨te, pe, s⟩ := h
  refine ⟨_, fun i => ps_ret (pe i), fun P av H0 De hw n H σ G L h D dd => ?_⟩
  obtain ⟨L', no⟩ := L.frzAll
  refine s P av H0 _ hw n H σ _ _ L' h _ fun p xs H' ds hd L2 e' hn hp r => ?_
  have nz : ¬ P.is p := fun y => P.al L.ok y hn
  exact dd.rf p xs H' ds hd L2.ext L2.ok (L.ext.none nz hn) hp (r.ext (is := fun _ => False) (.refl _ _) (fun _ z => z.elim) fun _ _ z => z.elim (fun z => .inl (.inl z)) .inr)
abbrev WFN := List D → (Value → Prop) → (List D → Prop) → Prop
def spNew (K : Fg) (np : Nat) (Wf : WFN) : Sp := fun vs H Q E => vs.length = np ∧ ∃ (av : Av) (ds : List D) (ed : Value → Prop) (Qd : List D → Prop), (∀ a, av a → H a ≠ none) ∧ Rps K av H vs ds ∧ Wf ds ed Qd ∧ (∀ cls H', ed cls → Ex H H' → E cls none H') ∧ ∀ p xs H' ds, Qd ds → Ex H H' → H p = none → H' p = some (.lst xs) → Rps K (avp av p) H' xs ds → Q (.ref p) H'
structure DFnN (P : Program) (w : World) (K : Fg) (mg : Str → Option Value) (base : Heap) (x : Str) (k np : Nat) (Wf : WFN) : Prop where
  len : ∀ ds ed Q, Wf ds ed Q → ds.length = np
  ex : ∃ (f : Addr) (fd : FuncData) (ps : List Str), mg x = some (.ref f) ∧ PySem.W.keepIn K (.ref f) = true ∧ Binds K fd ps [] ∧ FnOk P w K mg base (L2.CX P w) k f fd ps (spNew K np Wf)
theorem DFnN.dfn {P : Program} {w : World} {K : Fg} {mg : Str → Option Value} {base : Heap} {x : Str} {k np : Nat} {Wf : WFN} {Wg : WF} (F : DFnN P w K mg base x k np Wf) (hlen : ∀ ds ed Q, Wg ds ed Q → ds.length = np) (h : ∀ ds ed Q, Wg ds ed Q → Wf ds ed fun es => Q (.lst es)) : DFn P w K mg base x k np Wg := by
  obtain ⟨f, fd, ps, h1, h2, h3, h4⟩ := F.ex
  refine ⟨hlen, f, fd, ps, h1, h2, h3, h4.imp fun vs H Q E z => ?_⟩
  obtain ⟨hl, av, ds, ed, Qd, ha, r, hw, hE, hQ⟩ := z
  exact ⟨hl, av, ds, ed, _, ha, r, h _ _ _ hw, hE, fun p xs H' es hd ex h0 h1 r' => hQ _ H' _ hd ex (rp_fresh ha h0 h1 r')⟩
def nEnds (ed : Value → Prop) (Q : List D → Prop) : DEnds := ⟨fun _ => False, fun _ => False, fun _ => False, fun _ => False, ed, Q⟩
theorem dfnN_of {P : Program} {w : World} {K : Fg} {mg : Str → Option Value} {base : Heap} {x : Str} {st : Stmt} {f : Addr} {fd : FuncData} {N ps : List Str} {k np : Nat} {Wf : WFN} {wb : WS} {c : Nat} (F : Fun K x x st f fd) (S : FnScope N ps (defScope st)) (g : mg x = some (.ref f)) (b : Binds K fd ps []) (hnp : ps.length = np)
    (hlen : ∀ ds ed Q, Wf ds ed Q → ds.length = np)
    (hbody : ∀ (cdv : Value) (A : Around) (outer : List Env) (s : Shared) (H : Hp) (E : XK), Room k (A.deeper (envOfC x (defScope st) s.heap.objs.size f cdv)) →
      DSs (fun _ : Unit => cxOf (L2.CX P w) P w K mg base N x (defScope st) f cdv A outer s H E) K ⟨fun cls d _ H => E cls d H, fun _ => True⟩ c (defBody st) wb)
    (hw : ∀ ds ed Q, Wf ds ed Q → wb (startG N ds) (nEnds ed Q)) : DFnN P w K mg base x (k + 1) np Wf := by
  refine ⟨hlen, f, fd, ps, g, F.kp, b, ?_⟩
  refine F.okX S (fun vs H Q E h => by rw [h.1, hnp]) fun cdv A outer s H vs Q E hr h => ?_
  obtain ⟨hl, av, ds, ed, Qd, ha, r, hwf, hE, hQ⟩ := h
  obtain ⟨ts, pss, sem⟩ := hbody cdv A outer s H E hr
  refine ⟨ts, pss (), ?_⟩
  exact sem noPen av H (nEnds ed Qd) ⟨trivial, fun cls σ H' hc ex => hE cls H' hc fun a o hh => ex a o (fun z => z) hh⟩ 0 H _ _ (loc_start ha r) (hw ds ed Qd hwf) _ ⟨fun _ _ _ z => z.elim, fun _ _ _ z => z.elim, fun _ _ _ z => z.elim, fun _ _ _ z => z.elim, fun p xs H' ds h' e' _ h0 h1 r' => hQ p xs H' _ h' (fun a o hh => e' a o (fun z => z) hh) h0 h1 r'⟩
def wCallN (Wf : WFN) (wl : WL) : WL := fun G ed Q => wl G ed fun ds => Wf ds ed Q
theorem df_callN {P : Program} {w : World} {mg : Str → Option Value} {base : Heap} {x : Str} {k kk np : Nat} {Wf : WFN} (F : DFnN P w K mg base x k np Wf) (hF : Fam X P w K mg base) (tk : ∀ i, Takes (X i) W.w) (hr : ∀ i, Room kk (X i).A) (h : DA X K W c (e :: es) wl) (hk : k ≤ kk := by decide) 
    (hg : ∀ i, Gl (X i) x := by intro _; rfl) (hdb : (x == ("__debug__" : Str)) = false := by decide) (he : ∀ i, starEach (e :: es) (X i).env = (false, eval e (X i).env) :: starEach es (X i).env := by intro _; rfl) (hpl : ∀ i, (backTo pos (starEach es (X i).env)).any (·.1) = false := by intro _; rfl) :
    DF X K W c (.Call (.Name x p) (e :: es) [] pos) (wCallN Wf wl) := by
  obtain ⟨ta, pa, s⟩ := h
  obtain ⟨f, fd, ps, h1, h2, h3, h4⟩ := F.ex
  refine ⟨tCallS (spNew K np Wf) (L2.WE W.w) ta, fun i => ?_, fun P' av H0 ed hw n H σ G Qd L h Q q => ?_⟩
  · obtain ⟨e1, e2, e3, e4, e5⟩ := hF i
    subst e1; subst e2; subst e3; subst e4; subst e5
    exact pe_callS (h4.mono (Nat.le_refl _)) ((hr i).mono hk) (hg i) h1 h2 h3 (fun σ => passAt (tk i) σ) (pa i) hdb (he i) (hpl i)
  · refine s P' av H0 ed hw n H σ G _ L h _ fun vs H1 ds hd L1 e1 r1 => ?_
    refine ⟨by rw [r1.len]; exact F.len ds ed Qd hd, avo av σ G, ds, ed, Qd, fun _ => L1.avoNe, r1, hd, fun cls H' hc ex => ?_, fun p xs H' ds hd ex h0 h1 r => ?_⟩
    · exact hw.2 cls σ H' hc (L1.ext.trans (Ex.ext ex))
    · have nz : ¬ P'.is p := fun y => P'.al L1.ok y h0
      exact q p xs H' ds hd (L1.growEx ex) (e1.trans (Ex.ext ex)) (e1.none nz h0) h1 r
/-! ### x.extend(e) -/
def wExt (i : Nat) (w : WE) : WS := fun G De => owS G[i]? fun ds => w G De.ex fun d => onL d fun es => ds.length + es.length ≤ sizeLine ∧ De.nx (G.set i (.own (.lst (ds ++ es))))
theorem ds_extend {i : Nat} (hK : ∀ i, (X i).K = K) (hp : ∀ j, PE (X j) a (tVar i)) (h : DE X K W c e w)
    (hbase : ∀ i, attributeBase a "extend" (X i).env (eval a (X i).env) = eval a (X i).env := by intro _; rfl)
    (hfew : ∀ i, ((backTo cpos (starEach [e] (X i).env)).all (fun x => !x.1) && (backToKw cpos (keywordEach [] (X i).env)).all (fun x => x.1.isSome) && decide ([e].length + ([] : List Keyword).length + (if ([] : List Keyword).isEmpty then 0 else 1) < 30)) = true := by intro _; rfl)
    (hline : (apos.endLine == cpos.line) = true := by rfl) (hs : ∀ i, starEach [e] (X i).env = (false, eval e (X i).env) :: starEach [] (X i).env := by intro _; rfl)
    (hw : ∀ i, swapsWith (.Call (.Attribute a "extend" apos) [e] [] cpos) none pos.line (X i).env = pure false := by intro _; rfl) : DS X K W c (.Expr (.Call (.Attribute a "extend" apos) [e] [] cpos) pos) (wExt i w) := by
  obtain ⟨te, pe, s⟩ := h
  refine ⟨tDrop (tBM K "list" rExtend (tVar i) (tCons te tNil)), fun j => ps_expr (by rw [← hK j]; exact pe_bm PySem.F.plainAttrs_list PySem.F.slot_list_extend PySem.F.type_list_extend mt_extend (hp j) (pa_cons (pe j) pa_nil (hs j)) (hbase j) (hfew j) hline (hs j)) (hw j), fun P av H0 De hw n H σ G L h D dd => ?_⟩
  obtain ⟨ds, q, h⟩ := owS_of h
  obtain ⟨o, e1, l, _, xs, _, e2, e3, sh, r⟩ := L.sl i _ q
  subst e2
  cases sh
  refine ⟨_, e1, .inl ⟨rfl, xs, .inl (.inl e3)⟩, ?_⟩
  refine s P av H0 _ hw n H σ G _ L h _ fun v H' d hd L2 e' rv => ?_
  obtain ⟨es, rfl, hz, hd⟩ := onL_of hd
  have e4 := e' l _ (L.ownIs ⟨i, _, q, e1⟩) e3
  obtain ⟨o', f1, l', _, xs', _, f2, f3, sh', r'⟩ := L2.sl i _ q
  rw [e1] at f1
  cases f1
  cases f2
  cases sh'
  rw [e4] at f3
  cases f3
  cases rv with
  | @lst b zs _ nb rb =>
    obtain ⟨L3, rl⟩ := L2.mut q e1 .lst (r'.append rb)
    exact ⟨l, b, xs, zs, rfl, rfl, e4, nb.1, by rw [r.len, rb.len]; exact hz, dd.nx _ _ _ hd L3 ((Rl.of e' fun _ z => z).trans rl)⟩
end
end DL

namespace DL
open PySem PySem.Spec PyProof.Rows L2
/-! ### enumerate of a tuple -/
abbrev enObj (j : Addr) : Obj := { cls := .type "enumerate", data := .fields #[.none, .bool false, .ref j, rawInt 0, .none, .none] }
theorem en_made {v : Value} {ob : Obj} {Pre : Heap → Prop} (B : Begins v ob Pre) : Meets (Builtin.«enumerate.__new__» ⟨[.type "enumerate", v], []⟩) fun _ R s => Pre s.heap ∧ R (.ok (.ret (.ref (s.heap.push ob).objs.size))) { s with heap := (s.heap.push ob).push (enObj s.heap.objs.size) } := by
  refine .of_wp ?_
  rintro prog w A R ⟨hp, gl, dd, tk, os⟩ ⟨pre, fin⟩
  have isE := sub_enumerate
  have step : ∀ {A' : Around} {E : Value → Shared → Prop} {Q : Value → Shared → Prop}, Q (.ref hp.objs.size) ⟨hp.push ob, gl, dd, tk, os⟩ → wpAny (model prog w) A' (pyIter v) Q E ⟨hp, gl, dd, tk, os⟩ := fun q => B.iter prog w _ _ ⟨hp, gl, dd, tk, os⟩ _ pre q
  wp_walk
  refine wpAny_stack_any fun _ => wpAny_pure ?_
  split
  · rename_i k _ _ _ _ _
    cases (k == Value.type "enumerate") <;> (wp_walk using step; exact ⟨_, rfl, fin⟩)
  · wp_walk using step
    exact ⟨_, rfl, fin⟩
theorem en_begins {prog : Program} {w : World} {A : Around} {E : Value → Shared → Prop} {s : Shared} {v : Value} {ob : Obj} {Pre : Heap → Prop} {Q : Value → Shared → Prop} (B : Begins v ob Pre) (pre : Pre s.heap)
    (fin : ∀ h', IsEnum h' (s.heap.objs.size + 1) s.heap.objs.size 0 .none → h'.get? s.heap.objs.size = some ob → (∀ b o, s.heap.get? b = some o → h'.get? b = some o) → Q (.ref (s.heap.objs.size + 1)) { s with heap := h' }) :
    wpAny (model prog w) A (call (.type "enumerate") [v]) Q E s := by
  have sz : (s.heap.push ob).objs.size = s.heap.objs.size + 1 := Heap.size_push ..
  have top := Heap.get?_push_size (s.heap.push ob) (o := enObj s.heap.objs.size) rfl
  rw [sz] at top
  refine callType_new F.called_enumerate (by decide) (F.typeCall_enumerate_1 _) (F.newCall_enumerate_1 _) (fun obj => F.args_object_init_2 obj _) F.entry_enumerate_new (en_made B) ⟨pre, ?_⟩
  rw [sz]
  exact ⟨⟨_, top, rfl⟩, fin _ top (Heap.get?_push_of_some _ (Heap.get?_push_size _ B.free)) fun b o z => Heap.get?_push_of_some _ (Heap.get?_push_of_some _ z)⟩
def ItE (K : Fg) (a : Addr) : It where
  go := fun i H => ∃ (ys : List V) (y : V), SqT K H a ys ∧ ys[i]? = some y
  yld := fun i H v H' => ∃ T y, v = .ref T ∧ H T = none ∧ H' = upd H T (.tup [.int (i : Nat), y]) ∧ ∀ ys, SqT K H a ys → ys[i]? = some y
  stop := fun i H => ∃ ys : List V, SqT K H a ys ∧ ys.length = i
theorem ofTwo {c e j : Addr} (m : c ∈ [e, j]) : c = e ∨ c = j := by simpa using m
theorem turn_enT {P : Program} {w : World} {K : Fg} {elts : List Expr} {kk : Nat} {tpos : Pos} {a e j : Addr} (ej : e ≠ j) (aj : a ≠ j) (ae : a ≠ e) :
    Turn P w K (.Tuple elts kk tpos) (ItE K a) [e, j] e (fun i h => (∃ z, IsEnum h e j ((i : Nat) : Int) z) ∧ h.IsTupleIter j a i) where
  mem := by simp
  obj := fun i h st c m => by
    obtain ⟨⟨z, s1⟩, u2, e2, _, d2⟩ := st
    rcases ofTwo m with rfl | rfl
    · exact ⟨_, s1, fun _ z => nomatch z⟩
    · exact ⟨u2, e2, fun _ z => by rw [d2] at z; cases z⟩
  keep := fun i h h' st k => by
    obtain ⟨⟨z, s1⟩, s5⟩ := st
    exact ⟨⟨z, k e (by simp) _ s1⟩, s5.at fun o q => k j (by simp) o q⟩
  item := by
    rintro X rfl rfl rfl hc i pins s σ H E I hf ⟨⟨z, s1⟩, s5⟩ ⟨ys, y, g1, g3⟩
    obtain ⟨its, rv, tb, _⟩ := I.tuple g1
    obtain ⟨u, hu, ru⟩ := rv.get g3
    have el : e < s.heap.objs.size := Heap.lt_size s1
    have l2 : i < its.toArray.size := by have := (List.getElem?_eq_some_iff.mp hu).1; simpa using this
    have hd : X.A.in1.handled = none := I.ok.hd hc
    have Dw := Draws.tuple (prog := X.prog) (w := X.w) hd j a aj its.toArray
    have nf : e ∉ [j, a] := fun m => by
      have : e = j ∨ e = a := by simpa using m
      exact this.elim ej fun q => ae q.symm
    refine wpAny_pyNext_enum_itemD Dw s1 ⟨s5, tb⟩ l2 ej nf fun v h1 tk y1 b1 b2 b3 b4 b5 => ?_
    have ev : v = u := by
      have y1 : its.toArray[i]? = some v := y1
      rw [List.getElem?_toArray, hu] at y1
      exact (Option.some.inj y1).symm
    subst ev
    refine ⟨_, rfl, wpAny_letOwnedTupleGo_enum (s := { s with heap := h1, toks := tk + 1 }) b1 fun h2 c1 sb => ?_⟩
    have pr : h2.get? s.heap.objs.size = some { cls := .type "tuple", data := .seq #[.int i tk, v] } := (sb.2 _ (Nat.ne_of_gt el)).trans b3
    have new : ObjOk X.prog X.w (upd H s.heap.objs.size (.tup [.int (i : Nat), y])) h2 s.heap.objs.size (.tup [.int (i : Nat), y]) :=
      ⟨by show 2 ≤ sizeLine; decide, [.int i tk, v], .cons ⟨_, rfl⟩ (.cons ru .nil), _, pr, rfl, _, rfl⟩
    have old : ∀ c o, c ∉ [e, j] → s.heap.get? c = some o → h2.get? c = some o := fun c o no q => (sb.2 c (fun r => no (by simp [r]))).trans (b5 c o (fun r => no (by simp [r])) (fun r => no (by simp [r])) q)
    have I1 : Inv X pins σ (upd H s.heap.objs.size (.tup [.int (i : Nat), y])) { s with heap := h2, toks := tk + 1 } := I.turnedNew (t' := tk + 1) (ch := [e, j]) old hf (Nat.le_refl _) new
    refine ⟨.ref s.heap.objs.size, _, I1, rfl, ⟨_, y, rfl, I.hok.fresh (Nat.le_refl _), rfl, fun l hl => by rw [I.tuple_inj hl g1]; exact g3⟩, ⟨⟨v, ?_⟩, ?_⟩, fun c m => ?_⟩
    · rw [show ((i + 1 : Nat) : Int) = (i : Int) + 1 by omega]
      exact c1
    · exact b2.1.at fun o q => (sb.2 j (Ne.symm ej)).trans q
    · have lt : c < s.heap.objs.size := by
        obtain ⟨u2, e2, _⟩ := s5
        rcases ofTwo m with rfl | rfl
        · exact el
        · exact Heap.lt_size e2
      rw [upd_ne (Nat.ne_of_lt lt)]
      exact (hf c m).1
  done := by
    rintro X rfl rfl rfl hc i pins s σ H E I hf ⟨⟨z, s1⟩, s5⟩ ⟨ys, g1, g2⟩
    obtain ⟨its, rv, tb, _⟩ := I.tuple g1
    have e2 : its.toArray.size = i := by have := rv.length; simp; omega
    have hd : X.A.in1.handled = none := I.ok.hd hc
    have Dw := Draws.tuple (prog := X.prog) (w := X.w) hd j a aj its.toArray
    rw [e2] at Dw
    refine wpAny_pyNext_enum_endD Dw s1 ⟨s5, tb⟩ fun h1 old => ?_
    exact ⟨rfl, I.turnedL (t' := s.toks) (ch := [e, j]) (fun c o no q => old c o (fun r => no (by simp [r])) q) hf⟩
  self := fun A i s Q E st h => let ⟨⟨_, z⟩, _⟩ := st; wpAny_pyIter_enum z h
def iEnT (K : Fg) (ta : TA) : TI := fun σ H R => ta σ H fun vs H1 => ∃ a ys, vs = [.ref a] ∧ ((SqL K H1 a ys ∧ R (Ite K a) H1) ∨ (SqT K H1 a ys ∧ R (ItE K a) H1))
theorem pi_enT {X : Cx} {e : Expr} {ta : TA} {p pos tpos : Pos} {elts : List Expr} {kk : Nat} (hg : Gl X "enumerate") (hm : X.mg "enumerate" = none) (ha : PA X [e] ta) (hs : starEach [e] X.env = [(false, eval e X.env)] := by rfl) :
    PI X (.Tuple elts kk tpos) (.Call (.Name "enumerate" p) [e] [] pos) (iEnT X.K ta) := by
  constructor
  intro pins s σ H R I hyp
  refine Call_ (ld_blt I hg hm boot_enumerate (PyProof.Rows.callWith_type1 (thn (ha.run pos pins s σ H _ I hyp) ?_) hs rfl))
  rintro us s1 ⟨vs, H1, I1, r1, a, ys, rfl, sq⟩
  cases r1 with
  | cons r rr =>
    cases rr
    cases r
    have new : ∀ b, b ∈ [s1.heap.objs.size + 1, s1.heap.objs.size] → s1.heap.objs.size ≤ b := fun b m => by
      rcases ofTwo m with rfl | rfl
      · exact Nat.le_add_right _ _
      · exact Nat.le_refl _
    rcases sq with ⟨sq, q⟩ | ⟨sq, q⟩
    · obtain ⟨its, rv, tb, _⟩ := I1.list sq
      refine call_enumerate_list tb.isList fun h' a1 a2 _ up => wpAny_pyIter_enum a1 ?_
      exact ⟨s1.heap.objs.size + 1, [s1.heap.objs.size + 1, s1.heap.objs.size], _, _, H1, rfl, I1.kept (t' := s1.toks) up, turn_enum a (s1.heap.objs.size + 1) s1.heap.objs.size, ⟨⟨.none, a1⟩, a2, Nat.succ_ne_self _⟩, fun b m => I1.fpOk (new b m) (I1.hok.fresh (new b m)), q⟩
    · obtain ⟨its, rv, tb, _⟩ := I1.tuple sq
      obtain ⟨ob, eb, _⟩ := id tb
      have bl := Heap.lt_size eb
      refine en_begins (begins_tuple a its.toArray) tb fun h' a1 a2 up => wpAny_pyIter_enum a1 ?_
      exact ⟨s1.heap.objs.size + 1, [s1.heap.objs.size + 1, s1.heap.objs.size], _, _, H1, rfl, I1.kept (t' := s1.toks) up, turn_enT (Nat.succ_ne_self _) (Nat.ne_of_lt bl) (Nat.ne_of_lt (Nat.lt_succ_of_lt bl)), ⟨⟨.none, a1⟩, ⟨_, a2, rfl, rfl⟩⟩, fun b m => I1.fpOk (new b m) (I1.hok.fresh (new b m)), q⟩
section
variable {K : Fg} {av : Av} {P : Pn} {H : Hp} {a : Addr} {xs : List V} {ds : List D}
theorem walks_enT (n : NT K av H a xs) (r : Rps K av H xs ds) : Walks P K av H (ItE K a) (enum ds) := by
  have el : (enum ds).length = xs.length := by unfold enum; rw [List.length_map, List.length_zipIdx, r.len]
  refine ⟨fun H => SqT K H a xs, YPair (fun i => some (.int (i : Nat))) (fun i => xs[i]?), ?_, fun H' e => (n.ext e (fun _ z => z) (fun _ _ z => z)).sq, fun i x H1 H2 av2 hi h2 ha e y => ?_⟩
  · rw [el]
    refine ⟨fun i H' hi q => ⟨xs, xs[i], q, by simp [hi]⟩, fun H' q => ⟨xs, q, rfl⟩, fun i H1 v H2 hi q y => ?_⟩
    obtain ⟨T, y, k1, k2, k3, k5⟩ := y
    exact ⟨T, .int (i : Nat), y, k1, k2, k3, rfl, k5 xs q⟩
  · obtain ⟨T, u, v, rfl, nT, rfl, hu, hv⟩ := y
    cases hu
    rw [el, r.len] at hi
    obtain ⟨d, hd⟩ : ∃ d, ds[i]? = some d := ⟨_, List.getElem?_eq_getElem hi⟩
    obtain ⟨v', e1, e2⟩ := r.get hd
    rw [show xs[i]? = some v from hv] at e1
    cases e1
    refine ⟨.tup [.int (i : Nat), d], ?_, ex_new nT, .tup (.inl ⟨upd_same, fun z => ha T z nT⟩) (.cons (.int _) (.cons ?_ .nil))⟩
    · unfold enum
      rw [List.getElem?_map, List.getElem?_zipIdx, hd]
      simp
    · exact (e2.ext e (fun _ z => z) h2 : Rp K av2 H1 v d).ext (is := fun _ => False) (.new nT) (fun _ z => z.elim) (fun _ _ z => z)
end
def seqA : List D → (List D → Prop) → Prop
  | [.lst xs], Q => Q xs
  | [.tup xs], Q => Q xs
  | _, _ => False
theorem seqA_of {ds : List D} {Q : List D → Prop} (h : seqA ds Q) : ∃ xs, (ds = [.lst xs] ∨ ds = [.tup xs]) ∧ Q xs := by
  unfold seqA at h
  split at h
  · exact ⟨_, .inl rfl, h⟩
  · exact ⟨_, .inr rfl, h⟩
  · exact h.elim
def wEnT (wl : WL) : WL := fun G ed Q => wl G ed fun ds => seqA ds fun xs => Q (enum xs)
section
variable {ι : Type} {X : ι → Cx} {K : Fg} {W : Ctl} {c : Nat} {e : Expr} {wl : WL} {pos p tpos : Pos} {elts : List Expr} {kk : Nat}
theorem di_enT (hK : ∀ i, (X i).K = K) (hm : ∀ i, (X i).mg "enumerate" = none) (h : DA X K W c [e] wl) (hg : ∀ i, Gl (X i) "enumerate" := by intro _; rfl) (hs : ∀ i, starEach [e] (X i).env = [(false, eval e (X i).env)] := by intro _; rfl) :
    DI X K W c (.Tuple elts kk tpos) (.Call (.Name "enumerate" p) [e] [] pos) (wEnT wl) := by
  obtain ⟨ta, pa, s⟩ := h
  refine ⟨iEnT K ta, fun i => (by rw [← hK i]; exact pi_enT (hg i) (hm i) (pa i) (hs i)), fun P av H0 ed hw n H σ G Qd L h R q => s P av H0 ed hw n H σ G _ L h _ fun vs H1 ds hd L1 e1 r => ?_⟩
  obtain ⟨xs, he, hq⟩ := seqA_of hd
  rcases he with rfl | rfl
  · cases r with
    | cons r rr =>
      cases rr
      cases r with
      | lst nn r => exact ⟨_, _, rfl, .inl ⟨nn.sq, q _ _ _ hq L1 e1 (walks_enum nn r)⟩⟩
  · cases r with
    | cons r rr =>
      cases rr
      cases r with
      | tup nn r => exact ⟨_, _, rfl, .inr ⟨nn.sq, q _ _ _ hq L1 e1 (walks_enT nn r)⟩⟩
end
end DL

namespace DL
open PySem PySem.Spec PyProof.Rows L2
section
variable {ι : Type} {X : ι → Cx} {K : Fg} {W : Ctl} {pos : Pos}
/-- {} -/
theorem de_dict0 : DE X K W 0 (.Dict [] [] pos) (wC (.dic [] [])) := by
  refine ⟨tDNewK, fun i => pe_dnewK, fun P av H0 ed hw n H σ G Qd L h Q q p hp => ?_⟩
  exact q _ _ _ h (L.new hp) (.new hp) (.dic (xs := []) ⟨upd_same, fun z => L.avoNe z hp⟩ rfl .nil)
end
end DL

namespace DL
open PySem PySem.Spec PyProof.Rows L2
/-! ### what may be shown: its weight and its depth -/
structure Gd (d : PyData) (wt dp : Nat) : Prop where
  sh : d.showable = true
  nd : d.hasDict = false
  dp : d.depth ≤ dp
  lv : d.leavesShort 13 = true
  wt : d.weight ≤ wt
structure Gds (ds : List PyData) (wt dp : Nat) : Prop where
  sh : PyData.showableAll ds = true
  nd : PyData.hasDictAll ds = false
  dp : PyData.depthAll ds ≤ dp
  lv : PyData.leavesShortAll 13 ds = true
  wt : PyData.weightAll ds ≤ wt
section
variable {wt wt2 dp dp2 : Nat}
theorem Gd.non : Gd .none 0 0 := ⟨rfl, rfl, Nat.le_refl _, rfl, Nat.le_refl _⟩
theorem Gd.bl (b : Bool) : Gd (.bool b) 0 0 := ⟨rfl, rfl, Nat.le_refl _, rfl, Nat.le_refl _⟩
theorem Gd.str {x : Str} (h : ∀ c ∈ x.cps.toList, c < 128) : Gd (.str x) x.cps.size 0 := by
  refine ⟨by rw [PyData.showable], by rw [PyData.hasDict], by rw [PyData.depth]; exact Nat.le_refl _, ?_, by rw [PyData.weight]; exact Nat.le_refl _⟩
  rw [PyData.leavesShort, List.all_eq_true]
  intro c hc
  have := h c hc
  exact decide_eq_true (by omega)
theorem small_ints : ∀ i, i < 64 → ((PyData.int (i : Nat)).showable && (PyData.int (i : Nat)).leavesShort 13 && decide ((PyData.int (i : Nat)).weight ≤ 6)) = true := by decide +kernel
theorem Gd.int {i : Nat} (h : i < 64) : Gd (.int (i : Nat)) 6 0 := by
  have z := small_ints i h
  rw [Bool.and_eq_true, Bool.and_eq_true] at z
  exact ⟨z.1.1, by rw [PyData.hasDict], by rw [PyData.depth]; exact Nat.le_refl _, z.1.2, of_decide_eq_true z.2⟩
theorem Gd.mono {d : PyData} (g : Gd d wt dp) (h : wt ≤ wt2) (k : dp ≤ dp2) : Gd d wt2 dp2 := ⟨g.sh, g.nd, Nat.le_trans g.dp k, g.lv, Nat.le_trans g.wt h⟩
theorem Gds.of : ∀ {ds : List PyData}, (∀ d ∈ ds, Gd d wt dp) → Gds ds ((wt + 1) * ds.length) dp
  | [], _ => ⟨by rw [PyData.showableAll], by rw [PyData.hasDictAll], by rw [PyData.depthAll]; exact Nat.zero_le _, by rw [PyData.leavesShortAll], by rw [PyData.weightAll]; exact Nat.zero_le _⟩
  | d :: ds, h => by
    have a := h d List.mem_cons_self
    have b := Gds.of (ds := ds) fun x hx => h x (List.mem_cons_of_mem _ hx)
    refine ⟨by rw [PyData.showableAll, a.sh, b.sh]; rfl, by rw [PyData.hasDictAll, a.nd, b.nd]; rfl, by rw [PyData.depthAll]; exact Nat.max_le.mpr ⟨a.dp, b.dp⟩, by rw [PyData.leavesShortAll, a.lv, b.lv]; rfl, ?_⟩
    rw [PyData.weightAll, List.length_cons, Nat.mul_succ]
    have := a.wt
    have := b.wt
    omega
theorem Gds.two {x : PyData} {w1 d1 : Nat} (a : Gd x w1 d1) {ys : List PyData} {w2 d2 : Nat} (b : Gds ys w2 d2) : Gds (x :: ys) (w1 + 1 + w2) (max d1 d2) := by
  refine ⟨by rw [PyData.showableAll, a.sh, b.sh]; rfl, by rw [PyData.hasDictAll, a.nd, b.nd]; rfl, ?_, by rw [PyData.leavesShortAll, a.lv, b.lv]; rfl, ?_⟩
  · rw [PyData.depthAll]
    exact Nat.max_le.mpr ⟨Nat.le_trans a.dp (Nat.le_max_left _ _), Nat.le_trans b.dp (Nat.le_max_right _ _)⟩
  · rw [PyData.weightAll]
    have := a.wt
    have := b.wt
    omega
theorem Gds.nil : Gds [] 0 0 := ⟨by rw [PyData.showableAll], by rw [PyData.hasDictAll], by rw [PyData.depthAll]; exact Nat.le_refl _, by rw [PyData.leavesShortAll], by rw [PyData.weightAll]; exact Nat.le_refl _⟩
theorem Gds.lst {ds : List PyData} (g : Gds ds wt dp) : Gd (.list ds) wt (dp + 1) := ⟨by rw [PyData.showable]; exact g.sh, by rw [PyData.hasDict]; exact g.nd, by rw [PyData.depth]; have := g.dp; omega, by rw [PyData.leavesShort]; exact g.lv, by rw [PyData.weight]; exact g.wt⟩
theorem Gds.tup {ds : List PyData} (g : Gds ds wt dp) : Gd (.tuple ds) wt (dp + 1) := ⟨by rw [PyData.showable]; exact g.sh, by rw [PyData.hasDict]; exact g.nd, by rw [PyData.depth]; have := g.dp; omega, by rw [PyData.leavesShort]; exact g.lv, by rw [PyData.weight]; exact g.wt⟩
theorem fRepr_of {d : D} {p : PyData} (hp : pyD d = some p) (g : Gd p wt dp) (hw : wt ≤ 1048576) (hd : dp ≤ 60) {Q : D → Prop} (hq : Q (.str p.shown)) : fRepr [d] Q := by
  show onO (pyD d) _
  rw [hp]
  exact ⟨g.sh, g.nd, Nat.le_trans g.dp hd, PyData.shown_fits (B := 13) (by decide) (by decide) g.lv (Nat.le_trans g.wt hw), hq⟩
end
end DL

namespace T
open PySem PySem.Spec PyProof.Rows L2 DL
def topS (i : Nat) : Stmt := PySem.Challenge.pw_tearwords_k32_words_of_machines.main.body.getD i (.Pass ⟨0, 0, 0, 0⟩)
local macro_rules | `(tactic| walk_at "rd") => `(tactic| simp only [startG, wSq, wIfS, wOr, wAnd, wNot, wB, wCb, wCbF, wCons, wNil, wRd, wC, wVar, wRet, wPass, wChain, wCall, wSet, wSetO, wDrop, wF, wLc, wSeq, wTt, wRng1, wRng2, int1, int2, w2, w2F, wIf, wAndV, wOrV, wNotV, wTru, truD, wAsgT, gT, gsC, gsN, gN, wRaise, wRaise1,
  dEnds, fIsi, fI0, fI, fLt, fIx, fIn, eqA, fIsN, isN, fLen, fAll, fAddA, sign1, flatD, itemsD, vaS, rdS, owS, onB, onI, onS, onO, frzG, inG, wipeG, unO, List.getElem?_cons_zero, List.getElem?_cons_succ, List.set_cons_zero, List.set_cons_succ, List.map_cons, List.map_nil, List.length_cons, List.length_nil, List.cons_append, List.nil_append, List.replicate_succ, List.replicate_zero,
  Nat.reduceSub, Nat.reduceAdd, fork_tt, fork_ff, id, Bool.not_true, Bool.not_false, true_and, and_true, true_or, isi_non_bool, isi_non_int, isi_non_str, isi_non_tuple, isi_bl_bool, isi_bl_int, isi_bl_str, isi_bl_tuple, isi_int_bool, isi_int_int, isi_int_str, isi_int_tuple, isi_str_bool, isi_str_int, isi_str_str, isi_str_tuple, isi_tup_bool, isi_tup_int, isi_tup_str, isi_tup_tuple, isi_lst_bool, isi_lst_int, isi_lst_str, isi_lst_tuple, isi_dic_bool, isi_dic_int, isi_dic_str, isi_dic_tuple])
section
variable {P : Program} {w : World} {K : Fg} {mg : Str → Option Value} {base : Heap}
abbrev gc_MOST_LETTERS : D := .int 3
abbrev gc_MOST_SIGNS : D := .int 200
abbrev gc_MOST_STATES : D := .int 6
abbrev gc_MOST_TOLD : D := .int 40
abbrev gc_SMALL_LETTERS : D := .str "abcdefghijklmnopqrstuvwxyz"

/-! ### data of the kinds that callers pass -/
inductive Pl : D → Prop
  | non : Pl .non
  | bl (b) : Pl (.bl b)
  | int (i) : Pl (.int i)
  | str (s : Str) : s.length ≤ 100000 → Pl (.str s)
  | lst (xs : List D) : xs.length ≤ 100000 → (∀ d ∈ xs, Pl d) → Pl (.lst xs)
  | tup (xs : List D) : xs.length ≤ 100000 → (∀ d ∈ xs, Pl d) → Pl (.tup xs)
  | dic (ks : List Key) (xs : List D) : Pl (.dic ks xs)
theorem small_line {n : Nat} (h : n ≤ 100000) : n ≤ sizeLine := by rw [sizeLine_eq]; omega
theorem small_lt {n : Nat} (h : n ≤ 100000) : n < sizeLine := by rw [sizeLine_eq]; omega
theorem chars_len (s : Str) : (chars s).length = s.length := by unfold chars; rw [List.length_map]; rfl
theorem all_map {α : Type} (f : α → Bool) (xs : List α) : (xs.map f).all id = xs.all f := by rw [List.all_map]; rfl
theorem any_map {α : Type} (f : α → Bool) (xs : List α) : (xs.map f).any id = xs.any f := by rw [List.any_map]; rfl
/-! ### is_whole -/
def isWhole : D → Int → Int → Bool
  | .int i, lo, hi => decide (lo ≤ i) && decide (i ≤ hi)
  | _, _, _ => false
def wf_is_whole : WF := fun ds ed Q => ∃ d lo hi, ds = [d, .int lo, .int hi] ∧ Pl d ∧ Q (.bl (isWhole d lo hi))
theorem len_is_whole {ds : List D} {ed : Value → Prop} {Q : D → Prop} (h : wf_is_whole ds ed Q) : ds.length = 3 := by
  obtain ⟨d, lo, hi, rfl, _⟩ := h
  rfl
abbrev N_is_whole : List Str := ["thing", "low", "high"]
theorem sc_is_whole : FnScope N_is_whole ["thing", "low", "high"] (defScope (topS 8)) := ⟨rfl, rfl, rfl, by decide +kernel, rfl, by decide +kernel, by decide +kernel⟩
theorem ok_is_whole {f : Addr} {fd : FuncData}  (B : Bl mg)     (F : Fun K "is_whole" "is_whole" (topS 8) f fd) (g : mg "is_whole" = some (.ref f)) (b : Binds K fd ["thing", "low", "high"] []) : DFn P w K mg base "is_whole" 1 3 (wf_is_whole) := by
  exact dfn_of (N := N_is_whole) F sc_is_whole g b rfl (fun ds ed Q h => len_is_whole h) (fun cdv A outer s H E hr =>
    (dss_cons (ds_if (DW.dt (dw_or (dt_val (de_isi (fun _ => rfl) (fun _ => B.isi) (db_cons (dr_pv (fun _ => pv 0)) (db_cons (DE.r (de_ty (fun _ => B.bool) bt_bool)) db_nil)))) (dw_or1 (dt_not (dt_val (de_isi (fun _ => rfl) (fun _ => B.isi) (db_cons (dr_pv (fun _ => pv 0)) (db_cons (DE.r (de_ty (fun _ => B.int) bt_int)) db_nil)))))))) (dss_one (ds_ret de_bl)) dss_nil)
    (dss_one (ds_ret (DX.de (dx_lele (dr_pv (fun _ => pv 1)) (dr_pv (fun _ => pv 0)) (dr_pv (fun _ => pv 2))))))))
    (fun ds ed Q h => by
      obtain ⟨d, lo, hi, rfl, hm, hq⟩ := h
      unfold N_is_whole
      cases hm with
      | int i =>
        walk_at "rd"
        by_cases h1 : lo ≤ i
        · simp only [h1, decide_true, fork_tt]
          simpa [isWhole, h1] using hq
        · simp only [h1, decide_false, fork_ff]
          simpa [isWhole, h1] using hq
      | _ => walk_at "rd"; exact hq)

/-! ### is_text -/
def isText (d : D) (sg : Str) (most : Int) : Bool := match d with
  | .str s => !decide (most < (s.length : Int)) && s.cps.toList.all fun c => decide (c ∈ sg.cps.toList)
  | _ => false
def wf_is_text : WF := fun ds ed Q => ∃ d sg most, ds = [d, .str sg, .int most] ∧ Pl d ∧ Q (.bl (isText d sg most))
theorem len_is_text {ds : List D} {ed : Value → Prop} {Q : D → Prop} (h : wf_is_text ds ed Q) : ds.length = 3 := by
  obtain ⟨d, lo, hi, rfl, _⟩ := h
  rfl
abbrev N_is_text : List Str := ["thing", "signs", "most", "sign"]
theorem sc_is_text : FnScope N_is_text ["thing", "signs", "most"] (defScope (topS 9)) := ⟨rfl, rfl, rfl, by decide +kernel, rfl, by decide +kernel, by decide +kernel⟩
theorem ok_is_text {f : Addr} {fd : FuncData}  (B : Bl mg)     (F : Fun K "is_text" "is_text" (topS 9) f fd) (g : mg "is_text" = some (.ref f)) (b : Binds K fd ["thing", "signs", "most"] []) : DFn P w K mg base "is_text" 1 3 (wf_is_text) := by
  exact dfn_of (N := N_is_text) F sc_is_text g b rfl (fun ds ed Q h => len_is_text h) (fun cdv A outer s H E hr =>
    (dss_cons (ds_if (DW.dt (dw_or (dt_not (dt_val (de_isi (fun _ => rfl) (fun _ => B.isi) (db_cons (dr_pv (fun _ => pv 0)) (db_cons (DE.r (de_ty (fun _ => B.str) bt_str)) db_nil))))) (dw_or1 (DX.dt (dx_gt (DE.r (de_len (fun _ => rfl) (fun _ => B.len) (db_cons (dr_pv (fun _ => pv 0)) db_nil))) (dr_pv (fun _ => pv 2))))))) (dss_one (ds_ret de_bl)) dss_nil)
    (dss_one (ds_ret (de_all (fun _ => rfl) (fun _ => rfl) (fun _ => B.all) (db_cons (DE.r (DF.de (df_lc (own := [("sign", 3)]) (fun _ => rfl) (fun _ => sc_is_text.nd) (di_seq (fun _ => rfl) (de_pv (fun _ => pv 0))) (dg_pg (fun _ => pg_name (i := 3) sc_is_text.nd rfl (by first | exact Or.inl rfl | exact Or.inr rfl))) (DX.de (dx_in (fun _ => rfl) (dr_pv (fun _ => pv 3)) (dr_pv (fun _ => pv 1)))) (fun _ => blkOk_by (N := N_is_text) (sc := defScope (topS 9)) (by decide +kernel))))) db_nil))))))
    (fun ds ed Q h => by
      obtain ⟨d, sg, most, rfl, hm, hq⟩ := h
      unfold N_is_text
      cases hm with
      | str s hs =>
        walk_at "rd"
        refine ⟨small_line hs, ?_⟩
        by_cases h1 : most < (s.length : Int)
        · simp only [h1, decide_true, fork_tt]
          simpa [isText, h1] using hq
        · simp only [h1, decide_false, fork_ff]
          refine ⟨by rw [chars_len]; exact small_lt hs, ?_⟩
          refine compW_map (f := fun d => match sign1 d with | some c => .bl (decide (c ∈ sg.cps.toList)) | none => .non) (fun d hd R hR => ?_) ⟨s.cps.toList.map fun c => decide (c ∈ sg.cps.toList), ?_, ?_⟩
          · obtain ⟨c, _, rfl⟩ := List.mem_map.mp hd
            walk_at "rd"
            exact hR
          · rw [List.nil_append, chars, List.map_map, List.map_map]
            rfl
          · rw [all_map]
            simpa [isText, h1] using hq
      | _ => walk_at "rd"; exact hq)

/-! ### is_ascending -/
def ascL (xs : List Nat) : Bool := (List.range (xs.length - 1)).all fun i => decide (xs.getD i 0 < xs.getD (i + 1) 0)
def ascI (xs : List Int) : Bool := (List.range (xs.length - 1)).all fun i => decide (xs.getD i 0 < xs.getD (i + 1) 0)
def wf_is_ascending : WF := fun ds ed Q => (∃ s, ds = [.str s] ∧ s.length ≤ 100000 ∧ Q (.bl (ascL s.cps.toList))) ∨ ∃ ns : List Int, ds = [.tup (ns.map .int)] ∧ ns.length ≤ 100000 ∧ Q (.bl (ascI ns))
theorem len_is_ascending {ds : List D} {ed : Value → Prop} {Q : D → Prop} (h : wf_is_ascending ds ed Q) : ds.length = 1 := by
  rcases h with ⟨s, rfl, _⟩ | ⟨s, rfl, _⟩ <;> rfl
theorem toNat_pred (n : Nat) : ((n : Int) - 1).toNat = n - 1 := by omega
theorem rngD_mem {n : Nat} {d : D} (h : d ∈ rngD 0 n) : ∃ i, i < n ∧ d = .int (i : Nat) := by
  obtain ⟨i, hi, rfl⟩ := List.mem_map.mp h
  exact ⟨i, List.mem_range.mp hi, by simp⟩
theorem rngD_len (n : Nat) : (rngD 0 n).length = n := by unfold rngD; simp
theorem at_getD {α : Type} {xs : List α} {i : Nat} (z : α) (h : i < xs.length) : atI xs (i : Int) = some (xs.getD i z) := by
  refine atI_nat ?_
  rw [List.getElem?_eq_getElem h, List.getD_eq_getElem?_getD, List.getElem?_eq_getElem h]
  rfl
theorem at_getD1 {α : Type} {xs : List α} {i : Nat} (z : α) (h : i + 1 < xs.length) : atI xs ((i : Int) + 1) = some (xs.getD (i + 1) z) := at_getD (i := i + 1) z h
theorem lt_single (a b : Nat) : decide ([a] < [b]) = decide (a < b) := by
  refine decide_eq_decide.mpr ⟨fun h => ?_, fun h => .rel h⟩
  rw [List.cons_lt_cons_iff] at h
  rcases h with h | ⟨_, h⟩
  · exact h
  · exact absurd h (List.not_lt_nil _)
abbrev N_is_ascending : List Str := ["parts", "at"]
theorem sc_is_ascending : FnScope N_is_ascending ["parts"] (defScope (topS 10)) := ⟨rfl, rfl, rfl, by decide +kernel, rfl, by decide +kernel, by decide +kernel⟩
theorem ok_is_ascending {f : Addr} {fd : FuncData}  (B : Bl mg)     (F : Fun K "is_ascending" "is_ascending" (topS 10) f fd) (g : mg "is_ascending" = some (.ref f)) (b : Binds K fd ["parts"] []) : DFn P w K mg base "is_ascending" 1 1 (wf_is_ascending) := by
  exact dfn_of (N := N_is_ascending) F sc_is_ascending g b rfl (fun ds ed Q h => len_is_ascending h) (fun cdv A outer s H E hr =>
    (dss_one (ds_ret (de_all (fun _ => rfl) (fun _ => rfl) (fun _ => B.all) (db_cons (DE.r (DF.de (df_lc (own := [("at", 1)]) (fun _ => rfl) (fun _ => sc_is_ascending.nd) (di_range1 (fun _ => B.range) (db_cons (DE.r (de_sub (DE.r (de_len (fun _ => rfl) (fun _ => B.len) (db_cons (dr_pv (fun _ => pv 0)) db_nil))) (DE.r de_int))) db_nil)) (dg_pg (fun _ => pg_name (i := 1) sc_is_ascending.nd rfl (by first | exact Or.inl rfl | exact Or.inr rfl))) (DX.de (dx_ltS (DE.r (de_ix (fun _ => rfl) (dr_pv (fun _ => pv 0)) (dr_pv (fun _ => pv 1)))) (DE.r (de_ix (fun _ => rfl) (dr_pv (fun _ => pv 0)) (DE.r (de_addA (dr_pv (fun _ => pv 1)) (DE.r de_int))))))) (fun _ => blkOk_by (N := N_is_ascending) (sc := defScope (topS 10)) (by decide +kernel))))) db_nil)))))
    (fun ds ed Q h => by
      unfold N_is_ascending
      rcases h with ⟨s, rfl, hs, hq⟩ | ⟨ns, rfl, hs, hq⟩
      · walk_at "rd"
        refine ⟨small_line hs, ?_⟩
        rw [toNat_pred]
        refine ⟨by omega, by omega, by rw [rngD_len]; exact small_lt (by omega), ?_⟩
        refine compW_map (f := fun d => match d with | .int i => .bl (decide (s.cps.toList.getD i.toNat 0 < s.cps.toList.getD (i.toNat + 1) 0)) | _ => .non) (fun d hd R hR => ?_) ⟨(List.range (s.length - 1)).map fun i => decide (s.cps.toList.getD i 0 < s.cps.toList.getD (i + 1) 0), ?_, ?_⟩
        · obtain ⟨i, hi, rfl⟩ := rngD_mem hd
          have hl : s.cps.toList.length = s.length := rfl
          walk_at "rd"
          refine ⟨small_line hs, ?_⟩
          rw [at_getD 0 (by omega)]
          walk_at "rd"
          refine ⟨small_line hs, ?_⟩
          rw [at_getD1 0 (by omega)]
          walk_at "rd"
          rw [lt_single]
          exact hR
        · rw [List.nil_append, rngD, List.map_map, List.map_map]
          refine congrArg (fun z => [D.lst z]) (List.map_congr_left fun i _ => ?_)
          show (match D.int (0 + (i : Nat)) with | .int i => D.bl (decide (s.cps.toList.getD i.toNat 0 < s.cps.toList.getD (i.toNat + 1) 0)) | _ => .non) = _
          simp
        · rw [all_map]
          exact hq
      · walk_at "rd"
        rw [List.length_map, toNat_pred]
        refine ⟨by omega, by omega, by rw [rngD_len]; exact small_lt (by omega), ?_⟩
        refine compW_map (f := fun d => match d with | .int i => .bl (decide (ns.getD i.toNat 0 < ns.getD (i.toNat + 1) 0)) | _ => .non) (fun d hd R hR => ?_) ⟨(List.range (ns.length - 1)).map fun i => decide (ns.getD i 0 < ns.getD (i + 1) 0), ?_, ?_⟩
        · obtain ⟨i, hi, rfl⟩ := rngD_mem hd
          have m1 : ∀ j, j < ns.length → (ns.map D.int).getD j .non = .int (ns.getD j 0) := fun j hj => by
            simp [List.getD_eq_getElem?_getD, List.getElem?_eq_getElem hj]
          walk_at "rd"
          rw [at_getD .non (by rw [List.length_map]; omega), m1 _ (by omega)]
          walk_at "rd"
          rw [at_getD1 .non (by rw [List.length_map]; omega), m1 _ (by omega)]
          walk_at "rd"
          exact hR
        · rw [List.nil_append, rngD, List.map_map, List.map_map]
          refine congrArg (fun z => [D.lst z]) (List.map_congr_left fun i _ => ?_)
          show (match D.int (0 + (i : Nat)) with | .int i => D.bl (decide (ns.getD i.toNat 0 < ns.getD (i.toNat + 1) 0)) | _ => .non) = _
          simp
        · rw [all_map]
          exact hq)

/-! ### need_word, need_count -/
def wf_need_word (cNoWord : Addr) : WF := fun ds ed Q => ∃ d sg, ds = [d, .str sg] ∧ Pl d ∧ sg.length ≤ 100000 ∧ (if isText d sg 200 = true then Q .non else ed (.ref cNoWord))
theorem len_need_word {cNoWord : Addr} {ds : List D} {ed : Value → Prop} {Q : D → Prop} (h : wf_need_word cNoWord ds ed Q) : ds.length = 2 := by
  obtain ⟨d, lo, rfl, _⟩ := h
  rfl
theorem str_app_len (a b : Str) : (a ++ b).length = a.length + b.length := by
  show (a.cps ++ b.cps).size = _
  rw [Array.size_append]
  rfl
abbrev N_need_word : List Str := ["word", "letters"]
theorem sc_need_word : FnScope N_need_word ["word", "letters"] (defScope (topS 11)) := ⟨rfl, rfl, rfl, by decide +kernel, rfl, by decide +kernel, by decide +kernel⟩
theorem ok_need_word {f : Addr} {fd : FuncData}  (B : Bl mg)  (C_MOST_SIGNS : GC mg "MOST_SIGNS" gc_MOST_SIGNS) {cNoWord : Addr} (X_NoWord : XFact K mg "NoWord" cNoWord) (F_is_text : DFn P w K mg base "is_text" 1 3 (wf_is_text)) (F : Fun K "need_word" "need_word" (topS 11) f fd) (g : mg "need_word" = some (.ref f)) (b : Binds K fd ["word", "letters"] []) : DFn P w K mg base "need_word" 2 2 (wf_need_word cNoWord) := by
  exact dfn_of (N := N_need_word) F sc_need_word g b rfl (fun ds ed Q h => len_need_word h) (fun cdv A outer s H E hr =>
    (dss_one (ds_if (dt_not (dt_val (de_call F_is_text (fun _ => ⟨rfl, rfl, rfl, rfl, rfl⟩) (fun _ => takes_of rfl rfl rfl rfl) (fun _ => hr) (da_cons (de_pv (fun _ => pv 0)) (da_cons (de_pv (fun _ => pv 1)) (da_cons (de_gc (fun _ => rfl) C_MOST_SIGNS) da_nil)))))) (dss_one (ds_raise1 (fun _ => rfl) (fun _ => rfl) X_NoWord (fun _ => rfl) (fun _ => takes_of rfl rfl rfl rfl) (de_fstr (dj_cons de_str (dj_cons (de_fmt (de_gc (fun _ => rfl) C_MOST_SIGNS)) (dj_cons de_str (dj_cons (de_fmt (de_pv (fun _ => pv 1))) dj_nil))))))) dss_nil)))
    (fun ds ed Q h => by
      obtain ⟨d, sg, rfl, hd, hsg, hq⟩ := h
      unfold N_need_word
      walk_at "rd"
      refine ⟨d, sg, 200, rfl, hd, ?_⟩
      by_cases hb : isText d sg 200 = true
      · rw [if_pos hb] at hq
        simp only [hb, Bool.not_true, fork_ff]
        exact hq
      · rw [if_neg hb] at hq
        have hb : isText d sg 200 = false := by simpa using hb
        simp only [hb, Bool.not_false, fork_tt]
        simp only [w1, wJs, jCons, jNil, fFmt, onS, wC, wVar, vaS, List.getElem?_cons_zero, List.getElem?_cons_succ, str_app_len]
        exact ⟨by decide +kernel, by decide +kernel, by decide +kernel, by decide +kernel, small_line hsg, Nat.le_trans (Nat.add_le_add_right (m := 1000) (by decide +kernel) _) (by rw [sizeLine_eq]; omega), hq⟩)

def wf_need_count (cNoCount : Addr) : WF := fun ds ed Q => ∃ d, ds = [d, .int 0, .int 40] ∧ Pl d ∧ (if isWhole d 0 40 = true then Q .non else ed (.ref cNoCount))
theorem len_need_count {cNoCount : Addr} {ds : List D} {ed : Value → Prop} {Q : D → Prop} (h : wf_need_count cNoCount ds ed Q) : ds.length = 3 := by
  obtain ⟨d, rfl, _⟩ := h
  rfl
abbrev N_need_count : List Str := ["count", "low", "high"]
theorem sc_need_count : FnScope N_need_count ["count", "low", "high"] (defScope (topS 12)) := ⟨rfl, rfl, rfl, by decide +kernel, rfl, by decide +kernel, by decide +kernel⟩
theorem ok_need_count {f : Addr} {fd : FuncData}  (B : Bl mg)   {cNoCount : Addr} (X_NoCount : XFact K mg "NoCount" cNoCount) (F_is_whole : DFn P w K mg base "is_whole" 1 3 (wf_is_whole)) (F : Fun K "need_count" "need_count" (topS 12) f fd) (g : mg "need_count" = some (.ref f)) (b : Binds K fd ["count", "low", "high"] []) : DFn P w K mg base "need_count" 2 3 (wf_need_count cNoCount) := by
  exact dfn_of (N := N_need_count) F sc_need_count g b rfl (fun ds ed Q h => len_need_count h) (fun cdv A outer s H E hr =>
    (dss_one (ds_if (dt_not (dt_val (de_call F_is_whole (fun _ => ⟨rfl, rfl, rfl, rfl, rfl⟩) (fun _ => takes_of rfl rfl rfl rfl) (fun _ => hr) (da_cons (de_pv (fun _ => pv 0)) (da_cons (de_pv (fun _ => pv 1)) (da_cons (de_pv (fun _ => pv 2)) da_nil)))))) (dss_one (ds_raise1 (fun _ => rfl) (fun _ => rfl) X_NoCount (fun _ => rfl) (fun _ => takes_of rfl rfl rfl rfl) (de_fstr (dj_cons de_str (dj_cons (de_fmt (de_pv (fun _ => pv 1))) (dj_cons de_str (dj_cons (de_fmt (de_pv (fun _ => pv 2))) (dj_cons de_str dj_nil)))))))) dss_nil)))
    (fun ds ed Q h => by
      obtain ⟨d, rfl, hd, hq⟩ := h
      unfold N_need_count
      walk_at "rd"
      refine ⟨d, 0, 40, rfl, hd, ?_⟩
      by_cases hb : isWhole d 0 40 = true
      · rw [if_pos hb] at hq
        simp only [hb, Bool.not_true, fork_ff]
        exact hq
      · rw [if_neg hb] at hq
        have hb : isWhole d 0 40 = false := by simpa using hb
        simp only [hb, Bool.not_false, fork_tt]
        simp only [w1, wJs, jCons, jNil, fFmt, onS, wC, wVar, vaS, List.getElem?_cons_zero, List.getElem?_cons_succ, str_app_len]
        exact ⟨by decide +kernel, by decide +kernel, by decide +kernel, by decide +kernel, by decide +kernel, by decide +kernel, by decide +kernel, hq⟩)

/-! ### _are_letters .. is_machine -/
def areLetters (d : D) : Bool := isText d "abcdefghijklmnopqrstuvwxyz" 3 && match d with
  | .str s => decide (0 < (s.length : Int)) && ascL s.cps.toList
  | _ => false
def wf__are_letters : WF := fun ds ed Q => ∃ d, ds = [d] ∧ Pl d ∧ Q (.bl (areLetters d))
theorem len__are_letters {ds : List D} {ed : Value → Prop} {Q : D → Prop} (h : wf__are_letters ds ed Q) : ds.length = 1 := by
  obtain ⟨d, rfl, _⟩ := h
  rfl
abbrev N__are_letters : List Str := ["thing"]
theorem sc__are_letters : FnScope N__are_letters ["thing"] (defScope (topS 18)) := ⟨rfl, rfl, rfl, by decide +kernel, rfl, by decide +kernel, by decide +kernel⟩
theorem ok__are_letters {f : Addr} {fd : FuncData}  (B : Bl mg)  (C_MOST_LETTERS : GC mg "MOST_LETTERS" gc_MOST_LETTERS) (C_SMALL_LETTERS : GC mg "SMALL_LETTERS" gc_SMALL_LETTERS)  (F_is_ascending : DFn P w K mg base "is_ascending" 1 1 (wf_is_ascending)) (F_is_text : DFn P w K mg base "is_text" 1 3 (wf_is_text)) (F : Fun K "_are_letters" "_are_letters" (topS 18) f fd) (g : mg "_are_letters" = some (.ref f)) (b : Binds K fd ["thing"] []) : DFn P w K mg base "_are_letters" 2 1 (wf__are_letters) := by
  exact dfn_of (N := N__are_letters) F sc__are_letters g b rfl (fun ds ed Q h => len__are_letters h) (fun cdv A outer s H E hr =>
    (dss_cons (ds_if (dt_not (dt_val (de_call F_is_text (fun _ => ⟨rfl, rfl, rfl, rfl, rfl⟩) (fun _ => takes_of rfl rfl rfl rfl) (fun _ => hr) (da_cons (de_pv (fun _ => pv 0)) (da_cons (de_gc (fun _ => rfl) C_SMALL_LETTERS) (da_cons (de_gc (fun _ => rfl) C_MOST_LETTERS) da_nil)))))) (dss_one (ds_ret de_bl)) dss_nil)
    (dss_one (ds_ret (de_and (DX.de (dx_gt (DE.r (de_len (fun _ => rfl) (fun _ => B.len) (db_cons (dr_pv (fun _ => pv 0)) db_nil))) (DE.r de_int))) (de_one (de_call F_is_ascending (fun _ => ⟨rfl, rfl, rfl, rfl, rfl⟩) (fun _ => takes_of rfl rfl rfl rfl) (fun _ => hr) (da_cons (de_pv (fun _ => pv 0)) da_nil))))))))
    (fun ds ed Q h => by
      obtain ⟨d, rfl, hd, hq⟩ := h
      unfold N__are_letters
      walk_at "rd"
      refine ⟨d, _, 3, rfl, hd, ?_⟩
      by_cases hb : isText d "abcdefghijklmnopqrstuvwxyz" 3 = true
      · simp only [hb, Bool.not_true, fork_ff]
        cases hd with
        | str s hs =>
          walk_at "rd"
          refine ⟨small_line hs, ?_⟩
          by_cases h0 : 0 < (s.length : Int)
          · simp only [h0, decide_true, fork_tt]
            refine .inl ⟨s, rfl, hs, ?_⟩
            simpa only [areLetters, hb, h0, decide_true, Bool.true_and] using hq
          · simp only [h0, decide_false, fork_ff]
            simpa only [areLetters, hb, h0, decide_false, Bool.true_and, Bool.false_and] using hq
        | _ => exact absurd hb (by simp [isText])
      · have hb : isText d "abcdefghijklmnopqrstuvwxyz" 3 = false := by simpa using hb
        simp only [hb, Bool.not_false, fork_tt]
        simpa [areLetters, hb] using hq)

def isGoal (d : D) (many : Int) : Bool := match d with
  | .non => true
  | d => isWhole d 0 (many - 1)
def isState (d : D) (width many : Int) : Bool := match d with
  | .tup xs => decide ((xs.length : Int) = width) && xs.all fun g => isGoal g many
  | _ => false
def wf__is_state : WF := fun ds ed Q => ∃ d width many, ds = [d, .int width, .int many] ∧ Pl d ∧ Q (.bl (isState d width many))
theorem len__is_state {ds : List D} {ed : Value → Prop} {Q : D → Prop} (h : wf__is_state ds ed Q) : ds.length = 3 := by
  obtain ⟨d, a, b, rfl, _⟩ := h
  rfl
abbrev N__is_state : List Str := ["thing", "width", "many", "goal"]
theorem sc__is_state : FnScope N__is_state ["thing", "width", "many"] (defScope (topS 20)) := ⟨rfl, rfl, rfl, by decide +kernel, rfl, by decide +kernel, by decide +kernel⟩
theorem ok__is_state {f : Addr} {fd : FuncData}  (B : Bl mg)    (F_is_whole : DFn P w K mg base "is_whole" 1 3 (wf_is_whole)) (F : Fun K "_is_state" "_is_state" (topS 20) f fd) (g : mg "_is_state" = some (.ref f)) (b : Binds K fd ["thing", "width", "many"] []) : DFn P w K mg base "_is_state" 2 3 (wf__is_state) := by
  exact dfn_of (N := N__is_state) F sc__is_state g b rfl (fun ds ed Q h => len__is_state h) (fun cdv A outer s H E hr =>
    (dss_cons (ds_if (DW.dt (dw_or (dt_not (dt_val (de_isi (fun _ => rfl) (fun _ => B.isi) (db_cons (dr_pv (fun _ => pv 0)) (db_cons (DE.r (de_ty (fun _ => B.tuple) bt_tuple)) db_nil))))) (dw_or1 (DX.dt (dx_ne (DE.r (de_len (fun _ => rfl) (fun _ => B.len) (db_cons (dr_pv (fun _ => pv 0)) db_nil))) (dr_pv (fun _ => pv 1))))))) (dss_one (ds_ret de_bl)) dss_nil)
    (dss_one (ds_ret (de_all (fun _ => rfl) (fun _ => rfl) (fun _ => B.all) (db_cons (DE.r (DF.de (df_lc (own := [("goal", 3)]) (fun _ => rfl) (fun _ => sc__is_state.nd) (di_seq (fun _ => rfl) (de_pv (fun _ => pv 0))) (dg_pg (fun _ => pg_name (i := 3) sc__is_state.nd rfl (by first | exact Or.inl rfl | exact Or.inr rfl))) (de_or (DX.de (dx_isN (dr_pv (fun _ => pv 3)) (DE.r de_non))) (de_one (de_call F_is_whole (fun _ => ⟨rfl, rfl, rfl, rfl, rfl⟩) (fun _ => takes0) (fun _ => hr) (da_cons (de_pv (fun _ => pv 3)) (da_cons de_int (da_cons (de_sub (dr_pv (fun _ => pv 2)) (DE.r de_int)) da_nil)))))) (fun _ => blkOk_by (N := N__is_state) (sc := defScope (topS 20)) (by decide +kernel))))) db_nil))))))
    (fun ds ed Q h => by
      obtain ⟨d, width, many, rfl, hd, hq⟩ := h
      unfold N__is_state
      cases hd with
      | tup xs hs hx =>
        walk_at "rd"
        by_cases h1 : (xs.length : Int) = width
        · simp only [h1, decide_true, Bool.not_true, fork_ff]
          refine ⟨small_lt hs, ?_⟩
          refine compW_map (f := fun d => .bl (isGoal d many)) (fun d hd R hR => ?_) ⟨xs.map fun d => isGoal d many, ?_, ?_⟩
          · have pd := hx d hd
            cases pd with
            | non => walk_at "rd"; exact hR
            | int i => walk_at "rd"; exact ⟨_, _, _, rfl, .int i, hR⟩
            | bl b => walk_at "rd"; exact ⟨_, _, _, rfl, .bl b, hR⟩
            | str s h => walk_at "rd"; exact ⟨_, _, _, rfl, .str s h, hR⟩
            | lst s h k => walk_at "rd"; exact ⟨_, _, _, rfl, .lst s h k, hR⟩
            | tup s h k => walk_at "rd"; exact ⟨_, _, _, rfl, .tup s h k, hR⟩
            | dic s h => walk_at "rd"; exact ⟨_, _, _, rfl, .dic s h, hR⟩
          · rw [List.nil_append, List.map_map]; rfl
          · rw [all_map]
            simpa [isState, h1] using hq
        · simp only [h1, decide_false, Bool.not_false, fork_tt]
          simpa [isState, h1] using hq
      | _ => walk_at "rd"; exact hq)

def areStates (d : D) (width : Int) : Bool := match d with
  | .tup xs => decide ((1 : Int) ≤ xs.length) && decide ((xs.length : Int) ≤ 6) && xs.all fun g => isState g width xs.length
  | _ => false
def wf__are_states : WF := fun ds ed Q => ∃ d width, ds = [d, .int width] ∧ Pl d ∧ Q (.bl (areStates d width))
theorem len__are_states {ds : List D} {ed : Value → Prop} {Q : D → Prop} (h : wf__are_states ds ed Q) : ds.length = 2 := by
  obtain ⟨d, a, rfl, _⟩ := h
  rfl
abbrev N__are_states : List Str := ["thing", "width", "state"]
theorem sc__are_states : FnScope N__are_states ["thing", "width"] (defScope (topS 19)) := ⟨rfl, rfl, rfl, by decide +kernel, rfl, by decide +kernel, by decide +kernel⟩
theorem ok__are_states {f : Addr} {fd : FuncData}  (B : Bl mg)  (C_MOST_STATES : GC mg "MOST_STATES" gc_MOST_STATES)  (F__is_state : DFn P w K mg base "_is_state" 2 3 (wf__is_state)) (F : Fun K "_are_states" "_are_states" (topS 19) f fd) (g : mg "_are_states" = some (.ref f)) (b : Binds K fd ["thing", "width"] []) : DFn P w K mg base "_are_states" 3 2 (wf__are_states) := by
  exact dfn_of (N := N__are_states) F sc__are_states g b rfl (fun ds ed Q h => len__are_states h) (fun cdv A outer s H E hr =>
    (dss_cons (ds_if (DW.dt (dw_or (dt_not (dt_val (de_isi (fun _ => rfl) (fun _ => B.isi) (db_cons (dr_pv (fun _ => pv 0)) (db_cons (DE.r (de_ty (fun _ => B.tuple) bt_tuple)) db_nil))))) (dw_or1 (dt_not (DX.dt (dx_lele (DE.r de_int) (DE.r (de_len (fun _ => rfl) (fun _ => B.len) (db_cons (dr_pv (fun _ => pv 0)) db_nil))) (DE.r (de_gc (fun _ => rfl) C_MOST_STATES)))))))) (dss_one (ds_ret de_bl)) dss_nil)
    (dss_one (ds_ret (de_all (fun _ => rfl) (fun _ => rfl) (fun _ => B.all) (db_cons (DE.r (DF.de (df_lc (own := [("state", 2)]) (fun _ => rfl) (fun _ => sc__are_states.nd) (di_seq (fun _ => rfl) (de_pv (fun _ => pv 0))) (dg_pg (fun _ => pg_name (i := 2) sc__are_states.nd rfl (by first | exact Or.inl rfl | exact Or.inr rfl))) (de_call F__is_state (fun _ => ⟨rfl, rfl, rfl, rfl, rfl⟩) (fun _ => takes0) (fun _ => hr) (da_cons (de_pv (fun _ => pv 2)) (da_cons (de_pv (fun _ => pv 1)) (da_cons (de_len (fun _ => rfl) (fun _ => B.len) (db_cons (dr_pv (fun _ => pv 0)) db_nil)) da_nil)))) (fun _ => blkOk_by (N := N__are_states) (sc := defScope (topS 19)) (by decide +kernel))))) db_nil))))))
    (fun ds ed Q h => by
      obtain ⟨d, width, rfl, hd, hq⟩ := h
      unfold N__are_states
      cases hd with
      | tup xs hs hx =>
        walk_at "rd"
        by_cases h1 : (1 : Int) ≤ xs.length
        · simp only [h1, decide_true, fork_tt]
          by_cases h2 : (xs.length : Int) ≤ 6
          · simp only [h2, decide_true, Bool.not_true, fork_ff]
            refine ⟨small_lt hs, ?_⟩
            refine compW_map (f := fun d => .bl (isState d width xs.length)) (fun d hd R hR => ?_) ⟨xs.map fun d => isState d width xs.length, ?_, ?_⟩
            · walk_at "rd"
              exact ⟨_, _, _, rfl, hx d hd, hR⟩
            · rw [List.nil_append, List.map_map]; rfl
            · rw [all_map]
              simpa [areStates, h1, h2] using hq
          · simp only [h2, decide_false, Bool.not_false, fork_tt]
            simpa [areStates, h1, h2] using hq
        · simp only [h1, decide_false, fork_ff, Bool.not_false, fork_tt]
          simpa [areStates, h1] using hq
      | _ => walk_at "rd"; exact hq)

def intD : D → Int
  | .int i => i
  | _ => 0
def areEnds (d : D) (many : Int) : Bool := match d with
  | .tup xs => (xs.all fun g => isWhole g 0 (many - 1)) && ascI (xs.map intD)
  | _ => false
theorem whole_int {d : D} {a b : Int} (h : isWhole d a b = true) : d = .int (intD d) := by cases d <;> first | rfl | simp [isWhole] at h
theorem all_whole {xs : List D} {a b : Int} (h : (xs.all fun g => isWhole g a b) = true) : xs = (xs.map intD).map .int := by
  rw [List.map_map]
  refine Eq.symm ((List.map_congr_left fun d hd => ?_).trans (List.map_id _))
  exact (whole_int (List.all_eq_true.mp h d hd)).symm
def wf__are_ends : WF := fun ds ed Q => ∃ d many, ds = [d, .int many] ∧ Pl d ∧ Q (.bl (areEnds d many))
theorem len__are_ends {ds : List D} {ed : Value → Prop} {Q : D → Prop} (h : wf__are_ends ds ed Q) : ds.length = 2 := by
  obtain ⟨d, a, rfl, _⟩ := h
  rfl
abbrev N__are_ends : List Str := ["thing", "many", "end"]
theorem sc__are_ends : FnScope N__are_ends ["thing", "many"] (defScope (topS 21)) := ⟨rfl, rfl, rfl, by decide +kernel, rfl, by decide +kernel, by decide +kernel⟩
theorem ok__are_ends {f : Addr} {fd : FuncData}  (B : Bl mg)    (F_is_ascending : DFn P w K mg base "is_ascending" 1 1 (wf_is_ascending)) (F_is_whole : DFn P w K mg base "is_whole" 1 3 (wf_is_whole)) (F : Fun K "_are_ends" "_are_ends" (topS 21) f fd) (g : mg "_are_ends" = some (.ref f)) (b : Binds K fd ["thing", "many"] []) : DFn P w K mg base "_are_ends" 2 2 (wf__are_ends) := by
  exact dfn_of (N := N__are_ends) F sc__are_ends g b rfl (fun ds ed Q h => len__are_ends h) (fun cdv A outer s H E hr =>
    (dss_cons (ds_if (dt_not (dt_val (de_isi (fun _ => rfl) (fun _ => B.isi) (db_cons (dr_pv (fun _ => pv 0)) (db_cons (DE.r (de_ty (fun _ => B.tuple) bt_tuple)) db_nil))))) (dss_one (ds_ret de_bl)) dss_nil)
    (dss_one (ds_ret (de_and (de_all (fun _ => rfl) (fun _ => rfl) (fun _ => B.all) (db_cons (DE.r (DF.de (df_lc (own := [("end", 2)]) (fun _ => rfl) (fun _ => sc__are_ends.nd) (di_seq (fun _ => rfl) (de_pv (fun _ => pv 0))) (dg_pg (fun _ => pg_name (i := 2) sc__are_ends.nd rfl (by first | exact Or.inl rfl | exact Or.inr rfl))) (de_call F_is_whole (fun _ => ⟨rfl, rfl, rfl, rfl, rfl⟩) (fun _ => takes0) (fun _ => hr) (da_cons (de_pv (fun _ => pv 2)) (da_cons de_int (da_cons (de_sub (dr_pv (fun _ => pv 1)) (DE.r de_int)) da_nil)))) (fun _ => blkOk_by (N := N__are_ends) (sc := defScope (topS 21)) (by decide +kernel))))) db_nil)) (de_one (de_call F_is_ascending (fun _ => ⟨rfl, rfl, rfl, rfl, rfl⟩) (fun _ => takes_of rfl rfl rfl rfl) (fun _ => hr) (da_cons (de_pv (fun _ => pv 0)) da_nil))))))))
    (fun ds ed Q h => by
      obtain ⟨d, many, rfl, hd, hq⟩ := h
      unfold N__are_ends
      cases hd with
      | tup xs hs hx =>
        walk_at "rd"
        refine ⟨small_lt hs, ?_⟩
        refine compW_map (f := fun d => .bl (isWhole d 0 (many - 1))) (fun d hd R hR => ?_) ⟨xs.map fun d => isWhole d 0 (many - 1), ?_, ?_⟩
        · walk_at "rd"
          exact ⟨_, _, _, rfl, hx d hd, hR⟩
        · rw [List.nil_append, List.map_map]; rfl
        · simp only [all_map]
          by_cases hb : (xs.all fun g => isWhole g 0 (many - 1)) = true
          · rw [hb, fork_tt]
            refine .inr ⟨xs.map intD, by rw [← all_whole hb], by rw [List.length_map]; exact hs, ?_⟩
            simpa only [areEnds, hb, Bool.true_and] using hq
          · have hb : (xs.all fun g => isWhole g 0 (many - 1)) = false := by simpa only [Bool.not_eq_true] using hb
            rw [hb, fork_ff]
            simpa only [areEnds, hb, Bool.false_and] using hq
      | _ => walk_at "rd"; exact hq)

def lenO : D → Int
  | .str s => s.length
  | .tup xs => xs.length
  | _ => 0
def isMachine (d : D) : Bool := match d with
  | .tup [l, s, e] => areLetters l && (areStates s (lenO l) && areEnds e (lenO s))
  | _ => false
def wf_is_machine : WF := fun ds ed Q => ∃ d, ds = [d] ∧ Pl d ∧ Q (.bl (isMachine d))
theorem len_is_machine {ds : List D} {ed : Value → Prop} {Q : D → Prop} (h : wf_is_machine ds ed Q) : ds.length = 1 := by
  obtain ⟨d, rfl, _⟩ := h
  rfl
abbrev N_is_machine : List Str := ["thing", "letters", "states", "ends"]
theorem sc_is_machine : FnScope N_is_machine ["thing"] (defScope (topS 17)) := ⟨rfl, rfl, rfl, by decide +kernel, rfl, by decide +kernel, by decide +kernel⟩
theorem ok_is_machine {f : Addr} {fd : FuncData}  (B : Bl mg)    (F__are_ends : DFn P w K mg base "_are_ends" 2 2 (wf__are_ends)) (F__are_letters : DFn P w K mg base "_are_letters" 2 1 (wf__are_letters)) (F__are_states : DFn P w K mg base "_are_states" 3 2 (wf__are_states)) (F : Fun K "is_machine" "is_machine" (topS 17) f fd) (g : mg "is_machine" = some (.ref f)) (b : Binds K fd ["thing"] []) : DFn P w K mg base "is_machine" 4 1 (wf_is_machine) := by
  exact dfn_of (N := N_is_machine) F sc_is_machine g b rfl (fun ds ed Q h => len_is_machine h) (fun cdv A outer s H E hr =>
    (dss_cons (ds_if (DW.dt (dw_or (dt_not (dt_val (de_isi (fun _ => rfl) (fun _ => B.isi) (db_cons (dr_pv (fun _ => pv 0)) (db_cons (DE.r (de_ty (fun _ => B.tuple) bt_tuple)) db_nil))))) (dw_or1 (DX.dt (dx_ne (DE.r (de_len (fun _ => rfl) (fun _ => B.len) (db_cons (dr_pv (fun _ => pv 0)) db_nil))) (DE.r de_int)))))) (dss_one (ds_ret de_bl)) dss_nil)
    (dss_cons (ds_asgT (de_pv (fun _ => pv 0)) (dg_tup (n := 3) (fun _ => rfl) (fun _ => rfl) (dgs_cons (dg_pg (fun _ => pg_name (i := 1) sc_is_machine.nd rfl (.inl rfl))) (dgs_cons (dg_pg (fun _ => pg_name (i := 2) sc_is_machine.nd rfl (.inl rfl))) (dgs_cons (dg_pg (fun _ => pg_name (i := 3) sc_is_machine.nd rfl (.inl rfl))) dgs_nil)))))
    (dss_cons (ds_if (dt_not (dt_val (de_call F__are_letters (fun _ => ⟨rfl, rfl, rfl, rfl, rfl⟩) (fun _ => takes_of rfl rfl rfl rfl) (fun _ => hr) (da_cons (de_pv (fun _ => pv 1)) da_nil)))) (dss_one (ds_ret de_bl)) dss_nil)
    (dss_one (ds_ret (de_and (de_call F__are_states (fun _ => ⟨rfl, rfl, rfl, rfl, rfl⟩) (fun _ => takes_of rfl rfl rfl rfl) (fun _ => hr) (da_cons (de_pv (fun _ => pv 2)) (da_cons (de_len (fun _ => rfl) (fun _ => B.len) (db_cons (dr_pv (fun _ => pv 1)) db_nil)) da_nil))) (de_one (de_call F__are_ends (fun _ => ⟨rfl, rfl, rfl, rfl, rfl⟩) (fun _ => takes_of rfl rfl rfl rfl) (fun _ => hr) (da_cons (de_pv (fun _ => pv 3)) (da_cons (de_len (fun _ => rfl) (fun _ => B.len) (db_cons (dr_pv (fun _ => pv 2)) db_nil)) da_nil)))))))))))
    (fun ds ed Q h => by
      obtain ⟨d, rfl, hd, hq⟩ := h
      unfold N_is_machine
      cases hd with
      | tup xs hs hx =>
        walk_at "rd"
        match xs, hs, hx, hq with
        | [l, s, e], hs, hx, hq =>
          have pl := hx l (by simp)
          have ps := hx s (by simp)
          have pe := hx e (by simp)
          refine fork_f rfl ⟨rfl, rfl, ?_⟩
          refine ⟨l, rfl, pl, ?_⟩
          by_cases hb : areLetters l = true
          · simp only [hb, Bool.not_true, fork_ff]
            cases pl with
            | str z hz =>
              walk_at "rd"
              refine ⟨small_line hz, ?_⟩
              refine ⟨s, _, rfl, ps, ?_⟩
              by_cases hb2 : areStates s z.length = true
              · rw [hb2]
                walk_at "rd"
                cases ps with
                | tup ys h1 h2 =>
                  walk_at "rd"
                  refine ⟨e, _, rfl, pe, ?_⟩
                  simpa only [isMachine, hb, lenO, hb2, Bool.true_and] using hq
                | _ => exact absurd hb2 (by simp [areStates])
              · have hb2 : areStates s z.length = false := by simpa using hb2
                rw [hb2]
                walk_at "rd"
                simpa only [isMachine, hb, lenO, hb2, Bool.true_and, Bool.false_and] using hq
            | _ => exact absurd hb (by simp [areLetters])
          · have hb : areLetters l = false := by simpa using hb
            simp only [hb, Bool.not_false, fork_tt]
            simpa only [isMachine, hb, Bool.false_and] using hq
        | [], _, _, hq => exact fork_t (by simp) (by simpa [isMachine] using hq)
        | [_], _, _, hq => exact fork_t (by simp) (by simpa [isMachine] using hq)
        | [_, _], _, _, hq => exact fork_t (by simp) (by simpa [isMachine] using hq)
        | _ :: _ :: _ :: _ :: r, _, _, hq =>
          have e : ((r.length + 1 + 1 + 1 + 1 : Nat) : Int) ≠ 3 := by omega
          simp only [List.length_cons, e, decide_false, Bool.not_false, fork_tt]
          simpa [isMachine] using hq
      | _ => walk_at "rd"; exact hq)

def wf_need_machine (cNoMachine : Addr) : WF := fun ds ed Q => ∃ d, ds = [d] ∧ Pl d ∧ (if isMachine d = true then Q .non else ed (.ref cNoMachine))
theorem len_need_machine {cNoMachine : Addr} {ds : List D} {ed : Value → Prop} {Q : D → Prop} (h : wf_need_machine cNoMachine ds ed Q) : ds.length = 1 := by
  obtain ⟨d, rfl, _⟩ := h
  rfl
abbrev N_need_machine : List Str := ["machine"]
theorem sc_need_machine : FnScope N_need_machine ["machine"] (defScope (topS 22)) := ⟨rfl, rfl, rfl, by decide +kernel, rfl, by decide +kernel, by decide +kernel⟩
theorem ok_need_machine {f : Addr} {fd : FuncData}  (B : Bl mg)   {cNoMachine : Addr} (X_NoMachine : XFact K mg "NoMachine" cNoMachine) (F_is_machine : DFn P w K mg base "is_machine" 4 1 (wf_is_machine)) (F : Fun K "need_machine" "need_machine" (topS 22) f fd) (g : mg "need_machine" = some (.ref f)) (b : Binds K fd ["machine"] []) : DFn P w K mg base "need_machine" 5 1 (wf_need_machine cNoMachine) := by
  exact dfn_of (N := N_need_machine) F sc_need_machine g b rfl (fun ds ed Q h => len_need_machine h) (fun cdv A outer s H E hr =>
    (dss_one (ds_if (dt_not (dt_val (de_call F_is_machine (fun _ => ⟨rfl, rfl, rfl, rfl, rfl⟩) (fun _ => takes_of rfl rfl rfl rfl) (fun _ => hr) (da_cons (de_pv (fun _ => pv 0)) da_nil)))) (dss_one (ds_raise (fun _ => rfl) (fun _ => rfl) X_NoMachine (fun _ => rfl) (fun _ => takes_of rfl rfl rfl rfl))) dss_nil)))
    (fun ds ed Q h => by
      obtain ⟨d, rfl, hd, hq⟩ := h
      unfold N_need_machine
      walk_at "rd"
      refine ⟨d, rfl, hd, ?_⟩
      by_cases hb : isMachine d = true
      · rw [if_pos hb] at hq
        simp only [hb, Bool.not_true, fork_ff]
        exact hq
      · rw [if_neg hb] at hq
        have hb : isMachine d = false := by simpa using hb
        simp only [hb, Bool.not_false, fork_tt]
        exact hq)

end
end T

namespace T
open PySem PySem.Spec PyProof.Rows L2 DL
section
variable {P : Program} {w : World} {K : Fg} {mg : Str → Option Value} {base : Heap}
theorem onO_i {α : Type} {o : Option α} {a : α} {Q : α → Prop} (e : o = some a) (h : Q a) : onO o Q := by rw [e]; exact h
/-! ### the place of a sign in a text -/
theorem occ_done {x y : Str} {hi : Nat} {p : Nat} : ∀ (l : List Nat) (k : Nat), (forIn (m := Id) l ((#[p] : Array Nat), k) (StrLaws.occBody x y hi 1)).run.fst = #[p]
  | [], _ => rfl
  | i :: r, k => by
    have hn : ¬ ((((#[p] : Array Nat).size < 1 ∧ k ≤ i) ∧ i + y.length ≤ hi) ∧ Builtin.Str.subAt x y i = true) := fun c => absurd c.1.1.1 (by simp)
    simp only [List.forIn_cons, StrLaws.occBody, if_neg hn]
    exact occ_done r k
theorem occ_go {x : Str} {c p : Nat} (hp : x.cps.toList[p]? = some c) (hb : ∀ j, j < p → x.cps.toList[j]? ≠ some c) : ∀ (n s : Nat), s ≤ p → p < s + n → (forIn (m := Id) (List.range' s n) ((#[] : Array Nat), 0) (StrLaws.occBody x ⟨#[c]⟩ x.length 1)).run.fst = #[p]
  | 0, s, h1, h2 => by omega
  | n + 1, s, h1, h2 => by
    have lp : p < x.length := (List.getElem?_eq_some_iff.mp hp).1
    have l1 : Str.length ⟨#[c]⟩ = 1 := rfl
    rw [List.range'_succ]
    by_cases e : s = p
    · subst e
      have hy : (((((#[] : Array Nat).size < 1) ∧ 0 ≤ s) ∧ s + Str.length ⟨#[c]⟩ ≤ x.length) ∧ Builtin.Str.subAt x ⟨#[c]⟩ s = true) := ⟨⟨⟨by simp, by omega⟩, by rw [l1]; omega⟩, ((StrLaws.subAt_one x c s).mpr hp).2⟩
      simp only [List.forIn_cons, StrLaws.occBody, if_pos hy]
      exact occ_done _ _
    · have hn : ¬ (((((#[] : Array Nat).size < 1) ∧ 0 ≤ s) ∧ s + Str.length ⟨#[c]⟩ ≤ x.length) ∧ Builtin.Str.subAt x ⟨#[c]⟩ s = true) := fun z => hb s (by omega) ((StrLaws.subAt_one x c s).mp ⟨z.1.2, z.2⟩)
      simp only [List.forIn_cons, StrLaws.occBody, if_neg hn]
      exact occ_go hp hb n (s + 1) (by omega) (by omega)
theorem idx_before {c : Nat} : ∀ {ls : List Nat} {j : Nat}, j < ls.idxOf c → ls[j]? ≠ some c
  | [], _, h => fun z => nomatch z
  | n :: r, 0, h => fun e => by
    cases e
    rw [List.idxOf_cons] at h
    simp at h
  | n :: r, j + 1, h => fun z => by
    rw [List.idxOf_cons] at h
    cases e : n == c with
    | true => rw [e] at h; exact nomatch h
    | false =>
      rw [e] at h
      exact idx_before (ls := r) (j := j) (Nat.lt_of_succ_lt_succ h) z
theorem index_one {ls : List Nat} {c : Nat} (h : c ∈ ls) : Txt.index0 ⟨ls.toArray⟩ ⟨#[c]⟩ = some (ls.idxOf c) := by
  have hl : ls.idxOf c < ls.length := List.idxOf_lt_length_iff.mpr h
  have e : (Builtin.Str.occurrences ⟨ls.toArray⟩ ⟨#[c]⟩ 0 (Str.length ⟨ls.toArray⟩) 1) = [ls.idxOf c] := by
    rw [StrLaws.occ_eq]
    refine congrArg Array.toList (occ_go (x := ⟨ls.toArray⟩) (p := ls.idxOf c) ?_ (fun j hj => ?_) _ 0 (Nat.zero_le _) ?_)
    · show ls[ls.idxOf c]? = some c
      rw [List.getElem?_eq_getElem hl, List.getElem_idxOf hl]
    · show ls[j]? ≠ some c
      exact idx_before hj
    · show ls.idxOf c < 0 + (ls.length + 1 - 0)
      omega
  unfold Txt.index0
  rw [e]
  rfl
/-! ### machines -/
abbrev txt (l : List Nat) : Str := ⟨l.toArray⟩
structure Mach where
  ls : List Nat
  rows : List (List (Option Nat))
  ends : List Nat
def goalD : Option Nat → D
  | none => .non
  | some k => .int (k : Nat)
def Mach.rowsD (M : Mach) : List D := M.rows.map fun r => .tup (r.map goalD)
def Mach.endsD (M : Mach) : List D := M.ends.map fun k => .int (k : Nat)
def Mach.d (M : Mach) : D := .tup [.str (txt M.ls), .tup M.rowsD, .tup M.endsD]
structure Mach.Ok (M : Mach) : Prop where
  ls : areLetters (.str (txt M.ls)) = true
  l0 : M.ls ≠ []
  l3 : M.ls.length ≤ 3
  r0 : 0 < M.rows.length
  r6 : M.rows.length ≤ 6
  wid : ∀ r ∈ M.rows, r.length = M.ls.length
  goal : ∀ r ∈ M.rows, ∀ k, some k ∈ r → k < M.rows.length
  en : ∀ k ∈ M.ends, k < M.rows.length
  asc : ascI (M.ends.map fun k => Int.ofNat k) = true
  e6 : M.ends.length ≤ 6
def Mach.step (M : Mach) (s c : Nat) : Option Nat := (M.rows.getD s []).getD (M.ls.idxOf c) none
def Mach.run (M : Mach) : Option Nat → List Nat → Option Nat
  | s, [] => s
  | none, _ :: _ => none
  | some s, c :: r => M.run (M.step s c) r
def Mach.In (M : Mach) (s : Option Nat) : Prop := ∀ k, s = some k → k < M.rows.length
theorem Mach.Ok.row {M : Mach} (ok : M.Ok) {s : Nat} (h : s < M.rows.length) : ∃ r, r ∈ M.rows ∧ M.rows.getD s [] = r ∧ M.rows[s]? = some r := ⟨M.rows[s], List.getElem_mem h, by rw [List.getD_eq_getElem?_getD, List.getElem?_eq_getElem h]; rfl, List.getElem?_eq_getElem h⟩
theorem Mach.Ok.at {M : Mach} (ok : M.Ok) {s c : Nat} (h : s < M.rows.length) (hc : c ∈ M.ls) : ∃ r, r ∈ M.rows ∧ M.rows[s]? = some r ∧ r[M.ls.idxOf c]? = some (M.step s c) ∧ M.step s c ∈ r := by
  obtain ⟨r, h1, h2, h3⟩ := ok.row h
  have hl : M.ls.idxOf c < r.length := by rw [ok.wid r h1]; exact List.idxOf_lt_length_iff.mpr hc
  have e : M.step s c = r[M.ls.idxOf c] := by
    unfold Mach.step
    rw [h2, List.getD_eq_getElem?_getD, List.getElem?_eq_getElem hl]
    rfl
  exact ⟨r, h1, h3, by rw [List.getElem?_eq_getElem hl, e], by rw [e]; exact List.getElem_mem hl⟩
theorem Mach.Ok.inn {M : Mach} (ok : M.Ok) {s c : Nat} (h : s < M.rows.length) (hc : c ∈ M.ls) : M.In (M.step s c) := fun k e => by
  obtain ⟨r, h1, _, _, h4⟩ := ok.at h hc
  exact ok.goal r h1 k (e ▸ h4)
theorem Mach.run_none {M : Mach} : ∀ w, M.run none w = none
  | [] => rfl
  | _ :: _ => rfl
theorem Mach.Ok.run_in {M : Mach} (ok : M.Ok) : ∀ {s : Option Nat} {w : List Nat}, M.In s → (∀ c ∈ w, c ∈ M.ls) → M.In (M.run s w)
  | s, [], h, _ => by cases s <;> exact h
  | none, c :: r, h, _ => by rw [Mach.run_none]; exact h
  | some s, c :: r, h, hw => Mach.Ok.run_in (s := M.step s c) (w := r) ok (ok.inn (h s rfl) (hw c List.mem_cons_self)) fun c' hc => hw c' (List.mem_cons_of_mem _ hc)
theorem goal_pl : ∀ s : Option Nat, Pl (goalD s)
  | none => .non
  | some k => .int _
theorem Mach.Ok.pl {M : Mach} (ok : M.Ok) : Pl M.d := by
  have hl : M.ls.length ≤ 100000 := Nat.le_trans ok.l3 (by decide)
  refine .tup _ (by show 3 ≤ 100000; decide) fun d hd => ?_
  rcases List.mem_cons.mp hd with rfl | hd
  · exact .str _ hl
  rcases List.mem_cons.mp hd with rfl | hd
  · refine .tup _ (by rw [Mach.rowsD, List.length_map]; exact Nat.le_trans ok.r6 (by decide)) fun d hd => ?_
    obtain ⟨r, hr, rfl⟩ := List.mem_map.mp hd
    refine .tup _ (by rw [List.length_map, ok.wid r hr]; exact hl) fun d hd => ?_
    obtain ⟨s, _, rfl⟩ := List.mem_map.mp hd
    exact goal_pl s
  rcases List.mem_cons.mp hd with rfl | hd
  · refine .tup _ (by rw [Mach.endsD, List.length_map]; exact Nat.le_trans ok.e6 (by decide)) fun d hd => ?_
    obtain ⟨k, _, rfl⟩ := List.mem_map.mp hd
    exact .int _
  · exact nomatch hd
theorem whole_nat {k n : Nat} (h : k < n) : isWhole (.int (k : Nat)) 0 ((n : Int) - 1) = true := by
  have h1 : (0 : Int) ≤ (k : Nat) := Int.natCast_nonneg k
  have h2 : ((k : Nat) : Int) ≤ (n : Int) - 1 := by omega
  simp only [isWhole, h1, h2, decide_true, Bool.and_self]
theorem Mach.Ok.is {M : Mach} (ok : M.Ok) : isMachine M.d = true := by
  show (areLetters (.str (txt M.ls)) && (areStates (.tup M.rowsD) (M.ls.length : Int) && areEnds (.tup M.endsD) (M.rowsD.length : Int))) = true
  have hr : M.rowsD.length = M.rows.length := List.length_map ..
  rw [ok.ls, Bool.true_and, hr, Bool.and_eq_true]
  constructor
  · have h1 : (1 : Int) ≤ M.rowsD.length := by have := ok.r0; omega
    have h2 : (M.rowsD.length : Int) ≤ 6 := by have := ok.r6; omega
    simp only [areStates, h1, h2, decide_true, Bool.true_and, List.all_eq_true]
    intro d hd
    obtain ⟨r, hr2, rfl⟩ := List.mem_map.mp hd
    have h3 : ((r.map goalD).length : Int) = M.ls.length := by rw [List.length_map, ok.wid r hr2]
    simp only [isState, h3, decide_true, Bool.true_and, List.all_eq_true]
    intro g hg
    obtain ⟨s, hs, rfl⟩ := List.mem_map.mp hg
    cases s with
    | none => rfl
    | some k => rw [hr]; exact whole_nat (ok.goal r hr2 k hs)
  · have e : M.endsD.map intD = M.ends.map fun k => Int.ofNat k := by rw [Mach.endsD, List.map_map]; rfl
    simp only [areEnds, Bool.and_eq_true, List.all_eq_true, e, ok.asc, and_true]
    intro d hd
    obtain ⟨k, hk, rfl⟩ := List.mem_map.mp hd
    exact whole_nat (ok.en k hk)
theorem in_nats (s : Option Nat) (es : List Nat) : inD (goalD s) (es.map fun k => D.int (k : Nat)) = match s with
    | none => false
    | some k => decide (k ∈ es) := by
  unfold inD
  rw [List.any_map]
  cases s with
  | none =>
    rw [List.any_eq_false]
    intro k _
    exact Bool.false_ne_true
  | some k =>
    rw [Bool.eq_iff_iff, List.any_eq_true, decide_eq_true_eq]
    constructor
    · rintro ⟨j, hj, e⟩
      have e : ((j : Nat) : Int) == ((k : Nat) : Int) := e
      have : j = k := Int.ofNat.inj (eq_of_beq e)
      exact this ▸ hj
    · intro h
      exact ⟨k, h, (by simp : (((k : Nat) : Int) == ((k : Nat) : Int)) = true)⟩
theorem flat_goal : ∀ s : Option Nat, flatD (goalD s) = true
  | none => rfl
  | some _ => rfl
theorem flat_ints (es : List Nat) : (es.map fun k => D.int (k : Nat)).all flatD = true := by
  rw [List.all_map, List.all_eq_true]
  intro _ _
  rfl
/-! ### state_behind -/
def wf_state_behind : WF := fun ds ed Q => ∃ (M : Mach) (s : Option Nat) (w : List Nat), M.Ok ∧ ds = [M.d, goalD s, .str (txt w)] ∧ M.In s ∧ (∀ c ∈ w, c ∈ M.ls) ∧ Q (goalD (M.run s w))
theorem len_state_behind {ds : List D} {ed : Value → Prop} {Q : D → Prop} (h : wf_state_behind ds ed Q) : ds.length = 3 := by
  obtain ⟨_, _, _, _, rfl, _⟩ := h
  rfl
theorem chars_txt (w : List Nat) : chars (txt w) = w.map fun c => .str ⟨#[c]⟩ := rfl
abbrev N_state_behind : List Str := ["machine", "state", "word", "letters", "states", "_", "letter"]
theorem sc_state_behind : FnScope N_state_behind ["machine", "state", "word"] (defScope (topS 24)) := ⟨rfl, rfl, rfl, by decide +kernel, rfl, by decide +kernel, by decide +kernel⟩
theorem ok_state_behind {f : Addr} {fd : FuncData}  (B : Bl mg)     (F : Fun K "state_behind" "state_behind" (topS 24) f fd) (g : mg "state_behind" = some (.ref f)) (b : Binds K fd ["machine", "state", "word"] []) : DFn P w K mg base "state_behind" 1 3 (wf_state_behind) := by
  exact dfn_of (N := N_state_behind) F sc_state_behind g b rfl (fun ds ed Q h => len_state_behind h) (fun cdv A outer s H E hr =>
    (dss_cons (ds_asgT (de_pv (fun _ => pv 0)) (dg_tup (n := 3) (fun _ => rfl) (fun _ => rfl) (dgs_cons (dg_pg (fun _ => pg_name (i := 3) sc_state_behind.nd rfl (.inl rfl))) (dgs_cons (dg_pg (fun _ => pg_name (i := 4) sc_state_behind.nd rfl (.inl rfl))) (dgs_cons (dg_pg (fun _ => pg_name (i := 5) sc_state_behind.nd rfl (.inl rfl))) dgs_nil)))))
    (dss_cons (ds_for (fun _ => passes_of rfl) (fun _ => rfl) (di_seq (fun _ => rfl) (de_pv (fun _ => pv 2))) (dg_pg (fun _ => pg_name (i := 6) sc_state_behind.nd rfl (.inl rfl))) (dss_cons (ds_if (DX.dt (dx_isN (dr_pv (fun _ => pv 1)) (DE.r de_non))) (dss_one (ds_ret de_non)) dss_nil)
    (dss_one (ds_set (i := 1) (de_ix (fun _ => rfl) (DE.r (de_ix (fun _ => rfl) (dr_pv (fun _ => pv 4)) (dr_pv (fun _ => pv 1)))) (DE.r (de_index (fun _ => rfl) (fun _ => rfl) (fun _ => takes_of rfl rfl rfl rfl) (dr_pv (fun _ => pv 3)) (db_cons (dr_pv (fun _ => pv 6)) db_nil)))) (fun _ => sc_state_behind.nd)))))
    (dss_one (ds_ret (de_pv (fun _ => pv 1)))))))
    (fun ds ed Q h => by
      obtain ⟨M, s, w, ok, rfl, hs, hw, hq⟩ := h
      unfold N_state_behind
      conv => whnf
      refine ⟨rfl, rfl, ?_⟩
      conv => whnf
      refine ⟨.inl rfl, ?_⟩
      rw [chars_txt]
      refine forW_ind (fun r G => ∃ (s' : Option Nat) (w' : List Nat) (x : Slot), r = w'.map (fun c => .str ⟨#[c]⟩) ∧ (∀ c ∈ w', c ∈ M.ls) ∧ M.In s' ∧ M.run s' w' = M.run s w ∧ G = [.dat M.d, .dat (goalD s'), .dat (.str (txt w)), .dat (.str (txt M.ls)), .dat (.tup M.rowsD), .dat (.tup M.endsD), x]) ?_ ?_ _ _ ⟨s, w, .un, rfl, hw, hs, rfl, rfl⟩
      · rintro d r G ⟨s', w', x, e, hw', hs', hr, rfl⟩ next
        cases w' with
        | nil => exact nomatch e
        | cons c w' =>
          cases e
          cases s' with
          | none =>
            conv => whnf
            refine ⟨rfl, fork_t rfl ?_⟩
            rw [Mach.run_none] at hr
            rw [← hr] at hq
            exact hq
          | some k =>
            have hc := hw' c List.mem_cons_self
            obtain ⟨r, h1, h2, h3, h4⟩ := ok.at (hs' k rfl) hc
            have e1 : atI M.rowsD (k : Int) = some (.tup (r.map goalD)) := atI_nat (by rw [Mach.rowsD, List.getElem?_map, h2]; rfl)
            have e2 : atI (r.map goalD) ((M.ls.idxOf c : Nat) : Int) = some (goalD (M.step k c)) := atI_nat (by rw [List.getElem?_map, h3]; rfl)
            conv => whnf
            refine ⟨rfl, fork_f rfl ?_⟩
            refine onO_i e1 ⟨rfl, ?_⟩
            refine onO_i (index_one hc) ?_
            refine onO_i e2 ?_
            exact next _ ⟨M.step k c, w', .dat (.str ⟨#[c]⟩), rfl, fun c' h => hw' c' (List.mem_cons_of_mem _ h), ok.inn (hs' k rfl) hc, hr, rfl⟩
      · rintro G ⟨s', w', x, e, hw', hs', hr, rfl⟩
        cases w' with
        | nil =>
          rw [← hr] at hq
          exact hq
        | cons c w' => exact nomatch e)

/-! ### has_word -/
def Mach.has (M : Mach) (w : List Nat) : Bool := match M.run (some 0) w with
  | none => false
  | some k => decide (k ∈ M.ends)
def wf_has_word (cNoMachine cNoWord : Addr) : WF := fun ds ed Q => ∃ (M : Mach) (d : D), M.Ok ∧ ds = [M.d, d] ∧ Pl d ∧ (if isText d (txt M.ls) 200 = true then ∀ w, d = .str (txt w) → (∀ c ∈ w, c ∈ M.ls) → Q (.bl (M.has w)) else ed (.ref cNoWord))
theorem len_has_word {cNoMachine cNoWord : Addr} {ds : List D} {ed : Value → Prop} {Q : D → Prop} (h : wf_has_word cNoMachine cNoWord ds ed Q) : ds.length = 2 := by
  obtain ⟨_, _, _, rfl, _⟩ := h
  rfl
abbrev N_has_word : List Str := ["machine", "word"]
theorem sc_has_word : FnScope N_has_word ["machine", "word"] (defScope (topS 23)) := ⟨rfl, rfl, rfl, by decide +kernel, rfl, by decide +kernel, by decide +kernel⟩
theorem ok_has_word {f : Addr} {fd : FuncData} {cNoMachine : Addr} {cNoWord : Addr} (B : Bl mg)    (F_need_machine : DFn P w K mg base "need_machine" 5 1 (wf_need_machine cNoMachine)) (F_need_word : DFn P w K mg base "need_word" 2 2 (wf_need_word cNoWord)) (F_state_behind : DFn P w K mg base "state_behind" 1 3 (wf_state_behind)) (F : Fun K "has_word" "has_word" (topS 23) f fd) (g : mg "has_word" = some (.ref f)) (b : Binds K fd ["machine", "word"] []) : DFn P w K mg base "has_word" 6 2 (wf_has_word cNoMachine cNoWord) := by
  exact dfn_of (N := N_has_word) F sc_has_word g b rfl (fun ds ed Q h => len_has_word h) (fun cdv A outer s H E hr =>
    (dss_cons (ds_expr (de_call F_need_machine (fun _ => ⟨rfl, rfl, rfl, rfl, rfl⟩) (fun _ => takes_of rfl rfl rfl rfl) (fun _ => hr) (da_cons (de_pv (fun _ => pv 0)) da_nil)))
    (dss_cons (ds_expr (de_call F_need_word (fun _ => ⟨rfl, rfl, rfl, rfl, rfl⟩) (fun _ => takes_of rfl rfl rfl rfl) (fun _ => hr) (da_cons (de_pv (fun _ => pv 1)) (da_cons (de_ix (fun _ => rfl) (dr_pv (fun _ => pv 0)) (DE.r de_int)) da_nil))))
    (dss_one (ds_ret (DX.de (dx_in (fun _ => rfl) (DE.r (de_call F_state_behind (fun _ => ⟨rfl, rfl, rfl, rfl, rfl⟩) (fun _ => takes_of rfl rfl rfl rfl) (fun _ => hr) (da_cons (de_pv (fun _ => pv 0)) (da_cons de_int (da_cons (de_pv (fun _ => pv 1)) da_nil))))) (DE.r (de_ix (fun _ => rfl) (dr_pv (fun _ => pv 0)) (DE.r de_int))))))))))
    (fun ds ed Q h => by
      unfold N_has_word
      obtain ⟨M, d, ok, rfl, pd, hq⟩ := h
      conv => whnf
      refine ⟨M.d, rfl, ok.pl, ?_⟩
      rw [if_pos ok.is]
      conv => whnf
      refine ⟨d, txt M.ls, rfl, pd, Nat.le_trans ok.l3 (by decide), ?_⟩
      by_cases hb : isText d (txt M.ls) 200 = true
      · rw [if_pos hb] at hq ⊢
        obtain ⟨w, rfl, hw⟩ : ∃ w, d = .str (txt w) ∧ ∀ c ∈ w, c ∈ M.ls := by
          cases d with
          | str s =>
            refine ⟨s.cps.toList, rfl, fun c hc => ?_⟩
            have := (Bool.and_eq_true _ _ ▸ hb : _ ∧ _).2
            exact of_decide_eq_true (List.all_eq_true.mp this c hc)
          | _ => exact nomatch hb
        conv => whnf
        refine ⟨M, some 0, w, ok, rfl, fun k e => by cases e; exact ok.r0, hw, ?_⟩
        conv => whnf
        refine ⟨flat_goal _, flat_ints _, ?_⟩
        have e := in_nats (M.run (some 0) w) M.ends
        have hq := hq w rfl hw
        unfold Mach.has at hq
        rw [show inD (goalD (M.run (some 0) w)) M.endsD = _ from e]
        exact hq
      · rw [if_neg hb] at hq ⊢
        exact hq)

end
end T

namespace T
open PySem PySem.Spec PyProof.Rows L2 DL
section
variable {P : Program} {w : World} {K : Fg} {mg : Str → Option Value} {base : Heap}
def goalIn (L : List Nat) (g : Option Nat) : Bool := match g with
  | none => false
  | some k => decide (k ∈ L)
def natsD (L : List Nat) : List D := L.map fun k => .int (k : Nat)
theorem in_natsD (g : Option Nat) (L : List Nat) : inD (goalD g) (natsD L) = goalIn L g := in_nats g L
theorem flat_natsD (L : List Nat) : (natsD L).all flatD = true := flat_ints L
/-! ### live_states -/
def wf__leads_into : WF := fun ds ed Q => ∃ (r : List (Option Nat)) (L : List Nat), ds = [.tup (r.map goalD), .lst (natsD L)] ∧ r.length ≤ 100000 ∧ Q (.bl (r.any (goalIn L)))
theorem len__leads_into {ds : List D} {ed : Value → Prop} {Q : D → Prop} (h : wf__leads_into ds ed Q) : ds.length = 2 := by
  obtain ⟨_, _, rfl, _⟩ := h
  rfl
abbrev N__leads_into : List Str := ["state", "live", "goal"]
theorem sc__leads_into : FnScope N__leads_into ["state", "live"] (defScope (topS 27)) := ⟨rfl, rfl, rfl, by decide +kernel, rfl, by decide +kernel, by decide +kernel⟩
theorem ok__leads_into {f : Addr} {fd : FuncData}  (B : Bl mg)     (F : Fun K "_leads_into" "_leads_into" (topS 27) f fd) (g : mg "_leads_into" = some (.ref f)) (b : Binds K fd ["state", "live"] []) : DFn P w K mg base "_leads_into" 1 2 (wf__leads_into) := by
  exact dfn_of (N := N__leads_into) F sc__leads_into g b rfl (fun ds ed Q h => len__leads_into h) (fun cdv A outer s H E hr =>
    (dss_one (ds_ret (de_any (fun _ => rfl) (fun _ => rfl) (fun _ => B.any) (db_cons (DE.r (DF.de (df_lc (own := [("goal", 2)]) (fun _ => rfl) (fun _ => sc__leads_into.nd) (di_seq (fun _ => rfl) (de_pv (fun _ => pv 0))) (dg_pg (fun _ => pg_name (i := 2) sc__leads_into.nd rfl (by first | exact Or.inl rfl | exact Or.inr rfl))) (DX.de (dx_in (fun _ => rfl) (dr_pv (fun _ => pv 2)) (dr_pv (fun _ => pv 1)))) (fun _ => blkOk_by (N := N__leads_into) (sc := defScope (topS 27)) (by decide +kernel))))) db_nil)))))
    (fun ds ed Q h => by
      obtain ⟨r, L, rfl, hr, hq⟩ := h
      unfold N__leads_into
      conv => whnf
      refine ⟨small_lt (by rw [List.length_map]; exact hr), .inl rfl, ?_⟩
      refine compW_map (f := fun d => .bl (inD d (natsD L))) (fun d hd R hR => ?_) ⟨r.map (goalIn L), ?_, ?_⟩
      · obtain ⟨g, _, rfl⟩ := List.mem_map.mp hd
        exact ⟨flat_goal g, flat_natsD L, hR⟩
      · rw [List.nil_append, List.map_map, List.map_map]
        refine congrArg (fun z => [D.lst z]) (List.map_congr_left fun g _ => ?_)
        show D.bl (inD (goalD g) (natsD L)) = D.bl (goalIn L g)
        rw [in_natsD]
      · show Q (.bl ((r.map (goalIn L)).any id))
        rw [any_map]
        exact hq)

def Mach.more (M : Mach) (L : List Nat) : List Nat := (List.range M.rows.length).filter fun k => decide (k ∈ L) || (M.rows.getD k []).any (goalIn L)
def Mach.liveN (M : Mach) : Nat → List Nat → List Nat
  | 0, L => L
  | n + 1, L => M.liveN n (M.more L)
def Mach.live (M : Mach) : List Nat := M.liveN M.rows.length M.ends
def wf_live_states : WF := fun ds ed Q => ∃ M : Mach, M.Ok ∧ ds = [M.d] ∧ Q (.lst (natsD M.live))
theorem len_live_states {ds : List D} {ed : Value → Prop} {Q : D → Prop} (h : wf_live_states ds ed Q) : ds.length = 1 := by
  obtain ⟨_, _, rfl, _⟩ := h
  rfl
theorem toNat_len (n : Nat) : ((n : Int)).toNat = n := rfl
abbrev N_live_states : List Str := ["machine", "_", "states", "ends", "live", "at"]
theorem sc_live_states : FnScope N_live_states ["machine"] (defScope (topS 26)) := ⟨rfl, rfl, rfl, by decide +kernel, rfl, by decide +kernel, by decide +kernel⟩
theorem ok_live_states {f : Addr} {fd : FuncData}  (B : Bl mg)    (F__leads_into : DFn P w K mg base "_leads_into" 1 2 (wf__leads_into)) (F : Fun K "live_states" "live_states" (topS 26) f fd) (g : mg "live_states" = some (.ref f)) (b : Binds K fd ["machine"] []) : DFn P w K mg base "live_states" 2 1 (wf_live_states) := by
  exact dfn_of (N := N_live_states) F sc_live_states g b rfl (fun ds ed Q h => len_live_states h) (fun cdv A outer s H E hr =>
    (dss_cons (ds_asgT (de_pv (fun _ => pv 0)) (dg_tup (n := 3) (fun _ => rfl) (fun _ => rfl) (dgs_cons (dg_pg (fun _ => pg_name (i := 1) sc_live_states.nd rfl (.inl rfl))) (dgs_cons (dg_pg (fun _ => pg_name (i := 2) sc_live_states.nd rfl (.inr rfl))) (dgs_cons (dg_pg (fun _ => pg_name (i := 3) sc_live_states.nd rfl (.inl rfl))) dgs_nil)))))
    (dss_cons (ds_set (i := 4) (DF.de (df_list (fun _ => rfl) (fun _ => B.list) (db_cons (dr_pv (fun _ => pv 3)) db_nil))) (fun _ => sc_live_states.nd))
    (dss_cons (ds_for (fun _ => passes_of rfl) (fun _ => rfl) (di_seq (fun _ => rfl) (de_pv (fun _ => pv 2))) (dg_pg (fun _ => pg_name (i := 1) sc_live_states.nd rfl (.inl rfl))) (dss_one (ds_set (i := 4) (DF.de (df_lcIf (own := [("at", 5)]) (fun _ => rfl) (fun _ => sc_live_states.nd) (di_range1 (fun _ => B.range) (db_cons (DE.r (de_len (fun _ => rfl) (fun _ => B.len) (db_cons (dr_pv (fun _ => pv 2)) db_nil))) db_nil)) (dg_pg (fun _ => pg_name (i := 5) sc_live_states.nd rfl (by first | exact Or.inl rfl | exact Or.inr rfl))) (DW.dt (dw_or (DX.dt (dx_in (fun _ => rfl) (dr_pv (fun _ => pv 5)) (dr_pv (fun _ => pv 4)))) (dw_or1 (dt_val (de_call F__leads_into (fun _ => ⟨rfl, rfl, rfl, rfl, rfl⟩) (fun _ => takes0) (fun _ => hr) (da_cons (de_ix (fun _ => rfl) (dr_pv (fun _ => pv 2)) (dr_pv (fun _ => pv 5))) (da_cons (de_pv (fun _ => pv 4)) da_nil))))))) (de_pv (fun _ => pv 5)) (fun _ => blkOk_by (N := N_live_states) (sc := defScope (topS 26)) (by decide +kernel)))) (fun _ => sc_live_states.nd))))
    (dss_one (ds_ret (de_pv (fun _ => pv 4))))))))
    (fun ds ed Q h => by
      obtain ⟨M, ok, rfl, hq⟩ := h
      unfold N_live_states
      conv => whnf
      refine ⟨rfl, rfl, ?_⟩
      conv => whnf
      refine ⟨.inl rfl, ?_⟩
      refine forW_ind (fun r G => ∃ (L : List Nat) (x1 : Slot), M.liveN r.length L = M.live ∧ G = [.dat M.d, x1, .dat (.tup M.rowsD), .dat (.tup M.endsD), .dat (.lst (natsD L)), .un]) ?_ ?_ _ _ ⟨M.ends, _, by rw [Mach.rowsD, List.length_map]; rfl, rfl⟩
      · rintro d r G ⟨L, x1, hL, rfl⟩ next
        have hr : M.rowsD.length = M.rows.length := List.length_map ..
        have h6 := ok.r6
        conv => whnf
        refine ⟨by omega, by omega, ?_⟩
        rw [toNat_len, hr]
        refine ⟨by rw [rngD_len]; exact small_lt (by omega), .inl rfl, ?_⟩
        refine compW_filter (f := id) (t := fun d => match d with | .int i => decide (i.toNat ∈ L) || (M.rows.getD i.toNat []).any (goalIn L) | _ => false) (fun d hd R Z hR hZ => ?_) ?_
        · obtain ⟨i, hi, rfl⟩ := rngD_mem hd
          obtain ⟨row, h1, h2, h3⟩ := ok.row hi
          refine ⟨rfl, flat_natsD L, ?_⟩
          have e := in_natsD (some i) L
          have e : inD (.int (i : Nat)) (natsD L) = decide (i ∈ L) := e
          show DL.fork (inD (.int (i : Nat)) (natsD L)) _ _
          rw [e]
          by_cases hm : i ∈ L
          · refine fork_t (decide_eq_true hm) (fork_t rfl (hR ?_))
            show (decide (i ∈ L) || _) = true
            rw [decide_eq_true hm, Bool.true_or]
          · refine fork_f (decide_eq_false hm) ?_
            have e1 : atI M.rowsD ((i : Nat) : Int) = some (.tup (row.map goalD)) := atI_nat (by rw [Mach.rowsD, List.getElem?_map, h3]; rfl)
            refine onO_i e1 ⟨row, L, rfl, by rw [ok.wid row h1]; exact Nat.le_trans ok.l3 (by decide), ?_⟩
            have et : (match D.int ((i : Nat) : Int) with | .int i => decide (i.toNat ∈ L) || (M.rows.getD i.toNat []).any (goalIn L) | _ => false) = row.any (goalIn L) := by
              show (decide (i ∈ L) || (M.rows.getD i []).any (goalIn L)) = _
              rw [decide_eq_false hm, Bool.false_or, h2]
            exact fork_i (fun z => hR (et.trans z)) (fun z => hZ (et.trans z))
        · refine next _ ⟨M.more L, .dat d, hL, ?_⟩
          have em : [] ++ ((rngD 0 M.rows.length).filter fun d => match d with | .int i => decide (i.toNat ∈ L) || (M.rows.getD i.toNat []).any (goalIn L) | _ => false).map id = natsD (M.more L) := by
            rw [List.nil_append, List.map_id, rngD, natsD, Mach.more, List.filter_map]
            have : (fun k : Nat => D.int (0 + (k : Int))) = fun k : Nat => D.int (k : Nat) := funext fun k => by rw [Int.zero_add]
            rw [this]
            rfl
          rw [em]
          rfl
      · rintro G ⟨L, x1, hL, rfl⟩
        have hL : L = M.live := hL
        rw [← hL] at hq
        exact hq)

/-! ### _longer_by_one -/
abbrev Beg := List Nat × Nat
def begD (b : Beg) : D := .tup [.str (txt b.1), .int (b.2 : Nat)]
def stepTo (L : List Nat) (w : List Nat) (p : Nat × Option Nat) : Option Beg := match p.2 with
  | none => none
  | some k => if k ∈ L then some (w ++ [p.1], k) else none
def Mach.longer1 (M : Mach) (L : List Nat) (b : Beg) : List Beg := (M.ls.zip (M.rows.getD b.2 [])).filterMap (stepTo L b.1)
def Mach.longer (M : Mach) (L : List Nat) (bs : List Beg) : List Beg := bs.flatMap (M.longer1 L)
def Begs (M : Mach) (m n : Nat) (bs : List Beg) : Prop := bs.length ≤ m ∧ ∀ b ∈ bs, b.1.length ≤ n ∧ b.2 < M.rows.length
theorem longer1_len {M : Mach} (ok : M.Ok) {L : List Nat} {b : Beg} : (M.longer1 L b).length ≤ 3 := by
  refine Nat.le_trans (List.length_filterMap_le _ _) ?_
  rw [List.length_zip]
  exact Nat.le_trans (Nat.min_le_left _ _) ok.l3
theorem longer_len {M : Mach} (ok : M.Ok) {L : List Nat} : ∀ bs : List Beg, (M.longer L bs).length ≤ 3 * bs.length
  | [] => Nat.le_refl _
  | b :: r => by
    have h := longer_len ok (L := L) r
    unfold Mach.longer at h ⊢
    rw [List.flatMap_cons, List.length_append, List.length_cons]
    have := longer1_len ok (L := L) (b := b)
    omega
theorem txt_app (w : List Nat) (c : Nat) : (txt w ++ (⟨#[c]⟩ : Str) : Str) = txt (w ++ [c]) := by
  show (⟨w.toArray ++ #[c]⟩ : Str) = ⟨(w ++ [c]).toArray⟩
  simp
def zpD (p : Nat × Option Nat) : D := .tup [.str ⟨#[p.1]⟩, goalD p.2]
theorem zip_go : ∀ (ls : List Nat) (row : List (Option Nat)), List.zipWith (fun c d => D.tup [.str ⟨#[c]⟩, d]) ls (row.map goalD) = (ls.zip row).map zpD
  | [], _ => rfl
  | _ :: _, [] => rfl
  | c :: ls, g :: row => congrArg (List.cons (zpD (c, g))) (zip_go ls row)
theorem zipD_txt (ls : List Nat) (row : List (Option Nat)) : zipD (txt ls) (row.map goalD) = (ls.zip row).map zpD := zip_go ls row
def wf__longer_by_one : WF := fun ds ed Q => ∃ (M : Mach) (L : List Nat) (bs : List Beg), M.Ok ∧ ds = [M.d, .lst (natsD L), .lst (bs.map begD)] ∧ Begs M 100000 100000 bs ∧ Q (.lst ((M.longer L bs).map begD))
theorem len__longer_by_one {ds : List D} {ed : Value → Prop} {Q : D → Prop} (h : wf__longer_by_one ds ed Q) : ds.length = 3 := by
  obtain ⟨_, _, _, _, rfl, _⟩ := h
  rfl
abbrev N__longer_by_one : List Str := ["machine", "live", "begun", "letters", "states", "_", "longer", "word", "state", "letter", "goal"]
theorem sc__longer_by_one : FnScope N__longer_by_one ["machine", "live", "begun"] (defScope (topS 28)) := ⟨rfl, rfl, rfl, by decide +kernel, rfl, by decide +kernel, by decide +kernel⟩
theorem ok__longer_by_one {f : Addr} {fd : FuncData}  (B : Bl mg)     (F : Fun K "_longer_by_one" "_longer_by_one" (topS 28) f fd) (g : mg "_longer_by_one" = some (.ref f)) (b : Binds K fd ["machine", "live", "begun"] []) : DFn P w K mg base "_longer_by_one" 1 3 (wf__longer_by_one) := by
  exact dfn_of (N := N__longer_by_one) F sc__longer_by_one g b rfl (fun ds ed Q h => len__longer_by_one h) (fun cdv A outer s H E hr =>
    (dss_cons (ds_asgT (de_pv (fun _ => pv 0)) (dg_tup (n := 3) (fun _ => rfl) (fun _ => rfl) (dgs_cons (dg_pg (fun _ => pg_name (i := 3) sc__longer_by_one.nd rfl (.inl rfl))) (dgs_cons (dg_pg (fun _ => pg_name (i := 4) sc__longer_by_one.nd rfl (.inl rfl))) (dgs_cons (dg_pg (fun _ => pg_name (i := 5) sc__longer_by_one.nd rfl (.inl rfl))) dgs_nil)))))
    (dss_cons (ds_setO (i := 6) (df_lst da_nil) (fun _ => sc__longer_by_one.nd))
    (dss_cons (ds_for (fun _ => passes_of rfl) (fun _ => rfl) (di_seq (fun _ => rfl) (de_pv (fun _ => pv 2))) (dg_tup (n := 2) (fun _ => rfl) (fun _ => rfl) (dgs_cons (dg_pg (fun _ => pg_name (i := 7) sc__longer_by_one.nd rfl (.inl rfl))) (dgs_cons (dg_pg (fun _ => pg_name (i := 8) sc__longer_by_one.nd rfl (.inl rfl))) dgs_nil))) (dss_one (ds_for (fun _ => passes_of rfl) (fun _ => rfl) (di_zip (fun _ => rfl) (fun _ => B.zip) (da_cons (de_pv (fun _ => pv 3)) (da_cons (de_ix (fun _ => rfl) (dr_pv (fun _ => pv 4)) (dr_pv (fun _ => pv 8))) da_nil))) (dg_tup (n := 2) (fun _ => rfl) (fun _ => rfl) (dgs_cons (dg_pg (fun _ => pg_name (i := 9) sc__longer_by_one.nd rfl (.inl rfl))) (dgs_cons (dg_pg (fun _ => pg_name (i := 10) sc__longer_by_one.nd rfl (.inl rfl))) dgs_nil))) (dss_one (ds_if (DX.dt (dx_in (fun _ => rfl) (dr_pv (fun _ => pv 10)) (dr_pv (fun _ => pv 1)))) (dss_one (ds_append (i := 6) (fun _ => rfl) (fun _ => pv 6) (de_tup (da_cons (de_addA (dr_pv (fun _ => pv 7)) (dr_pv (fun _ => pv 9))) (da_cons (de_pv (fun _ => pv 10)) da_nil))))) dss_nil)))))
    (dss_one (ds_ret (de_pv (fun _ => pv 6))))))))
    (fun ds ed Q h => by
      obtain ⟨M, L, bs, ok, rfl, hb, hq⟩ := h
      unfold N__longer_by_one
      conv => whnf
      refine ⟨rfl, rfl, ?_⟩
      conv => whnf
      refine ⟨by rw [sizeLine_eq]; decide, ?_⟩
      conv => whnf
      refine ⟨.inl rfl, ?_⟩
      refine forW_ind (fun r G => ∃ (rs : List Beg) (acc : List Beg) (x5 x7 x8 x9 x10 : Slot), r = rs.map begD ∧ (∀ b ∈ rs, b.1.length ≤ 100000 ∧ b.2 < M.rows.length) ∧ acc.length + 3 * rs.length ≤ 300000 ∧ acc ++ M.longer L rs = M.longer L bs ∧ G = [.dat M.d, .dat (.lst (natsD L)), .dat (.lst (bs.map begD)), .dat (.str (txt M.ls)), .dat (.tup M.rowsD), x5, .own (.lst (acc.map begD)), x7, x8, x9, x10]) ?_ ?_ _ _ ⟨bs, [], _, _, _, _, _, rfl, hb.2, by have := hb.1; simp; omega, rfl, rfl⟩
      · rintro d r G ⟨rs, acc, x5, x7, x8, x9, x10, e, hrs, hl, ha, rfl⟩ next
        cases rs with
        | nil => exact nomatch e
        | cons b rs =>
          cases e
          obtain ⟨hb1, hb2⟩ := hrs b List.mem_cons_self
          obtain ⟨row, k1, k2, k3⟩ := ok.row hb2
          have e1 : atI M.rowsD ((b.2 : Nat) : Int) = some (.tup (row.map goalD)) := atI_nat (by rw [Mach.rowsD, List.getElem?_map, k3]; rfl)
          refine ⟨rfl, rfl, ?_⟩
          refine onO_i e1 ⟨.inl rfl, ?_⟩
          rw [zipD_txt]
          refine forW_ind (fun r G => ∃ (ps : List (Nat × Option Nat)) (acc2 : List Beg) (x9 x10 : Slot), r = ps.map zpD ∧ acc2.length + ps.length + 3 * rs.length ≤ 300000 ∧ acc2 ++ ps.filterMap (stepTo L b.1) = acc ++ M.longer1 L b ∧ G = [.dat M.d, .dat (.lst (natsD L)), .dat (.lst (bs.map begD)), .dat (.str (txt M.ls)), .dat (.tup M.rowsD), x5, .own (.lst (acc2.map begD)), .dat (.str (txt b.1)), .dat (.int (b.2 : Nat)), x9, x10]) ?_ ?_ _ _ ⟨M.ls.zip row, acc, x9, x10, rfl, ?_, by rw [Mach.longer1, k2], rfl⟩
          · rintro d r G ⟨ps, acc2, y9, y10, e2, hl2, ha2, rfl⟩ next2
            cases ps with
            | nil => exact nomatch e2
            | cons p ps =>
              cases e2
              rw [List.length_cons] at hl2
              rw [List.filterMap_cons] at ha2
              refine ⟨rfl, rfl, flat_goal _, flat_natsD L, ?_⟩
              show DL.fork (inD (goalD p.2) (natsD L)) _ _
              rw [in_natsD]
              cases hg : p.2 with
              | none =>
                have hs : stepTo L b.1 p = none := by unfold stepTo; rw [hg]
                rw [hs] at ha2
                exact fork_f rfl (next2 _ ⟨ps, acc2, _, _, rfl, by omega, ha2, rfl⟩)
              | some k =>
                by_cases hk : k ∈ L
                · have hs : stepTo L b.1 p = some (b.1 ++ [p.1], k) := by unfold stepTo; rw [hg]; exact if_pos hk
                  rw [hs] at ha2
                  refine fork_t (decide_eq_true hk) ⟨by rw [List.length_map, sizeLine_eq]; omega, ?_, by rw [sizeLine_eq]; show 2 ≤ 16777216; decide, ?_⟩
                  · exact Nat.le_trans (Nat.add_le_add_right hb1 1) (by rw [sizeLine_eq]; decide)
                  · refine next2 _ ⟨ps, acc2 ++ [(b.1 ++ [p.1], k)], .dat (.str ⟨#[p.1]⟩), .dat (.int (k : Nat)), rfl, by rw [List.length_append]; simp; omega, by rw [List.append_assoc]; exact ha2, ?_⟩
                    rw [List.map_append, List.map_cons, List.map_nil, begD, ← txt_app]
                    rfl
                · have hs : stepTo L b.1 p = none := by unfold stepTo; rw [hg]; exact if_neg hk
                  rw [hs] at ha2
                  exact fork_f (decide_eq_false hk) (next2 _ ⟨ps, acc2, _, _, rfl, by omega, ha2, rfl⟩)
          · rintro G ⟨ps, acc2, y9, y10, e2, hl2, ha2, rfl⟩
            cases ps with
            | nil =>
              have ha2 : acc2 = acc ++ M.longer1 L b := by rw [← ha2]; simp
              refine next _ ⟨rs, acc2, _, _, _, _, _, rfl, fun b' h => hrs b' (List.mem_cons_of_mem _ h), ?_, ?_, rfl⟩
              · simp at hl2; omega
              · rw [ha2, ← ha, Mach.longer, Mach.longer, List.flatMap_cons, List.append_assoc]
            | cons p ps => exact nomatch e2
          · have : (M.ls.zip row).length ≤ 3 := by rw [List.length_zip]; exact Nat.le_trans (Nat.min_le_left _ _) ok.l3
            rw [List.length_cons] at hl
            omega
      · rintro G ⟨rs, acc, x5, x7, x8, x9, x10, e, hrs, hl, ha, rfl⟩
        cases rs with
        | nil =>
          have ha : acc = M.longer L bs := by rw [← ha]; simp [Mach.longer]
          rw [← ha] at hq
          exact hq
        | cons b rs => exact nomatch e)

end
end T

namespace T
open PySem PySem.Spec PyProof.Rows L2 DL
/-! ### the first words: levels of beginnings -/
def Mach.wordsOf (M : Mach) (bs : List Beg) : List (List Nat) := (bs.filter fun b => decide (b.2 ∈ M.ends)).map Prod.fst
def Mach.lv (M : Mach) (L : List Nat) : Nat → List Beg
  | 0 => if 0 ∈ L then [([], 0)] else []
  | k + 1 => M.longer L (M.lv L k)
def Mach.allw (M : Mach) (L : List Nat) : Nat → List (List Nat)
  | 0 => []
  | k + 1 => M.allw L k ++ M.wordsOf (M.lv L k)
/-- how many words the next k levels tell -/
def Mach.tells (M : Mach) (L : List Nat) : Nat → List Beg → Nat
  | 0, _ => 0
  | k + 1, bs => (M.wordsOf bs).length + M.tells L k (M.longer L bs)
section
variable {M : Mach} {L : List Nat}
theorem longer_app (xs ys : List Beg) : M.longer L (xs ++ ys) = M.longer L xs ++ M.longer L ys := by unfold Mach.longer; rw [List.flatMap_append]
theorem wordsOf_app (xs ys : List Beg) : M.wordsOf (xs ++ ys) = M.wordsOf xs ++ M.wordsOf ys := by unfold Mach.wordsOf; rw [List.filter_append, List.map_append]
theorem tells_app : ∀ (k : Nat) (xs ys : List Beg), M.tells L k (xs ++ ys) = M.tells L k xs + M.tells L k ys
  | 0, _, _ => rfl
  | k + 1, xs, ys => by
    show (M.wordsOf (xs ++ ys)).length + M.tells L k (M.longer L (xs ++ ys)) = _
    rw [wordsOf_app, longer_app, List.length_append, tells_app k]
    show _ = ((M.wordsOf xs).length + M.tells L k (M.longer L xs)) + ((M.wordsOf ys).length + M.tells L k (M.longer L ys))
    omega
theorem tells_mem {k : Nat} {b : Beg} : ∀ {bs : List Beg}, b ∈ bs → M.tells L k [b] ≤ M.tells L k bs
  | c :: r, h => by
    have e := tells_app (M := M) (L := L) k [c] r
    rw [List.singleton_append] at e
    rw [e]
    rcases List.mem_cons.mp h with h | h
    · rw [h]; omega
    · have := tells_mem (k := k) h
      omega
theorem tells_more : ∀ (k : Nat) (bs : List Beg), M.tells L k bs ≤ M.tells L (k + 1) bs
  | 0, _ => Nat.zero_le _
  | k + 1, bs => Nat.add_le_add_left (tells_more k (M.longer L bs)) _
theorem tells_le {j : Nat} {bs : List Beg} : ∀ {k : Nat}, j ≤ k → M.tells L j bs ≤ M.tells L k bs
  | 0, h => by rw [Nat.le_zero.mp h]; exact Nat.le_refl _
  | k + 1, h => by
    rcases Nat.eq_or_lt_of_le h with h | h
    · rw [h]; exact Nat.le_refl _
    · exact Nat.le_trans (tells_le (Nat.le_of_lt_succ h)) (tells_more k bs)
theorem mem_longer1 {w : List Nat} {s j k : Nat} {c : Nat} (h1 : M.ls[j]? = some c) (h2 : (M.rows.getD s [])[j]? = some (some k)) (hk : k ∈ L) : (w ++ [c], k) ∈ M.longer1 L (w, s) := by
  refine List.mem_filterMap.mpr ⟨(c, some k), List.mem_iff_getElem?.mpr ⟨j, ?_⟩, ?_⟩
  · show (M.ls.zip (M.rows.getD s []))[j]? = some (c, some k)
    rw [List.getElem?_zip_eq_some]
    exact ⟨h1, h2⟩
  · show (if k ∈ L then some (w ++ [c], k) else none) = _
    rw [if_pos hk]
/-- each stage of the live states -/
def Mach.stage (M : Mach) : Nat → List Nat
  | 0 => M.ends
  | n + 1 => M.more (M.stage n)
theorem liveN_stage (n : Nat) : ∀ m, M.liveN n (M.stage m) = M.stage (m + n) := by
  induction n with
  | zero => intro m; rfl
  | succ n ih =>
    intro m
    show M.liveN n (M.more (M.stage m)) = _
    have := ih (m + 1)
    rw [show m + (n + 1) = m + 1 + n by omega]
    exact this
theorem live_stage : M.live = M.stage M.rows.length := by
  have := liveN_stage (M := M) M.rows.length 0
  rw [Nat.zero_add] at this
  exact this
theorem stage_lt (ok : M.Ok) : ∀ {n s : Nat}, s ∈ M.stage n → s < M.rows.length
  | 0, _, h => ok.en _ h
  | _ + 1, _, h => List.mem_range.mp (List.mem_filter.mp h).1
theorem stage_up (ok : M.Ok) {n s : Nat} (h : s ∈ M.stage n) : s ∈ M.stage (n + 1) :=
  List.mem_filter.mpr ⟨List.mem_range.mpr (stage_lt ok h), by rw [decide_eq_true h, Bool.true_or]⟩
theorem stage_le (ok : M.Ok) {m s : Nat} (h : s ∈ M.stage m) : ∀ {n : Nat}, m ≤ n → s ∈ M.stage n
  | 0, q => by rw [Nat.le_zero.mp q] at h; exact h
  | n + 1, q => by
    rcases Nat.eq_or_lt_of_le q with q | q
    · rw [← q]; exact h
    · exact stage_up ok (stage_le ok h (Nat.le_of_lt_succ q))
theorem tells_stage (ok : M.Ok) : ∀ {n : Nat} {w : List Nat} {s : Nat}, (∀ m, m < n → ∀ k ∈ M.stage m, k ∈ L) → s ∈ M.stage n → 1 ≤ M.tells L (n + 1) [(w, s)]
  | 0, w, s, _, h => by
    have : M.wordsOf [(w, s)] = [w] := by
      unfold Mach.wordsOf
      rw [List.filter_cons_of_pos (by exact decide_eq_true h)]
      rfl
    show 1 ≤ (M.wordsOf [(w, s)]).length + 0
    rw [this]
    exact Nat.le_refl _
  | n + 1, w, s, hL, h => by
    by_cases hs : s ∈ M.stage n
    · exact Nat.le_trans (tells_stage ok (fun m q => hL m (by omega)) hs) (tells_more _ _)
    · obtain ⟨h1, h2⟩ := List.mem_filter.mp h
      rw [decide_eq_false hs, Bool.false_or, List.any_eq_true] at h2
      obtain ⟨g, hg, hk⟩ := h2
      cases g with
      | none => exact absurd hk Bool.false_ne_true
      | some k =>
        have hk : k ∈ M.stage n := of_decide_eq_true hk
        obtain ⟨row, r1, r2, r3⟩ := ok.row (List.mem_range.mp h1)
        obtain ⟨j, hj⟩ := List.mem_iff_getElem?.mp hg
        have lj : j < M.ls.length := by
          have := (List.getElem?_eq_some_iff.mp hj).1
          rw [r2, ok.wid row r1] at this
          exact this
        have mem : (w ++ [M.ls[j]], k) ∈ M.longer1 L (w, s) := mem_longer1 (List.getElem?_eq_getElem lj) hj (hL n (by omega) k hk)
        have one := tells_stage ok (w := w ++ [M.ls[j]]) (fun m q => hL m (by omega)) hk
        show 1 ≤ _ + M.tells L (n + 1) (M.longer L [(w, s)])
        have e : M.longer L [(w, s)] = M.longer1 L (w, s) := by unfold Mach.longer; rw [List.flatMap_cons, List.flatMap_nil, List.append_nil]
        rw [e]
        have := tells_mem (M := M) (L := L) (k := n + 1) mem
        omega
theorem tells_seven (ok : M.Ok) {b : Beg} (h : b.2 ∈ M.live) : 1 ≤ M.tells M.live 7 [b] := by
  rw [live_stage] at h ⊢
  have := tells_stage (L := M.stage M.rows.length) ok (w := b.1) (fun m q k hk => stage_le ok hk (Nat.le_of_lt q)) h
  exact Nat.le_trans this (tells_le (by have := ok.r6; omega))
theorem tells_all (ok : M.Ok) : ∀ {bs : List Beg}, (∀ b ∈ bs, b.2 ∈ M.live) → bs.length ≤ M.tells M.live 7 bs
  | [], _ => Nat.zero_le _
  | b :: r, h => by
    have e := tells_app (M := M) (L := M.live) 7 [b] r
    rw [List.singleton_append] at e
    rw [e, List.length_cons]
    have h1 := tells_seven ok (h b List.mem_cons_self)
    have h2 := tells_all ok (bs := r) fun c hc => h c (List.mem_cons_of_mem _ hc)
    omega
theorem allw_add (T : Nat) : ∀ k, (M.allw L (T + k)).length = (M.allw L T).length + M.tells L k (M.lv L T) := by
  intro k
  induction k generalizing T with
  | zero => rfl
  | succ k ih =>
    have := ih (T + 1)
    rw [show T + (k + 1) = T + 1 + k by omega, this]
    show (M.allw L T ++ M.wordsOf (M.lv L T)).length + M.tells L k (M.longer L (M.lv L T)) = (M.allw L T).length + ((M.wordsOf (M.lv L T)).length + M.tells L k (M.longer L (M.lv L T)))
    rw [List.length_append]
    omega
theorem longer_in {bs : List Beg} {b : Beg} (h : b ∈ M.longer L bs) : b.2 ∈ L ∧ ∃ a ∈ bs, b.1.length = a.1.length + 1 := by
  obtain ⟨a, ha, h⟩ := List.mem_flatMap.mp h
  obtain ⟨p, _, h⟩ := List.mem_filterMap.mp h
  unfold stepTo at h
  split at h
  · exact nomatch h
  · split at h
    · rename_i hk
      cases h
      exact ⟨hk, a, ha, by rw [List.length_append]; rfl⟩
    · exact nomatch h
theorem lv_in : ∀ {T : Nat} {b : Beg}, b ∈ M.lv L T → b.2 ∈ L ∧ b.1.length = T
  | 0, b, h => by
    unfold Mach.lv at h
    split at h
    · rename_i hz
      rw [List.mem_singleton.mp h]
      exact ⟨hz, rfl⟩
    · exact nomatch h
  | T + 1, b, h => by
    obtain ⟨h1, a, ha, h2⟩ := longer_in h
    exact ⟨h1, by rw [h2, (lv_in ha).2]⟩
theorem lv_grow (ok : M.Ok) (T : Nat) : ∀ k, (M.lv L (T + k)).length ≤ 3 ^ k * (M.lv L T).length := by
  intro k
  induction k with
  | zero => rw [Nat.add_zero, Nat.pow_zero, Nat.one_mul]; exact Nat.le_refl _
  | succ k ih =>
    have := longer_len ok (L := L) (M.lv L (T + k))
    show (M.longer L (M.lv L (T + k))).length ≤ _
    rw [Nat.pow_succ, Nat.mul_comm (3 ^ k) 3, Nat.mul_assoc]
    exact Nat.le_trans this (Nat.mul_le_mul_left 3 ih)
theorem lv_small (ok : M.Ok) {T : Nat} (h : (M.allw M.live T).length < 40) : (M.lv M.live T).length ≤ 100000 := by
  by_cases q : T < 7
  · have h1 := lv_grow (L := M.live) ok 0 T
    rw [Nat.zero_add] at h1
    have h0 : (M.lv M.live 0).length ≤ 1 := by unfold Mach.lv; split <;> decide
    have h2 : 3 ^ T ≤ 3 ^ 7 := Nat.pow_le_pow_right (by decide) (by omega)
    have h3 := Nat.mul_le_mul h2 h0
    have : 3 ^ 7 * 1 ≤ 100000 := by decide
    omega
  · obtain ⟨t, rfl⟩ : ∃ t, T = t + 7 := ⟨T - 7, by omega⟩
    have h1 := lv_grow (L := M.live) ok t 7
    have h2 := allw_add (M := M) (L := M.live) t 7
    have h3 := tells_all ok (bs := M.lv M.live t) fun b hb => (lv_in hb).1
    have h4 : (M.lv M.live t).length ≤ 40 := by omega
    have h5 := Nat.mul_le_mul_left (3 ^ 7) h4
    have : 3 ^ 7 * 40 ≤ 100000 := by decide
    omega
theorem lv_nil {T : Nat} (h : M.lv L T = []) : ∀ k, M.lv L (T + k) = []
  | 0 => h
  | k + 1 => by
    show M.longer L (M.lv L (T + k)) = []
    rw [lv_nil h k]
    rfl
theorem allw_nil {T : Nat} (h : M.lv L T = []) : ∀ k, M.allw L (T + k) = M.allw L T
  | 0 => rfl
  | k + 1 => by
    show M.allw L (T + k) ++ M.wordsOf (M.lv L (T + k)) = _
    rw [lv_nil h k, allw_nil h k]
    exact List.append_nil _
theorem allw_pre (T : Nat) : ∀ k, ∃ r, M.allw L (T + k) = M.allw L T ++ r
  | 0 => ⟨[], (List.append_nil _).symm⟩
  | k + 1 => by
    obtain ⟨r, hr⟩ := allw_pre T k
    exact ⟨r ++ M.wordsOf (M.lv L (T + k)), by show M.allw L (T + k) ++ _ = _; rw [hr, List.append_assoc]; rfl⟩
theorem allw_ends (ok : M.Ok) : ∀ m : Nat, M.lv M.live (7 * m) = [] ∨ m ≤ (M.allw M.live (7 * m)).length
  | 0 => .inr (Nat.zero_le _)
  | m + 1 => by
    rw [show 7 * (m + 1) = 7 * m + 7 by omega]
    rcases allw_ends ok m with h | h
    · exact .inl (lv_nil h 7)
    · cases e : M.lv M.live (7 * m) with
      | nil => exact .inl (lv_nil e 7)
      | cons b r =>
        right
        have h2 := allw_add (M := M) (L := M.live) (7 * m) 7
        have h3 := tells_all ok (bs := M.lv M.live (7 * m)) fun b hb => (lv_in hb).1
        rw [e, List.length_cons] at h3
        rw [e] at h2
        omega
def Mach.firsts (M : Mach) (many : Nat) : List (List Nat) := (M.allw M.live (7 * many)).take many
theorem firsts_of {many T : Nat} (hT : T ≤ 7 * many) (h : M.lv M.live T = [] ∨ many ≤ (M.allw M.live T).length) : M.firsts many = (M.allw M.live T).take many := by
  obtain ⟨k, hk⟩ : ∃ k, 7 * many = T + k := ⟨7 * many - T, by omega⟩
  unfold Mach.firsts
  rw [hk]
  rcases h with h | h
  · rw [allw_nil h k]
  · obtain ⟨r, hr⟩ := allw_pre (M := M) (L := M.live) T k
    rw [hr, List.take_append_of_le_length h]
end
section
variable {P : Program} {w : World} {K : Fg} {mg : Str → Option Value} {base : Heap}
abbrev fwT : WT := wAnd (wTru (wRd 3)) (wB (w2 fLt (wCb fLen (wCons (wRd 4) wNil)) (wRd 1)))
theorem cut_take {α : Type} (xs : List α) (n : Nat) : cut xs none (some (n : Nat)) = xs.take n := by
  unfold cut
  rw [show HT.sIx xs.length 0 none = 0 from HT.sIx_none _ _, show HT.sIx xs.length xs.length (some (n : Nat)) = min n xs.length from HT.sIx_nat xs.length xs.length n, List.drop_zero, Nat.sub_zero, Nat.min_comm]
  rcases Nat.le_total n xs.length with h | h
  · rw [Nat.min_eq_right h]
  · rw [Nat.min_eq_left h, List.take_of_length_le (Nat.le_refl _), List.take_of_length_le h]
def wordsD (ws : List (List Nat)) : List D := ws.map fun w => .str (txt w)
abbrev fwB : WS := wSq (wSet 4 (w2 fAddA (wRd 4) (wF (wLc 0 [5, 6] (wSeq (wVar 3)) (gT 2 (gsC (gN 5) (gsC (gN 6) gsN))) (wB (w2 (fIn id) (wRd 6) (w2 fIx (wRd 0) (wC (.int 2))))) (wVar 5))))) (wSet 3 (wCall wf__longer_by_one (wCons (wVar 0) (wCons (wVar 2) (wCons (wVar 3) wNil)))))
def fwG (M : Mach) (many T : Nat) (x y : Slot) : Gm := [.dat M.d, .dat (.int (many : Nat)), .dat (.lst (natsD M.live)), .dat (.lst ((M.lv M.live T).map begD)), .dat (.lst (wordsD (M.allw M.live T))), x, y]
theorem words_sel (M : Mach) (bs : List Beg) : ((bs.map begD).filter fun d => match d with | .tup [_, .int s] => decide (s.toNat ∈ M.ends) | _ => false).map (fun d => match d with | .tup [x, _] => x | _ => .non) = wordsD (M.wordsOf bs) := by
  rw [List.filter_map, List.map_map, wordsD, Mach.wordsOf, List.map_map]
  rfl
theorem fw_loop {M : Mach} {many : Nat} {De : DEnds} (ok : M.Ok) (hm : many ≤ 40) (fin : ∀ T, T ≤ 7 * many → (M.lv M.live T = [] ∨ many ≤ (M.allw M.live T).length) → De.nx (fwG M many T .un .un)) :
    ∀ (j T : Nat), T + j = 7 * many + 1 → (∀ i, i < T → M.lv M.live i ≠ [] ∧ (M.allw M.live i).length < many) → whileW fwT fwB j (fwG M many T .un .un) De
  | 0, T, h, hi => by
    obtain ⟨h1, h2⟩ := hi (7 * many) (by omega)
    rcases allw_ends ok many with q | q
    · exact absurd q h1
    · omega
  | j + 1, T, h, hi => by
    have leave : (M.lv M.live T = [] ∨ many ≤ (M.allw M.live T).length) → De.nx (fwG M many T .un .un) := fin T (by omega)
    have wl : (wordsD (M.allw M.live T)).length = (M.allw M.live T).length := List.length_map ..
    have bl : ((M.lv M.live T).map begD).isEmpty = (M.lv M.live T).isEmpty := by cases M.lv M.live T <;> rfl
    conv => whnf
    by_cases e : M.lv M.live T = []
    · exact fork_f (by rw [e]; rfl) (fork_f rfl (leave (.inl e)))
    · refine fork_t (by rw [bl]; cases q : M.lv M.live T with | nil => exact absurd q e | cons _ _ => rfl) ?_
      conv => whnf
      by_cases hw : (M.allw M.live T).length < many
      · have small := lv_small ok (T := T) (by omega)
        refine fork_t (decide_eq_true (by rw [wl]; omega)) ?_
        conv => whnf
        refine ⟨by rw [List.length_map]; exact small_lt small, .inl rfl, ?_⟩
        refine compW_filter (f := fun d => match d with | .tup [x, _] => x | _ => .non) (t := fun d => match d with | .tup [_, .int s] => decide (s.toNat ∈ M.ends) | _ => false) (fun d hd R Z hR hZ => ?_) ?_
        · obtain ⟨b, hb, rfl⟩ := List.mem_map.mp hd
          refine ⟨rfl, rfl, rfl, flat_ints M.ends, ?_⟩
          show DL.fork (inD (goalD (some b.2)) (natsD M.ends)) _ _
          rw [in_natsD]
          exact fork_i (fun z => hR z) (fun z => hZ z)
        · rw [List.nil_append, words_sel]
          have l2 : (wordsD (M.wordsOf (M.lv M.live T))).length ≤ (M.lv M.live T).length := by
            unfold wordsD Mach.wordsOf
            rw [List.length_map, List.length_map]
            exact List.length_filter_le _ _
          refine ⟨by rw [wl, sizeLine_eq]; omega, M, M.live, M.lv M.live T, ok, rfl, ⟨small, fun b hb => ?_⟩, ?_⟩
          · obtain ⟨h1, h2⟩ := lv_in hb
            rw [live_stage] at h1
            exact ⟨by omega, stage_lt ok h1⟩
          · have next := fw_loop ok hm fin j (T + 1) (by omega) fun i q => by
              rcases Nat.lt_or_ge i T with q' | q'
              · exact hi i q'
              · have : i = T := by omega
                subst this
                exact ⟨e, hw⟩
            unfold fwG at next
            rw [show wordsD (M.allw M.live (T + 1)) = wordsD (M.allw M.live T) ++ wordsD (M.wordsOf (M.lv M.live T)) from List.map_append ..] at next
            exact next
      · exact fork_f (decide_eq_false (by rw [wl]; omega)) (leave (.inr (by omega)))
def wf_first_words (cNoCount cNoMachine : Addr) : WFN := fun ds ed Q => ∃ (M : Mach) (d : D), M.Ok ∧ ds = [M.d, d] ∧ Pl d ∧ (if isWhole d 0 40 = true then ∀ many : Nat, d = .int (many : Nat) → many ≤ 40 → Q (wordsD (M.firsts many)) else ed (.ref cNoCount))
theorem len_first_words {cNoCount cNoMachine : Addr} {ds : List D} {ed : Value → Prop} {Q : List D → Prop} (h : wf_first_words cNoCount cNoMachine ds ed Q) : ds.length = 2 := by
  obtain ⟨_, _, _, rfl, _⟩ := h
  rfl
abbrev N_first_words : List Str := ["machine", "many", "live", "begun", "words", "word", "state"]
theorem sc_first_words : FnScope N_first_words ["machine", "many"] (defScope (topS 25)) := ⟨rfl, rfl, rfl, by decide +kernel, rfl, by decide +kernel, by decide +kernel⟩
theorem ok_first_words {f : Addr} {fd : FuncData} {cNoCount : Addr} {cNoMachine : Addr} (B : Bl mg)  (C_MOST_TOLD : GC mg "MOST_TOLD" gc_MOST_TOLD)  (F__longer_by_one : DFn P w K mg base "_longer_by_one" 1 3 (wf__longer_by_one)) (F_live_states : DFn P w K mg base "live_states" 2 1 (wf_live_states)) (F_need_count : DFn P w K mg base "need_count" 2 3 (wf_need_count cNoCount)) (F_need_machine : DFn P w K mg base "need_machine" 5 1 (wf_need_machine cNoMachine)) (F : Fun K "first_words" "first_words" (topS 25) f fd) (g : mg "first_words" = some (.ref f)) (b : Binds K fd ["machine", "many"] []) : DFnN P w K mg base "first_words" 6 2 (wf_first_words cNoCount cNoMachine) := by
  exact dfnN_of (N := N_first_words) F sc_first_words g b rfl (fun ds ed Q h => len_first_words h) (fun cdv A outer s H E hr =>
    (dss_cons (ds_expr (de_call F_need_machine (fun _ => ⟨rfl, rfl, rfl, rfl, rfl⟩) (fun _ => takes_of rfl rfl rfl rfl) (fun _ => hr) (da_cons (de_pv (fun _ => pv 0)) da_nil)))
    (dss_cons (ds_expr (de_call F_need_count (fun _ => ⟨rfl, rfl, rfl, rfl, rfl⟩) (fun _ => takes_of rfl rfl rfl rfl) (fun _ => hr) (da_cons (de_pv (fun _ => pv 1)) (da_cons de_int (da_cons (de_gc (fun _ => rfl) C_MOST_TOLD) da_nil)))))
    (dss_cons (ds_set (i := 2) (de_call F_live_states (fun _ => ⟨rfl, rfl, rfl, rfl, rfl⟩) (fun _ => takes_of rfl rfl rfl rfl) (fun _ => hr) (da_cons (de_pv (fun _ => pv 0)) da_nil)) (fun _ => sc_first_words.nd))
    (dss_cons (ds_set (i := 3) (de_if (DX.dt (dx_in (fun _ => rfl) (DE.r de_int) (dr_pv (fun _ => pv 2)))) (DF.de (df_lst (da_cons (de_tup (da_cons de_str (da_cons de_int da_nil))) da_nil))) (DF.de (df_lst da_nil))) (fun _ => sc_first_words.nd))
    (dss_cons (ds_set (i := 4) (DF.de (df_lst da_nil)) (fun _ => sc_first_words.nd))
    (dss_cons (ds_while (fun _ => passes_of rfl) (DW.dt (dw_and (dt_truth (fun _ => rfl) (dr_pv (fun _ => pv 3))) (dw_and1 (DX.dt (dx_ltS (DE.r (de_len (fun _ => rfl) (fun _ => B.len) (db_cons (dr_pv (fun _ => pv 4)) db_nil))) (dr_pv (fun _ => pv 1))))))) (dss_cons (ds_set (i := 4) (de_addA (dr_pv (fun _ => pv 4)) (DE.r (DF.de (df_lcIf (own := [("word", 5), ("state", 6)]) (fun _ => rfl) (fun _ => sc_first_words.nd) (di_seq (fun _ => rfl) (de_pv (fun _ => pv 3))) (dg_tup (n := 2) (fun _ => rfl) (fun _ => rfl) (dgs_cons (dg_pg (fun _ => pg_name (i := 5) sc_first_words.nd rfl (by first | exact Or.inl rfl | exact Or.inr rfl))) (dgs_cons (dg_pg (fun _ => pg_name (i := 6) sc_first_words.nd rfl (by first | exact Or.inl rfl | exact Or.inr rfl))) dgs_nil))) (DX.dt (dx_in (fun _ => rfl) (dr_pv (fun _ => pv 6)) (DE.r (de_ix (fun _ => rfl) (dr_pv (fun _ => pv 0)) (DE.r de_int))))) (de_pv (fun _ => pv 5)) (fun _ => blkOk_by (N := N_first_words) (sc := defScope (topS 25)) (by decide +kernel)))))) (fun _ => sc_first_words.nd))
    (dss_one (ds_set (i := 3) (de_call F__longer_by_one (fun _ => ⟨rfl, rfl, rfl, rfl, rfl⟩) (fun _ => takes_of rfl rfl rfl rfl) (fun _ => hr) (da_cons (de_pv (fun _ => pv 0)) (da_cons (de_pv (fun _ => pv 2)) (da_cons (de_pv (fun _ => pv 3)) da_nil)))) (fun _ => sc_first_words.nd)))))
    (dss_one (ds_retF (df_sl (fun _ => rfl) (dr_pv (fun _ => pv 4)) do_none (do_some (de_pv (fun _ => pv 1)))))))))))))
    (fun ds ed Q h => by
      obtain ⟨M, d, ok, rfl, pd, hq⟩ := h
      unfold N_first_words
      conv => whnf
      refine ⟨M.d, rfl, ok.pl, ?_⟩
      rw [if_pos ok.is]
      conv => whnf
      refine ⟨d, rfl, pd, ?_⟩
      by_cases hb : isWhole d 0 40 = true
      · rw [if_pos hb] at hq ⊢
        obtain ⟨many, rfl, hm⟩ : ∃ many : Nat, d = .int (many : Nat) ∧ many ≤ 40 := by
          cases d with
          | int i =>
            have := (Bool.and_eq_true _ _ ▸ hb : _ ∧ _)
            have h1 : (0 : Int) ≤ i := of_decide_eq_true this.1
            have h2 : i ≤ 40 := of_decide_eq_true this.2
            exact ⟨i.toNat, by rw [Int.toNat_of_nonneg h1], by omega⟩
          | _ => exact nomatch hb
        have hq := hq many rfl hm
        conv => whnf
        refine ⟨M, ok, rfl, ?_⟩
        conv => whnf
        refine ⟨rfl, flat_natsD _, ?_⟩
        show DL.fork (inD (goalD (some 0)) (natsD M.live)) _ _
        rw [in_natsD]
        have go : ∀ De : DEnds, (∀ T, T ≤ 7 * many → (M.lv M.live T = [] ∨ many ≤ (M.allw M.live T).length) → De.nx (fwG M many T .un .un)) → wWhile fwT fwB (fwG M many 0 .un .un) De := fun De fin => ⟨7 * many + 1, fw_loop ok hm fin (7 * many + 1) 0 (by omega) fun i q => absurd q (Nat.not_lt_zero i)⟩
        have out : ∀ T, T ≤ 7 * many → (M.lv M.live T = [] ∨ many ≤ (M.allw M.live T).length) → wRetF (wSlF (wRd 4) wNone (wSome (wVar 1))) (fwG M many T .un .un) (nEnds ed Q) := fun T hT hx => by
          show Q (cut (wordsD (M.allw M.live T)) none (some (many : Nat)))
          rw [cut_take, wordsD, ← List.map_take, ← firsts_of hT hx]
          exact hq
        by_cases hz : 0 ∈ M.live
        · refine fork_t (decide_eq_true hz) ⟨by rw [sizeLine_eq]; show 2 ≤ 16777216; decide, by rw [sizeLine_eq]; show 1 ≤ 16777216; decide, by rw [sizeLine_eq]; show 0 ≤ 16777216; decide, ?_⟩
          have w := go { nEnds ed Q with nx := fun G' => wRetF (wSlF (wRd 4) wNone (wSome (wVar 1))) G' (nEnds ed Q) } out
          have e0 : M.lv M.live 0 = [([], 0)] := if_pos hz
          unfold fwG at w
          rw [e0] at w
          exact w
        · refine fork_f (decide_eq_false hz) ⟨by rw [sizeLine_eq]; show 0 ≤ 16777216; decide, by rw [sizeLine_eq]; show 0 ≤ 16777216; decide, ?_⟩
          have w := go { nEnds ed Q with nx := fun G' => wRetF (wSlF (wRd 4) wNone (wSome (wVar 1))) G' (nEnds ed Q) } out
          have e0 : M.lv M.live 0 = [] := if_neg hz
          unfold fwG at w
          rw [e0] at w
          exact w
      · rw [if_neg hb] at hq ⊢
        exact hq)

end
end T

namespace T
open PySem PySem.Spec PyProof.Rows L2 DL
local macro_rules | `(tactic| walk_at "rd") => `(tactic| simp only [startG, wSq, wIfS, wOr, wAnd, wNot, wB, wCb, wCbF, wCons, wNil, wRd, wC, wVar, wRet, wPass, wChain, wCall, wSet, wSetO, wDrop, wF, wLc, wSeq, wTt, wRng1, wRng2, int1, int2, w2, w2F, wIf, wAndV, wOrV, wNotV, wTru, truD, wAsgT, gT, gsC, gsN, gN, wRaise, wRaise1,
  dEnds, fIsi, fI0, fI, fLt, fIx, fIn, eqA, fIsN, isN, fLen, fAll, fAddA, sign1, flatD, itemsD, vaS, rdS, owS, onB, onI, onS, onO, frzG, inG, wipeG, unO, List.getElem?_cons_zero, List.getElem?_cons_succ, List.set_cons_zero, List.set_cons_succ, List.map_cons, List.map_nil, List.length_cons, List.length_nil, List.cons_append, List.nil_append, List.replicate_succ, List.replicate_zero,
  Nat.reduceSub, Nat.reduceAdd, fork_tt, fork_ff, id, Bool.not_true, Bool.not_false, true_and, and_true, true_or, isi_non_bool, isi_non_int, isi_non_str, isi_non_tuple, isi_bl_bool, isi_bl_int, isi_bl_str, isi_bl_tuple, isi_int_bool, isi_int_int, isi_int_str, isi_int_tuple, isi_str_bool, isi_str_int, isi_str_str, isi_str_tuple, isi_tup_bool, isi_tup_int, isi_tup_str, isi_tup_tuple, isi_lst_bool, isi_lst_int, isi_lst_str, isi_lst_tuple, isi_dic_bool, isi_dic_int, isi_dic_str, isi_dic_tuple])
section
variable {P : Program} {w : World} {K : Fg} {mg : Str → Option Value} {base : Heap}
/-! ### the law's draws -/
def wf__law_spread : WF := fun ds ed Q => ∃ cell k : Int, ds = [.int cell, .int k] ∧ 0 ≤ k ∧ k ≤ 1000000000 ∧ ∀ z : Int, Q (.int z)
theorem len__law_spread {ds : List D} {ed : Value → Prop} {Q : D → Prop} (h : wf__law_spread ds ed Q) : ds.length = 2 := by
  obtain ⟨a, b, rfl, _⟩ := h
  rfl
def primesD : List D := [2147483629, 2147483587, 2147483579, 2147483563, 2147483549, 2147483543, 2147483497, 2147483489, 2147483477, 2147483423, 2147483399, 2147483353, 2147483323].map .int
theorem prime_at {m : Int} {Q : D → Prop} (h : ∀ p : Int, 0 < p → p ≤ 2147483629 → Q (.int p)) : onO (atI primesD (m % 13)) Q := by
  have h0 : 0 ≤ m % 13 := Int.emod_nonneg _ (by decide)
  have h1 : m % 13 < 13 := Int.emod_lt_of_pos _ (by decide)
  generalize m % 13 = r at h0 h1
  obtain ⟨n, rfl⟩ := Int.eq_ofNat_of_zero_le h0
  have hn : n < 13 := by omega
  have key : ∀ n, n < 13 → ∃ p : Int, 0 < p ∧ p ≤ 2147483629 ∧ primesD[n]? = some (.int p) := by
    intro n hn
    match n, hn with
    | 0, _ => exact ⟨_, by decide, by decide, rfl⟩
    | 1, _ => exact ⟨2147483587, by decide, by decide, rfl⟩
    | 2, _ => exact ⟨2147483579, by decide, by decide, rfl⟩
    | 3, _ => exact ⟨2147483563, by decide, by decide, rfl⟩
    | 4, _ => exact ⟨2147483549, by decide, by decide, rfl⟩
    | 5, _ => exact ⟨2147483543, by decide, by decide, rfl⟩
    | 6, _ => exact ⟨2147483497, by decide, by decide, rfl⟩
    | 7, _ => exact ⟨2147483489, by decide, by decide, rfl⟩
    | 8, _ => exact ⟨2147483477, by decide, by decide, rfl⟩
    | 9, _ => exact ⟨2147483423, by decide, by decide, rfl⟩
    | 10, _ => exact ⟨2147483399, by decide, by decide, rfl⟩
    | 11, _ => exact ⟨2147483353, by decide, by decide, rfl⟩
    | 12, _ => exact ⟨2147483323, by decide, by decide, rfl⟩
  obtain ⟨p, h2, h3, h4⟩ := key n hn
  rw [show atI primesD ((n : Nat) : Int) = some (.int p) from atI_nat h4]
  exact h p h2 h3
theorem cpow {i j : Int} (h1 : 0 ≤ j) (h2 : j ≤ 1000) (h3 : -(2 ^ 63) < i) (h4 : i < 2 ^ 63) : CPow i j := ⟨h1, by omega, by omega⟩
theorem mod_lo (a : Int) {b : Int} (h : 0 < b) : 0 ≤ a % b := Int.emod_nonneg _ (by omega)
theorem mod_hi (a : Int) {b : Int} (h : 0 < b) : a % b < b := Int.emod_lt_of_pos _ h
theorem mul_le_of {a b c d : Int} (h1 : 0 ≤ a) (h2 : a ≤ c) (h3 : 0 ≤ b) (h4 : b ≤ d) : a * b ≤ c * d := Int.mul_le_mul h2 h4 h3 (by omega)
abbrev N__law_spread : List Str := ["cell", "k", "primes", "one", "two", "three"]
theorem sc__law_spread : FnScope N__law_spread ["cell", "k"] (defScope (topS 31)) := ⟨rfl, rfl, rfl, by decide +kernel, rfl, by decide +kernel, by decide +kernel⟩
theorem ok__law_spread {f : Addr} {fd : FuncData}  (B : Bl mg)     (F : Fun K "_law_spread" "_law_spread" (topS 31) f fd) (g : mg "_law_spread" = some (.ref f)) (b : Binds K fd ["cell", "k"] []) : DFn P w K mg base "_law_spread" 1 2 (wf__law_spread) := by
  exact dfn_of (N := N__law_spread) F sc__law_spread g b rfl (fun ds ed Q h => len__law_spread h) (fun cdv A outer s H E hr =>
    (dss_cons (ds_if (DX.dt (dx_ge (dr_pv (fun _ => pv 0)) (DE.r (de_pow (DE.r de_int) (DE.r de_int))))) (dss_one (ds_ret (de_pv (fun _ => pv 0)))) dss_nil)
    (dss_cons (ds_set (i := 2) (DF.de (df_lst (da_cons de_int (da_cons de_int (da_cons de_int (da_cons de_int (da_cons de_int (da_cons de_int (da_cons de_int (da_cons de_int da_nil)))))))))) (fun _ => sc__law_spread.nd))
    (dss_cons (ds_set (i := 2) (de_addA (dr_pv (fun _ => pv 2)) (DE.r (DF.de (df_lst (da_cons de_int (da_cons de_int (da_cons de_int (da_cons de_int (da_cons de_int da_nil))))))))) (fun _ => sc__law_spread.nd))
    (dss_cons (ds_set (i := 3) (de_mulA (DE.r (de_mod (DE.r (de_intOf (fun _ => B.int) (db_cons (dr_pv (fun _ => pv 0)) db_nil))) (DE.r de_int))) (DE.r (de_addA (DE.r (de_mulA (DE.r de_int) (dr_pv (fun _ => pv 1)))) (DE.r de_int)))) (fun _ => sc__law_spread.nd))
    (dss_cons (ds_set (i := 3) (de_mod (DE.r (de_intOf (fun _ => B.int) (db_cons (DE.r (de_pow (DE.r (de_addA (DE.r (de_addA (dr_pv (fun _ => pv 3)) (DE.r (de_mulA (dr_pv (fun _ => pv 1)) (DE.r de_int))))) (DE.r de_int))) (DE.r de_int))) db_nil))) (DE.r (de_ix (fun _ => rfl) (dr_pv (fun _ => pv 2)) (DE.r (de_mod (DE.r (de_intOf (fun _ => B.int) (db_cons (dr_pv (fun _ => pv 1)) db_nil))) (DE.r de_int)))))) (fun _ => sc__law_spread.nd))
    (dss_cons (ds_set (i := 4) (de_mod (DE.r (de_intOf (fun _ => B.int) (db_cons (DE.r (de_pow (DE.r (de_addA (DE.r (de_addA (DE.r (de_mulA (dr_pv (fun _ => pv 3)) (DE.r (de_addA (dr_pv (fun _ => pv 1)) (DE.r de_int))))) (DE.r (de_mod (DE.r (de_intOf (fun _ => B.int) (db_cons (dr_pv (fun _ => pv 0)) db_nil))) (DE.r de_int))))) (DE.r de_int))) (DE.r de_int))) db_nil))) (DE.r (de_ix (fun _ => rfl) (dr_pv (fun _ => pv 2)) (DE.r (de_mod (DE.r (de_intOf (fun _ => B.int) (db_cons (DE.r (de_addA (dr_pv (fun _ => pv 1)) (DE.r de_int))) db_nil))) (DE.r de_int)))))) (fun _ => sc__law_spread.nd))
    (dss_cons (ds_set (i := 5) (de_mod (DE.r (de_intOf (fun _ => B.int) (db_cons (DE.r (de_pow (DE.r (de_addA (DE.r (de_addA (dr_pv (fun _ => pv 4)) (DE.r (de_mod (DE.r (de_intOf (fun _ => B.int) (db_cons (dr_pv (fun _ => pv 3)) db_nil))) (DE.r de_int))))) (dr_pv (fun _ => pv 1)))) (DE.r de_int))) db_nil))) (DE.r (de_ix (fun _ => rfl) (dr_pv (fun _ => pv 2)) (DE.r (de_mod (DE.r (de_intOf (fun _ => B.int) (db_cons (DE.r (de_addA (dr_pv (fun _ => pv 1)) (DE.r de_int))) db_nil))) (DE.r de_int)))))) (fun _ => sc__law_spread.nd))
    (dss_one (ds_ret (de_addA (DE.r (de_mulA (DE.r (de_addA (DE.r (de_mulA (dr_pv (fun _ => pv 3)) (DE.r de_int))) (dr_pv (fun _ => pv 4)))) (DE.r de_int))) (dr_pv (fun _ => pv 5)))))))))))))
    (fun ds ed Q h => by
      obtain ⟨cell, k, rfl, h0, h1, hq⟩ := h
      unfold N__law_spread
      conv => whnf
      refine ⟨⟨by decide, by decide, by decide⟩, ?_⟩
      conv => whnf
      refine fork_i (fun _ => hq _) (fun _ => ?_)
      conv => whnf
      refine ⟨by decide +kernel, ?_⟩
      conv => whnf
      refine ⟨by decide +kernel, ?_⟩
      conv => whnf
      refine ⟨by decide +kernel, ?_⟩
      conv => whnf
      refine ⟨(by decide : (0 : Int) < 1000000007), ?_⟩
      have m0 := mod_lo cell (b := 1000000007) (by decide)
      have m1 := mod_hi cell (b := 1000000007) (by decide)
      conv => whnf
      refine ⟨.inl ⟨by decide, by decide⟩, ?_⟩
      conv => whnf
      refine ⟨.inl ⟨by omega, by omega⟩, ?_⟩
      have o1 : cell % 1000000007 * (2 * k + 69069) ≤ 1000000007 * 2000069069 := mul_le_of m0 (by omega) (by omega) (by omega)
      have o0 : 0 ≤ cell % 1000000007 * (2 * k + 69069) := Int.mul_nonneg m0 (by omega)
      conv => whnf
      refine ⟨.inr ⟨by decide, by decide⟩, ?_⟩
      conv => whnf
      refine ⟨cpow (by decide) (by decide) (by omega) (by omega), ?_⟩
      conv => whnf
      refine ⟨(by decide : (0 : Int) < 13), ?_⟩
      refine prime_at (m := k) (fun p p0 p1 => ?_)
      conv => whnf
      refine ⟨p0, ?_⟩
      have a0 := mod_lo ((cell % 1000000007 * (2 * k + 69069) + k * 40503 + 977) ^ (3 : Int).toNat) p0
      have a1 := mod_hi ((cell % 1000000007 * (2 * k + 69069) + k * 40503 + 977) ^ (3 : Int).toNat) p0
      conv => whnf
      generalize (cell % 1000000007 * (2 * k + 69069) + k * 40503 + 977) ^ (3 : Int).toNat % p = one at a0 a1 ⊢
      refine ⟨.inl ⟨by omega, by omega⟩, ?_⟩
      have b1 : one * (k + 3) ≤ 2147483629 * 1000000003 := mul_le_of a0 (by omega) (by omega) (by omega)
      have b0 : 0 ≤ one * (k + 3) := Int.mul_nonneg a0 (by omega)
      conv => whnf
      refine ⟨(by decide : (0 : Int) < 65537), ?_⟩
      have c0 := mod_lo cell (b := 65537) (by decide)
      have c1 := mod_hi cell (b := 65537) (by decide)
      conv => whnf
      refine ⟨cpow (by decide) (by decide) (by omega) (by omega), ?_⟩
      conv => whnf
      refine ⟨(by decide : (0 : Int) < 13), ?_⟩
      refine prime_at (m := k + 5) (fun q q0 q1 => ?_)
      conv => whnf
      refine ⟨q0, ?_⟩
      have d0 := mod_lo ((one * (k + 3) + cell % 65537 + 5) ^ (5 : Int).toNat) q0
      have d1 := mod_hi ((one * (k + 3) + cell % 65537 + 5) ^ (5 : Int).toNat) q0
      conv => whnf
      refine ⟨(by decide : (0 : Int) < 1009), ?_⟩
      have f0 := mod_lo one (b := 1009) (by decide)
      have f1 := mod_hi one (b := 1009) (by decide)
      conv => whnf
      generalize (one * (k + 3) + cell % 65537 + 5) ^ (5 : Int).toNat % q = two at d0 d1 ⊢
      refine ⟨cpow (by decide) (by decide) (by omega) (by omega), ?_⟩
      conv => whnf
      refine ⟨(by decide : (0 : Int) < 13), ?_⟩
      refine prime_at (m := k + 7) (fun r r0 r1 => ?_)
      conv => whnf
      refine ⟨r0, ?_⟩
      conv => whnf
      refine ⟨.inr ⟨by decide, by decide⟩, ?_⟩
      conv => whnf
      refine ⟨.inr ⟨by decide, by decide⟩, ?_⟩
      exact hq _)

/-! ### one of some -/
def wf__law_take : WF := fun ds ed Q => ∃ many : Int, ds = [.int many] ∧ 0 < many ∧ many < 1073741824 ∧ ∀ r : Int, 0 ≤ r → r < many → Q (.int r)
theorem len__law_take {ds : List D} {ed : Value → Prop} {Q : D → Prop} (h : wf__law_take ds ed Q) : ds.length = 1 := by
  obtain ⟨a, rfl, _⟩ := h
  rfl
def wf__law_one_of : WF := fun ds ed Q => ∃ d xs, ds = [d] ∧ itemsD d = some xs ∧ xs ≠ [] ∧ xs.length ≤ 100000 ∧ ∀ x ∈ xs, Q x
theorem len__law_one_of {ds : List D} {ed : Value → Prop} {Q : D → Prop} (h : wf__law_one_of ds ed Q) : ds.length = 1 := by
  obtain ⟨a, _, rfl, _⟩ := h
  rfl
theorem atI_some {α : Type} {xs : List α} {r : Int} (h0 : 0 ≤ r) (h1 : r < xs.length) : ∃ x ∈ xs, atI xs r = some x := by
  obtain ⟨n, rfl⟩ := Int.eq_ofNat_of_zero_le h0
  have hn : n < xs.length := by omega
  exact ⟨xs[n], List.getElem_mem hn, atI_nat (List.getElem?_eq_getElem hn)⟩
abbrev N__law_one_of : List Str := ["pen", "some"]
theorem sc__law_one_of : FnScope N__law_one_of ["pen", "some"] (defScope (topS 33)) := ⟨rfl, rfl, rfl, by decide +kernel, rfl, by decide +kernel, by decide +kernel⟩
theorem ok__law_one_of {f : Addr} {fd : FuncData}  (B : Bl mg)    (F__law_take : PFn P w K mg base "_law_take" 2 1 1 (wf__law_take)) (F : Fun K "_law_one_of" "_law_one_of" (topS 33) f fd) (g : mg "_law_one_of" = some (.ref f)) (b : Binds K fd ["pen", "some"] []) : PFn P w K mg base "_law_one_of" 3 1 1 (wf__law_one_of) := by
  exact pfn_of (N := N__law_one_of) F sc__law_one_of g b rfl (fun ds ed Q h => len__law_one_of h) (fun p cdv A outer s H E hr =>
    (dss_one (ds_ret (de_ix (fun _ => rfl) (dr_pv (fun _ => pv 1)) (DE.r (de_callP (p := p) F__law_take (fun _ => ⟨rfl, rfl, rfl, rfl, rfl⟩) (fun _ h => h) (fun _ => takes_of rfl rfl rfl rfl) (fun _ => hr) (da_cons (de_pv (fun _ => pv 0)) (da_cons (de_len (fun _ => rfl) (fun _ => B.len) (db_cons (dr_pv (fun _ => pv 1)) db_nil)) da_nil)))))))) (by decide)
    (fun p ds ed Q h => by
      obtain ⟨d, xs, rfl, hi, hne, hs, hq⟩ := h
      have hl : 0 < xs.length := by cases xs with
        | nil => exact absurd rfl hne
        | cons a r => simp
      unfold N__law_one_of
      cases d with
      | lst ys =>
        cases hi
        conv => whnf
        refine ⟨rfl, _, rfl, by omega, by omega, fun r r0 r1 => ?_⟩
        obtain ⟨x, hx, e⟩ := atI_some r0 r1
        show onO (atI xs r) Q
        rw [e]
        exact hq x hx
      | tup ys =>
        cases hi
        conv => whnf
        refine ⟨rfl, _, rfl, by omega, by omega, fun r r0 r1 => ?_⟩
        obtain ⟨x, hx, e⟩ := atI_some r0 r1
        show onO (atI xs r) Q
        rw [e]
        exact hq x hx
      | str z =>
        cases hi
        have el : (chars z).length = z.length := by unfold chars; rw [List.length_map]; rfl
        rw [el] at hs hl
        conv => whnf
        refine ⟨small_line hs, ?_⟩
        conv => whnf
        refine ⟨rfl, _, rfl, by omega, by omega, fun r r0 r1 => ?_⟩
        obtain ⟨x, hx, e⟩ := atI_some (xs := z.cps.toList) r0 r1
        refine ⟨small_line hs, ?_⟩
        show onO (atI z.cps.toList r) _
        rw [e]
        exact hq _ (List.mem_map.mpr ⟨x, hx, rfl⟩)
      | _ => exact nomatch hi)

abbrev N__law_take : List Str := ["pen", "many", "k", "cell", "found"]
theorem sc__law_take : FnScope N__law_take ["pen", "many"] (defScope ((topS 32))) := ⟨rfl, rfl, rfl, by decide +kernel, rfl, by decide +kernel, by decide +kernel⟩
theorem sql_of {H : Hp} {a : Addr} {xs : List V} (h : H a = some (.lst xs)) : SqL K H a xs := .inl (.inl h)
theorem cells_at {cells : List Int} {i : Int} (h0 : 0 ≤ i) (h1 : i < cells.length) : ∃ y : Int, atI (cells.map V.int) i = some (.int y) := by
  obtain ⟨n, rfl⟩ := Int.eq_ofNat_of_zero_le h0
  have hn : n < cells.length := by omega
  refine ⟨cells[n], atI_nat ?_⟩
  rw [List.getElem?_map, List.getElem?_eq_getElem hn]
  rfl
abbrev tTail (K : Fg) : TS := tSeq (tAsg (tOp (rI (fun _ j => 0 < j) fun i j => .int (i % j)) (tCB (fun xs H Q => (∃ i, xs = [.int i] ∧ Q (.int i) H) ∨ ∃ k, xs = [.bl k] ∧ Q (.int (if k then 1 else 0)) H) (tCons (tOp (rIxL K) (tVar 0) (tC (.int 2))) tNil)) (tVar 1)) (gName 4))
  (tSeq (tAsg (tOp (rI CDiv fun i j => .int (i / j)) (tOp (rIxL K) (tVar 0) (tC (.int 2))) (tVar 1)) (gSub (tVar 0) (tC (.int 2)) rSetL)) (tRet (tVar 4)))
theorem ext_pen {p c : Addr} {H H2 : Hp} {x y : HO} (ex : Ex (upd H p x) H2) : Ext (penP p c).is H (upd H2 p y) := fun a o na hh => by
  rw [upd_ne fun e => na (.inl e)]
  exact ex a o (by rw [upd_ne fun e => na (.inl e)]; exact hh)
theorem take_tail {De : Ends} {p c : Addr} {n : Nat} {H H1 : Hp} {many k1 z1 : Int} {cells : List Int} {s2 s3 s4 : Option V} {av : Av} {Qd : D → Prop} (m0 : 0 < many) (m1 : many < 1073741824) (pne : p ≠ c) (h2 : cells.length ≤ 12) (e : Ext (penP p c).is H H1) (h1 : H1 c = some (.lst (cells.map V.int))) (h3 : H1 p = some (.lst [.ref c, .int k1, .int z1]))
    (h4 : 0 ≤ k1) (h5 : k1 + n ≤ 1000000000) (hq : ∀ r : Int, 0 ≤ r → r < many → Qd (.int r)) (hQ : ∀ v H' d, Qd d → Ext (penP p c).is H H' → penOk p c n H' → Rp K av H' v d → De.rt v H') : tTail K De [some (.ref p), some (.int many), s2, s3, s4] H1 := by
  refine ⟨_, rfl, p, _, 2, .int z1, rfl, rfl, sql_of h3, rfl, .inl ⟨z1, rfl, _, rfl, z1, many, rfl, rfl, m0, ?_⟩⟩
  refine ⟨_, rfl, p, _, 2, .int z1, rfl, rfl, sql_of h3, rfl, _, rfl, z1, many, rfl, rfl, ⟨m0, m1⟩, _, rfl, p, _, 2, 2, rfl, rfl, h3, rfl, ?_⟩
  refine ⟨_, rfl, ?_⟩
  refine hQ _ _ (.int (z1 % many)) (hq _ (mod_lo _ m0) (mod_hi _ m0)) (fun a o na hh => ?_) ⟨pne, cells, k1, z1 / many, ?_, h2, upd_same, h4, h5⟩ (.int _)
  · rw [upd_ne fun z => na (.inl z)]
    exact e a o na hh
  · rw [upd_ne (Ne.symm pne)]
    exact h1
theorem ok__law_take {f : Addr} {fd : FuncData} (B : Bl mg) (FS : DFn P w K mg base "_law_spread" 1 2 wf__law_spread) (F : Fun K "_law_take" "_law_take" ((topS 32)) f fd) (g : mg "_law_take" = some (.ref f)) (b : Binds K fd ["pen", "many"] []) : PFn P w K mg base "_law_take" 2 1 1 wf__law_take := by
  obtain ⟨fS, fdS, psS, gS, kS, bS, okS⟩ := FS.ex
  refine ⟨fun ds ed Q h => len__law_take h, f, fd, ["pen", "many"], g, F.kp, b, ?_⟩
  refine F.okX (N := N__law_take) (k := 1) sc__law_take (fun vs H Q E h => h.1) fun cdv A outer s H vs Q E hr h => ?_
  obtain ⟨hl, p, c, n, av, rest, ds, ed, Qd, rfl, hok, hp, hc, ha, r, hwf, hE, hQ⟩ := h
  obtain ⟨many, rfl, m0, m1, hq⟩ := hwf
  cases r with
  | cons r rr =>
  cases rr
  cases r
  have nd := sc__law_take.nd
  obtain ⟨pne, cells, k, z, h1, h2, h3, h4, h5⟩ := hok
  refine ⟨_, pss_cons (ps_if (pt_cmpR op_lt (pe_ix ix_list (pv 0) pe_int (fun _ _ => rfl)) (pv 1) (nomark _))
      (pss_cons (ps_set (i := 2) nd rfl (.inl rfl) (pe_ix ix_list (pv 0) pe_int (fun _ _ => rfl)))
      (pss_cons (ps_set (i := 3) nd rfl (.inl rfl) pe_int)
      (pss_cons (ps_if (pt_cmpR op_lt (pv 2) (pe_callB call_len_seq (by rfl) B.len PySem.boot_len (pa_cons (pe_ix ix_list (pv 0) pe_int (fun _ _ => rfl)) pa_nil)) (nomark _))
        (pss_one (ps_set (i := 3) nd rfl (.inl rfl) (pe_ix ix_list (pe_ix ix_list (pv 0) pe_int (fun _ _ => rfl)) (pv 2) (fun _ _ => rfl))))
        (pss_one (ps_if (pt_cmpR op_gt (pe_callB call_len_seq (by rfl) B.len PySem.boot_len (pa_cons (pe_ix ix_list (pv 0) pe_int (fun _ _ => rfl)) pa_nil)) pe_int (nomark _))
          (pss_one (ps_set (i := 3) nd rfl (.inl rfl) (pe_op op_mod (pe_callTy call_int1 (by rfl) B.int bt_int (pa_cons (pe_ix ix_list (pe_ix ix_list (pv 0) pe_int (fun _ _ => rfl)) (pe_op op_mod (pe_callTy call_int1 (by rfl) B.int bt_int (pa_cons (pe_op op_add (pe_op op_mul (pv 2) pe_int) pe_int) pa_nil)) (pe_callB call_len_seq (by rfl) B.len PySem.boot_len (pa_cons (pe_ix ix_list (pv 0) pe_int (fun _ _ => rfl)) pa_nil))) (fun _ _ => rfl)) pa_nil)) (pe_op op_add (pe_op op_pow pe_int pe_int) (pv 2))))) pss_nil)))
      (pss_cons (ps_asg (pe_op op_add (pv 2) pe_int) (pg_sub (pv 0) pe_int set_list))
      (pss_one (ps_asg (pe_callS okS hr (by rfl) gS kS bS (fun σ => passAt (takes_of rfl rfl rfl rfl) σ) (pa_cons (pv 3) (pa_cons (pv 2) pa_nil))) (pg_sub (pv 0) pe_int set_list))))))) pss_nil)
    (pss_cons (ps_set (i := 4) nd rfl (.inl rfl) (pe_op op_mod (pe_callTy call_int1 (by rfl) B.int bt_int (pa_cons (pe_ix ix_list (pv 0) pe_int (fun _ _ => rfl)) pa_nil)) (pv 1)))
    (pss_cons (ps_asg (pe_op op_fdiv (pe_ix ix_list (pv 0) pe_int (fun _ _ => rfl)) (pv 1)) (pg_sub (pv 0) pe_int set_list))
    (pss_one (ps_ret (pv 4))))), ?_⟩
  refine ⟨_, rfl, p, _, 2, .int z, rfl, rfl, sql_of h3, rfl, _, rfl, z, many, rfl, rfl, _, rfl, ite2 (fun _ => ?_) (fun _ => ?_)⟩
  · -- the refill
    refine ⟨_, rfl, p, _, 1, .int k, rfl, rfl, sql_of h3, rfl, ?_⟩
    have hcl : SqL K H c (cells.map V.int) := sql_of h1
    refine ⟨_, rfl, _, rfl, p, _, 0, .ref c, rfl, rfl, sql_of h3, rfl, c, _, rfl, .inl hcl, k, _, rfl, rfl, _, rfl, ite2 (fun hlt => ?_) (fun _ => ?_)⟩
    · have hlt : k < (cells.map V.int).length := of_decide_eq_true hlt
      rw [List.length_map] at hlt
      obtain ⟨y, hy⟩ := cells_at h4 hlt
      refine ⟨_, rfl, p, _, 0, .ref c, rfl, rfl, sql_of h3, rfl, _, rfl, c, _, k, .int y, rfl, rfl, hcl, hy, ?_⟩
      refine ⟨_, rfl, k, 1, rfl, rfl, _, rfl, p, _, 1, 1, rfl, rfl, h3, rfl, ?_⟩
      refine ⟨_, rfl, _, rfl, rfl, fun _ => False, [.int y, .int k], fun _ => False, fun d => ∃ z, d = .int z, fun _ z => z.elim, .cons (.int _) (.cons (.int _) .nil), ⟨y, k, rfl, h4, by omega, fun z => ⟨z, rfl⟩⟩, fun _ _ z => z.elim, fun v H2 d hd ex rv => ?_⟩
      obtain ⟨z1, rfl⟩ := hd
      cases rv
      refine ⟨_, rfl, p, _, 2, 2, rfl, rfl, ex p _ upd_same, rfl, ?_⟩
      refine take_tail m0 m1 pne h2 (ext_pen ex) ?_ upd_same (k1 := k + 1) (by omega) (by omega) hq hQ
      · rw [upd_ne (Ne.symm pne)]
        exact ex c _ (by rw [upd_ne (Ne.symm pne)]; exact h1)
    · refine ⟨_, rfl, p, _, 0, .ref c, rfl, rfl, sql_of h3, rfl, c, _, rfl, .inl hcl, _, 0, rfl, rfl, _, rfl, ite2 (fun hlt => ?_) (fun _ => ?_)⟩
      · have hlt : (0 : Int) < (cells.map V.int).length := of_decide_eq_true hlt
        have hl2 := hlt
        rw [List.length_map] at hlt
        obtain ⟨y, hy⟩ := cells_at (cells := cells) (i := (k * 5 + 3) % ((cells.map V.int).length : Int)) (mod_lo _ hl2) (by have := mod_hi (k * 5 + 3) hl2; rw [List.length_map] at this ⊢; exact this)
        refine ⟨_, rfl, p, _, 0, .ref c, rfl, rfl, sql_of h3, rfl, ?_⟩
        have hpos : (0 : Int) < 10 ^ (17 : Int).toNat + k := by
          have : (0 : Int) < 10 ^ (17 : Int).toNat := by decide
          omega
        refine ⟨_, rfl, k, 5, rfl, rfl, .inr ⟨by decide, by decide⟩, k * 5, 3, rfl, rfl, .inl ⟨k * 5 + 3, rfl, _, rfl, p, _, 0, .ref c, rfl, rfl, sql_of h3, rfl, c, _, rfl, .inl hcl, k * 5 + 3, _, rfl, rfl, hl2, c, _, _, .int y, rfl, rfl, hcl, hy, .inl ⟨y, rfl, 10, 17, rfl, rfl, ⟨by decide, by decide, by decide⟩, _, rfl, _, k, rfl, rfl, y, _, rfl, rfl, hpos, ?_⟩⟩⟩
        refine ⟨_, rfl, k, 1, rfl, rfl, _, rfl, p, _, 1, 1, rfl, rfl, h3, rfl, ?_⟩
        refine ⟨_, rfl, _, rfl, rfl, fun _ => False, [.int (y % (10 ^ (17 : Int).toNat + k)), .int k], fun _ => False, fun d => ∃ z, d = .int z, fun _ z => z.elim, .cons (.int _) (.cons (.int _) .nil), ⟨(y % (10 ^ (17 : Int).toNat + k)), k, rfl, h4, by omega, fun z => ⟨z, rfl⟩⟩, fun _ _ z => z.elim, fun v H2 d hd ex rv => ?_⟩
        obtain ⟨z1, rfl⟩ := hd
        cases rv
        refine ⟨_, rfl, p, _, 2, 2, rfl, rfl, ex p _ upd_same, rfl, ?_⟩
        refine take_tail m0 m1 pne h2 (ext_pen ex) ?_ upd_same (k1 := k + 1) (by omega) (by omega) hq hQ
        · rw [upd_ne (Ne.symm pne)]
          exact ex c _ (by rw [upd_ne (Ne.symm pne)]; exact h1)
      · refine ⟨_, rfl, k, 1, rfl, rfl, _, rfl, p, _, 1, 1, rfl, rfl, h3, rfl, ?_⟩
        refine ⟨_, rfl, _, rfl, rfl, fun _ => False, [.int 0, .int k], fun _ => False, fun d => ∃ z, d = .int z, fun _ z => z.elim, .cons (.int _) (.cons (.int _) .nil), ⟨0, k, rfl, h4, by omega, fun z => ⟨z, rfl⟩⟩, fun _ _ z => z.elim, fun v H2 d hd ex rv => ?_⟩
        obtain ⟨z1, rfl⟩ := hd
        cases rv
        refine ⟨_, rfl, p, _, 2, 2, rfl, rfl, ex p _ upd_same, rfl, ?_⟩
        refine take_tail m0 m1 pne h2 (ext_pen ex) ?_ upd_same (k1 := k + 1) (by omega) (by omega) hq hQ
        · rw [upd_ne (Ne.symm pne)]
          exact ex c _ (by rw [upd_ne (Ne.symm pne)]; exact h1)
  · exact take_tail m0 m1 pne h2 (.refl _ _) h1 h3 h4 (by omega) hq hQ
/-! ### the pen is made -/
abbrev N__law_open : List Str := ["script", "cells", "k", "cell"]
theorem sc__law_open : FnScope N__law_open ["script"] (defScope ((topS 30))) := ⟨rfl, rfl, rfl, by decide +kernel, rfl, by decide +kernel, by decide +kernel⟩
def spOpen (K : Fg) : Sp := fun vs H Q _ => ∃ (a : Addr) (ns : List Int), vs = [.ref a] ∧ SqL K H a (ns.map V.int) ∧ ∀ H' p c, Ex H H' → H p = none → H c = none → penOk p c 1000000000 H' → Q (.ref p) H'
theorem sqt_of {H : Hp} {a : Addr} {xs : List V} (h : H a = some (.tup xs)) : SqT K H a xs := .inl (.inl h)
theorem cutV_map (ns : List Int) (lo hi : Option Int) : cutV (ns.map V.int) lo hi = (cut ns lo hi).map V.int := by
  unfold cutV cut
  rw [List.length_map, List.map_take, List.map_drop]
theorem sql_ex {H H' : Hp} {a : Addr} {xs : List V} (e : Ex H H') (h : SqL K H a xs) : SqL K H' a xs := by
  rcases h with (h | ⟨o, h⟩) | h
  · exact .inl (.inl (e _ _ h))
  · exact .inl (.inr ⟨o, e _ _ h⟩)
  · exact .inr h
theorem cut_len12 (ns : List Int) : (cut ns none (some 12)).length = min 12 ns.length := by
  unfold cut
  rw [List.length_take, List.length_drop, show HT.sIx ns.length 0 none = 0 from HT.sIx_none _ _, show HT.sIx ns.length ns.length (some 12) = min 12 ns.length from HT.sIx_nat ns.length ns.length 12]
  omega
theorem cut_len63 (ns : List Int) : (cut ns (some 12) (some 63)).length ≤ ns.length - 12 := by
  unfold cut
  rw [List.length_take, List.length_drop, show HT.sIx ns.length 0 (some 12) = min 12 ns.length from HT.sIx_nat ns.length 0 12]
  omega
theorem ok__law_open {f : Addr} {fd : FuncData} (B : Bl mg) (F : Fun K "_law_open" "_law_open" ((topS 30)) f fd) : FnOk P w K mg base (L2.CX P w) 1 f fd ["script"] (spOpen K) := by
  refine F.okX (N := N__law_open) (k := 0) sc__law_open (fun vs H Q E h => by obtain ⟨a, ns, rfl, _⟩ := h; rfl) fun cdv A outer s H vs Q E hr h => ?_
  obtain ⟨a, ns, rfl, hS, hQ⟩ := h
  have nd := sc__law_open.nd
  refine ⟨_, pss_cons (ps_set (i := 1) nd rfl (.inl rfl) (pe_callTy call_list_of (by rfl) B.list bt_list (pa_cons (pe_slice sl_list (pv 0) po_none (po_some pe_int)) pa_nil)))
    (pss_cons (ps_for (passes_of rfl) rfl (pi_enum (by rfl) B.enumerate (pa_cons (pe_slice sl_list (pv 0) (po_some pe_int) (po_some pe_int)) pa_nil)) (pg_tup rfl (pgs_cons (pg_name (i := 2) nd rfl (.inl rfl)) (pgs_cons (pg_name (i := 3) nd rfl (.inl rfl)) pgs_nil)))
      (pss_one (ps_asg (pe_op op_add (pe_ix ix_list (pv 1) (pe_op op_mod (pe_callTy call_int1 (by rfl) B.int bt_int (pa_cons (pv 2) pa_nil)) pe_int) (fun _ _ => rfl)) (pv 3)) (pg_sub (pv 1) (pe_op op_mod (pe_callTy call_int1 (by rfl) B.int bt_int (pa_cons (pv 2) pa_nil)) pe_int) set_list))))
    (pss_one (ps_ret (pe_lst (pa_cons (pv 1) (pa_cons pe_int (pa_cons pe_int pa_nil))))))), ?_⟩
  refine ⟨_, rfl, 12, rfl, a, _, rfl, hS, fun t0 n0 => ?_⟩
  refine ⟨t0, _, rfl, .inl (sql_of upd_same), fun l nl => ?_⟩
  have e1 : Ex H (upd H t0 (.lst (cutV (ns.map V.int) none (some 12)))) := ex_new n0
  have e2 : Ex H (upd (upd H t0 (.lst (cutV (ns.map V.int) none (some 12)))) l (.lst (cutV (ns.map V.int) none (some 12)))) := fun a o h => ex_new nl a o (e1 a o h)
  have nlH : H l = none := by
    cases q : H l with
    | none => rfl
    | some o => rw [e1 l o q] at nl; exact nomatch nl
  have el : (upd (upd H t0 (.lst (cutV (ns.map V.int) none (some 12)))) l (.lst (cutV (ns.map V.int) none (some 12)))) l = some (.lst ((cut ns none (some 12)).map V.int)) := by rw [upd_same, cutV_map]
  generalize upd (upd H t0 (.lst (cutV (ns.map V.int) none (some 12)))) l (.lst (cutV (ns.map V.int) none (some 12))) = H2 at e2 el ⊢
  refine ⟨_, rfl, 12, rfl, 63, rfl, a, _, rfl, sql_ex e2 hS, fun b nb => ?_⟩
  have lb : l ≠ b := ne_of_none el nb
  have e3 : Ex H (upd H2 b (.lst (cutV (ns.map V.int) (some 12) (some 63)))) := fun a o h => ex_new nb a o (e2 a o h)
  have el3 : (upd H2 b (.lst (cutV (ns.map V.int) (some 12) (some 63)))) l = some (.lst ((cut ns none (some 12)).map V.int)) := by rw [upd_ne lb]; exact el
  have eb3 : (upd H2 b (.lst (cutV (ns.map V.int) (some 12) (some 63)))) b = some (.lst ((cut ns (some 12) (some 63)).map V.int)) := by rw [upd_same, cutV_map]
  generalize upd H2 b (.lst (cutV (ns.map V.int) (some 12) (some 63))) = H3 at e3 el3 eb3 ⊢
  refine ⟨b, _, rfl, sql_of eb3, ?_⟩
  refine for_it walk_enum (fun i σ' H' => ∃ (y2 y3 : Option V) (cs : List Int), σ' = [some (.ref a), some (.ref l), y2, y3] ∧ Ex H H' ∧ (H' b = some (.lst ((cut ns (some 12) (some 63)).map V.int))) ∧ H' l = some (.lst (cs.map V.int)) ∧ cs.length = min 12 ns.length)
    ⟨none, none, _, rfl, e3, eb3, el3, cut_len12 ns⟩ (fun i σ' H' _ ⟨_, _, _, _, _, hb, _⟩ => sql_of hb) ?_ ?_
  · rintro i x σ' H' H4 hi ⟨y2, y3, cs, rfl, e', hb, hl, hlen⟩ ⟨T, u, v, rfl, nT, rfl, hu, hv⟩
    cases hu
    have hi' : i < ns.length - 12 := by
      have := cut_len63 ns
      rw [List.length_map] at hi
      omega
    obtain ⟨y, rfl⟩ : ∃ y : Int, v = .int y := by
      have hv : ((cut ns (some 12) (some 63)).map V.int)[i]? = some v := hv
      rw [List.getElem?_map] at hv
      cases q : (cut ns (some 12) (some 63))[i]? with
      | none => rw [q] at hv; exact nomatch hv
      | some y => rw [q] at hv; exact ⟨y, (Option.some.inj hv).symm⟩
    have lT : l ≠ T := ne_of_none hl nT
    have bT : b ≠ T := ne_of_none hb nT
    refine ⟨T, _, rfl, sqt_of upd_same, rfl, _, _, rfl, _, _, rfl, rfl, ?_⟩
    have hlT : (upd H' T (.tup [.int (i : Nat), .int y])) l = some (.lst (cs.map V.int)) := by rw [upd_ne lT]; exact hl
    have hbT : (upd H' T (.tup [.int (i : Nat), .int y])) b = some (.lst ((cut ns (some 12) (some 63)).map V.int)) := by rw [upd_ne bT]; exact hb
    have eT : Ex H (upd H' T (.tup [.int (i : Nat), .int y])) := fun a o h => ex_new nT a o (e' a o h)
    generalize upd H' T (.tup [.int (i : Nat), .int y]) = H5 at hlT hbT eT ⊢
    have m0 := mod_lo ((i : Nat) : Int) (b := 12) (by decide)
    have m1 := mod_hi ((i : Nat) : Int) (b := 12) (by decide)
    have c12 : cs.length = 12 := by omega
    obtain ⟨j, hj⟩ := Int.eq_ofNat_of_zero_le m0
    have hj12 : j < cs.length := by omega
    obtain ⟨z, hz⟩ := cells_at (cells := cs) (i := ((i : Nat) : Int) % 12) m0 (by rw [c12]; exact m1)
    refine ⟨_, rfl, _, rfl, .inl ⟨_, rfl, _, 12, rfl, rfl, (by decide : (0 : Int) < 12), l, _, _, .int z, rfl, rfl, sql_of hlT, hz, _, rfl, z, y, rfl, rfl, _, rfl, _, rfl, .inl ⟨_, rfl, _, 12, rfl, rfl, (by decide : (0 : Int) < 12), l, _, _, j, rfl, rfl, hlT, ?_, ?_⟩⟩⟩
    · unfold ixN
      rw [hj, List.length_map, if_pos (by omega), if_pos (by omega)]
      rfl
    · refine ⟨_, _, cs.set j (z + y), rfl, fun b' o h => ?_, ?_, ?_, by rw [List.length_set]; exact hlen⟩
      · rw [upd_ne (ne_of_none h nlH)]
        exact eT b' o h
      · rw [upd_ne (Ne.symm lb)]
        exact hbT
      · rw [upd_same, List.map_set]
  · rintro σ' H' ⟨y2, y3, cs, rfl, e', hb, hl, hlen⟩
    refine ⟨_, rfl, by show 3 ≤ sizeLine; decide +kernel, fun p np => ?_⟩
    have pH : H p = none := by
      cases q : H p with
      | none => rfl
      | some o => rw [e' p o q] at np; exact nomatch np
    refine hQ _ p l (fun a o h => ex_new np a o (e' a o h)) pH nlH ⟨fun z => ?_, cs, 0, 0, ?_, by omega, upd_same, by omega, by omega⟩
    · subst z
      rw [np] at hl
      exact nomatch hl
    · rw [upd_ne (ne_of_none hl np)]
      exact hl
end
end T

namespace T
open PySem PySem.Spec PyProof.Rows L2 DL
section
variable {P : Program} {w : World} {K : Fg} {mg : Str → Option Value} {base : Heap}
/-! ### the law's run -/
def wf__law_run : WF := fun ds ed Q => ∃ (M : Mach) (s : Option Nat) (w : List Nat), M.Ok ∧ ds = [M.d, goalD s, .str (txt w)] ∧ M.In s ∧ (∀ c ∈ w, c ∈ M.ls) ∧ Q (goalD (M.run s w))
theorem len__law_run {ds : List D} {ed : Value → Prop} {Q : D → Prop} (h : wf__law_run ds ed Q) : ds.length = 3 := by
  obtain ⟨_, _, _, _, rfl, _⟩ := h
  rfl
abbrev N__law_run : List Str := ["machine", "state", "word", "letter"]
theorem sc__law_run : FnScope N__law_run ["machine", "state", "word"] (defScope (topS 35)) := ⟨rfl, rfl, rfl, by decide +kernel, rfl, by decide +kernel, by decide +kernel⟩
theorem ok__law_run {f : Addr} {fd : FuncData}  (B : Bl mg)     (F : Fun K "_law_run" "_law_run" (topS 35) f fd) (g : mg "_law_run" = some (.ref f)) (b : Binds K fd ["machine", "state", "word"] []) : DFn P w K mg base "_law_run" 1 3 (wf__law_run) := by
  exact dfn_of (N := N__law_run) F sc__law_run g b rfl (fun ds ed Q h => len__law_run h) (fun cdv A outer s H E hr =>
    (dss_cons (ds_for (fun _ => passes_of rfl) (fun _ => rfl) (di_seq (fun _ => rfl) (de_pv (fun _ => pv 2))) (dg_pg (fun _ => pg_name (i := 3) sc__law_run.nd rfl (.inl rfl))) (dss_one (ds_set (i := 1) (de_if (DX.dt (dx_isN (dr_pv (fun _ => pv 1)) (DE.r de_non))) de_non (de_ix (fun _ => rfl) (DE.r (de_ix (fun _ => rfl) (DE.r (de_ix (fun _ => rfl) (dr_pv (fun _ => pv 0)) (DE.r de_int))) (dr_pv (fun _ => pv 1)))) (DE.r (de_index (fun _ => rfl) (fun _ => rfl) (fun _ => takes_of rfl rfl rfl rfl) (DE.r (de_ix (fun _ => rfl) (dr_pv (fun _ => pv 0)) (DE.r de_int))) (db_cons (dr_pv (fun _ => pv 3)) db_nil))))) (fun _ => sc__law_run.nd))))
    (dss_one (ds_ret (de_pv (fun _ => pv 1))))))
    (fun ds ed Q h => by
      obtain ⟨M, s, w, ok, rfl, hs, hw, hq⟩ := h
      unfold N__law_run
      conv => whnf
      refine ⟨.inl rfl, ?_⟩
      rw [chars_txt]
      refine forW_ind (fun r G => ∃ (s' : Option Nat) (w' : List Nat) (x : Slot), r = w'.map (fun c => .str ⟨#[c]⟩) ∧ (∀ c ∈ w', c ∈ M.ls) ∧ M.In s' ∧ M.run s' w' = M.run s w ∧ G = [.dat M.d, .dat (goalD s'), .dat (.str (txt w)), x]) ?_ ?_ _ _ ⟨s, w, .un, rfl, hw, hs, rfl, rfl⟩
      · rintro d r G ⟨s', w', x, e, hw', hs', hr, rfl⟩ next
        cases w' with
        | nil => exact nomatch e
        | cons c w' =>
          cases e
          have hw2 : ∀ c' ∈ w', c' ∈ M.ls := fun c' h => hw' c' (List.mem_cons_of_mem _ h)
          cases s' with
          | none =>
            refine ⟨rfl, fork_t rfl ?_⟩
            exact next _ ⟨none, w', _, rfl, hw2, hs', by rw [← hr, Mach.run_none, Mach.run_none], rfl⟩
          | some k =>
            have hc := hw' c List.mem_cons_self
            obtain ⟨r, h1, h2, h3, h4⟩ := ok.at (hs' k rfl) hc
            have e1 : atI M.rowsD (k : Int) = some (.tup (r.map goalD)) := atI_nat (by rw [Mach.rowsD, List.getElem?_map, h2]; rfl)
            have e2 : atI (r.map goalD) ((M.ls.idxOf c : Nat) : Int) = some (goalD (M.step k c)) := atI_nat (by rw [List.getElem?_map, h3]; rfl)
            refine ⟨rfl, fork_f rfl ?_⟩
            conv => whnf
            refine onO_i e1 ?_
            conv => whnf
            refine ⟨rfl, ?_⟩
            refine onO_i (index_one hc) ?_
            refine onO_i e2 ?_
            exact next _ ⟨M.step k c, w', .dat (.str ⟨#[c]⟩), rfl, hw2, ok.inn (hs' k rfl) hc, hr, rfl⟩
      · rintro G ⟨s', w', x, e, hw', hs', hr, rfl⟩
        cases w' with
        | nil =>
          rw [← hr] at hq
          exact hq
        | cons c w' => exact nomatch e)

def wf__law_has : WF := fun ds ed Q => ∃ (M : Mach) (w : List Nat), M.Ok ∧ ds = [M.d, .str (txt w)] ∧ (∀ c ∈ w, c ∈ M.ls) ∧ Q (.bl (M.has w))
theorem len__law_has {ds : List D} {ed : Value → Prop} {Q : D → Prop} (h : wf__law_has ds ed Q) : ds.length = 2 := by
  obtain ⟨_, _, _, rfl, _⟩ := h
  rfl
abbrev N__law_has : List Str := ["machine", "word"]
theorem sc__law_has : FnScope N__law_has ["machine", "word"] (defScope (topS 36)) := ⟨rfl, rfl, rfl, by decide +kernel, rfl, by decide +kernel, by decide +kernel⟩
theorem ok__law_has {f : Addr} {fd : FuncData}  (B : Bl mg)    (F__law_run : DFn P w K mg base "_law_run" 1 3 (wf__law_run)) (F : Fun K "_law_has" "_law_has" (topS 36) f fd) (g : mg "_law_has" = some (.ref f)) (b : Binds K fd ["machine", "word"] []) : DFn P w K mg base "_law_has" 2 2 (wf__law_has) := by
  exact dfn_of (N := N__law_has) F sc__law_has g b rfl (fun ds ed Q h => len__law_has h) (fun cdv A outer s H E hr =>
    (dss_one (ds_ret (DX.de (dx_in (fun _ => rfl) (DE.r (de_call F__law_run (fun _ => ⟨rfl, rfl, rfl, rfl, rfl⟩) (fun _ => takes_of rfl rfl rfl rfl) (fun _ => hr) (da_cons (de_pv (fun _ => pv 0)) (da_cons de_int (da_cons (de_pv (fun _ => pv 1)) da_nil))))) (DE.r (de_ix (fun _ => rfl) (dr_pv (fun _ => pv 0)) (DE.r de_int))))))))
    (fun ds ed Q h => by
      obtain ⟨M, w, ok, rfl, hw, hq⟩ := h
      unfold N__law_has
      conv => whnf
      refine ⟨M, some 0, w, ok, rfl, fun k e => by cases e; exact ok.r0, hw, ?_⟩
      conv => whnf
      refine ⟨flat_goal _, flat_ints _, ?_⟩
      have e := in_nats (M.run (some 0) w) M.ends
      unfold Mach.has at hq
      rw [show inD (goalD (M.run (some 0) w)) M.endsD = _ from e]
      exact hq)

end
end T

namespace T
open PySem PySem.Spec PyProof.Rows L2 DL
section
variable {P : Program} {w : World} {K : Fg} {mg : Str → Option Value} {base : Heap}
def sgD (c : Nat) : D := .str ⟨#[c]⟩
theorem alpha_lt : ∀ c ∈ Str.cps "abcdefghijklmnopqrstuvwxyz" |>.toList, c < 128 := by decide +kernel
theorem Mach.Ok.sign {M : Mach} (ok : M.Ok) {c : Nat} (h : c ∈ M.ls) : c < 128 := by
  have h1 := (Bool.and_eq_true _ _ ▸ ok.ls : _ ∧ _).1
  have h2 := (Bool.and_eq_true _ _ ▸ h1 : _ ∧ _).2
  exact alpha_lt c (of_decide_eq_true (List.all_eq_true.mp h2 c h))
theorem lay_signs : ∀ {cs : List Nat}, (∀ c ∈ cs, c < 128) → PyData.canLayAll0 (cs.map fun c => .str ⟨#[c]⟩) = true ∧ PyData.depthAll (cs.map fun c => .str ⟨#[c]⟩) = 0
  | [], _ => ⟨rfl, rfl⟩
  | c :: r, h => by
    obtain ⟨h1, h2⟩ := lay_signs (cs := r) fun c' m => h c' (List.mem_cons_of_mem _ m)
    have hc := h c List.mem_cons_self
    have e : PyData.canLay0 (.str ⟨#[c]⟩) = true := by
      show PyData.strOk ⟨#[c]⟩ = true
      have : c < 0x110000 := by omega
      simp [PyData.strOk, this]
    constructor
    · rw [List.map_cons, PyData.canLayAll0, e, h1]; rfl
    · rw [List.map_cons, PyData.depthAll, h2]; rfl
theorem shaped_signs {cs : List Nat} (h : ∀ c ∈ cs, c < 128) : SeqAt.shaped (.list (cs.map fun c => .str ⟨#[c]⟩)) = true := by
  obtain ⟨h1, h2⟩ := lay_signs h
  unfold SeqAt.shaped
  rw [PyData.canLay0, PyData.depth, h1, h2]
  rfl
theorem py_signs (cs : List Nat) : pyD (.lst (cs.map sgD)) = some (.list (cs.map fun c => .str ⟨#[c]⟩)) := by
  rw [pyD, pyDs_atoms sgD (fun c => .str ⟨#[c]⟩) fun _ => rfl]
  rfl
def Mach.ways (M : Mach) (k : Nat) : List Nat := M.ls.filter fun c => (M.step k c).isSome
def goesD (M : Mach) (k : Nat) (d : D) : Bool := match sign1 d with
  | some c => (M.step k c).isSome
  | none => false
theorem ways_sel (M : Mach) (k : Nat) : ((M.ls.map sgD).filter (goesD M k)).map id = (M.ways k).map sgD := by
  rw [List.map_id, List.filter_map]
  rfl
/-! ### letters along the machine -/
def wf__law_any_path : WF := fun ds ed Q => ∃ (M : Mach) (many : Nat), M.Ok ∧ many ≤ 256 ∧ ds = [M.d, .int (many : Nat)] ∧ ∀ w : List Nat, (∀ c ∈ w, c ∈ M.ls) → w.length ≤ many → Q (.str (txt w))
theorem len__law_any_path {ds : List D} {ed : Value → Prop} {Q : D → Prop} (h : wf__law_any_path ds ed Q) : ds.length = 2 := by
  obtain ⟨_, _, _, _, rfl, _⟩ := h
  rfl
abbrev N__law_any_path : List Str := ["pen", "machine", "many", "word", "state", "turn", "some", "c"]
theorem sc__law_any_path : FnScope N__law_any_path ["pen", "machine", "many"] (defScope (topS 41)) := ⟨rfl, rfl, rfl, by decide +kernel, rfl, by decide +kernel, by decide +kernel⟩
theorem ok__law_any_path {f : Addr} {fd : FuncData}  (B : Bl mg)    (F__law_one_of : PFn P w K mg base "_law_one_of" 3 1 1 (wf__law_one_of)) (F__law_run : DFn P w K mg base "_law_run" 1 3 (wf__law_run)) (F : Fun K "_law_any_path" "_law_any_path" (topS 41) f fd) (g : mg "_law_any_path" = some (.ref f)) (b : Binds K fd ["pen", "machine", "many"] []) : PFn P w K mg base "_law_any_path" 4 2 256 (wf__law_any_path) := by
  exact pfn_of (N := N__law_any_path) F sc__law_any_path g b rfl (fun ds ed Q h => len__law_any_path h) (fun p cdv A outer s H E hr =>
    (dss_cons (ds_asgT (de_tup (da_cons de_str (da_cons de_int da_nil))) (dg_tup (n := 2) (fun _ => rfl) (fun _ => rfl) (dgs_cons (dg_pg (fun _ => pg_name (i := 3) sc__law_any_path.nd rfl (.inl rfl))) (dgs_cons (dg_pg (fun _ => pg_name (i := 4) sc__law_any_path.nd rfl (.inr rfl))) dgs_nil))))
    (dss_cons (ds_for (fun _ => passes_of rfl) (fun _ => rfl) (di_range1 (fun _ => B.range) (db_cons (dr_pv (fun _ => pv 2)) db_nil)) (dg_pg (fun _ => pg_name (i := 5) sc__law_any_path.nd rfl (.inl rfl))) (dss_cons (ds_setLcIf (i := 6) (own := [("c", 7)]) (fun _ => rfl) (fun _ => sc__law_any_path.nd) (di_seq (fun _ => rfl) (de_ix (fun _ => rfl) (dr_pv (fun _ => pv 1)) (DE.r de_int))) (dg_pg (fun _ => pg_name (i := 7) sc__law_any_path.nd rfl (by first | exact Or.inl rfl | exact Or.inr rfl))) (DX.dt (dx_notN (DE.r (de_call F__law_run (fun _ => ⟨rfl, rfl, rfl, rfl, rfl⟩) (fun _ => takes0) (fun _ => hr) (da_cons (de_pv (fun _ => pv 1)) (da_cons (de_pv (fun _ => pv 4)) (da_cons (de_pv (fun _ => pv 7)) da_nil))))) (DE.r de_non))) (de_pv (fun _ => pv 7)) (fun _ => blkOk_by (N := N__law_any_path) (sc := defScope (topS 41)) (by decide +kernel)))
    (dss_cons (ds_if (DX.dt (dx_eqD (fun _ => rfl) (fun _ => hr) (dr_pv (fun _ => pv 6)) (DE.r (DF.de (df_lst da_nil))))) (dss_one (ds_ret (de_pv (fun _ => pv 3)))) dss_nil)
    (dss_cons (ds_set (i := 7) (de_callP (p := p) F__law_one_of (fun _ => ⟨rfl, rfl, rfl, rfl, rfl⟩) (fun _ h => h) (fun _ => takes_of rfl rfl rfl rfl) (fun _ => hr) (da_cons (de_pv (fun _ => pv 0)) (da_cons (de_pv (fun _ => pv 6)) da_nil))) (fun _ => sc__law_any_path.nd))
    (dss_one (ds_asgT (de_tup (da_cons (de_addA (dr_pv (fun _ => pv 3)) (dr_pv (fun _ => pv 7))) (da_cons (de_call F__law_run (fun _ => ⟨rfl, rfl, rfl, rfl, rfl⟩) (fun _ => takes_of rfl rfl rfl rfl) (fun _ => hr) (da_cons (de_pv (fun _ => pv 1)) (da_cons (de_pv (fun _ => pv 4)) (da_cons (de_pv (fun _ => pv 7)) da_nil)))) da_nil))) (dg_tup (n := 2) (fun _ => rfl) (fun _ => rfl) (dgs_cons (dg_pg (fun _ => pg_name (i := 3) sc__law_any_path.nd rfl (.inl rfl))) (dgs_cons (dg_pg (fun _ => pg_name (i := 4) sc__law_any_path.nd rfl (.inr rfl))) dgs_nil)))))))))
    (dss_one (ds_ret (de_pv (fun _ => pv 3))))))) (by decide)
    (fun p ds ed Q h => by
      unfold N__law_any_path
      obtain ⟨M, many, ok, hm, rfl, hq⟩ := h
      conv => whnf
      refine ⟨by rw [sizeLine_eq]; show 2 ≤ 16777216; decide, rfl, rfl, ?_⟩
      conv => whnf
      refine ⟨by omega, by omega, .inr (by rw [toNat_len, rngD_len]; exact hm), ?_⟩
      rw [toNat_len]
      refine forW_ind (fun r G => ∃ (w : List Nat) (k : Nat) (x5 x6 x7 : Slot), w.length + r.length ≤ many ∧ (∀ c ∈ w, c ∈ M.ls) ∧ k < M.rows.length ∧ G = [.dat (.obj (.ref p)), .dat M.d, .dat (.int (many : Nat)), .dat (.str (txt w)), .dat (.int (k : Nat)), x5, x6, x7]) ?_ ?_ _ _ ⟨[], 0, _, _, _, by rw [rngD_len]; simp, (fun _ h => nomatch h), ok.r0, rfl⟩
      · rintro d r G ⟨w, k, x5, x6, x7, hl, hw, hk, rfl⟩ next
        rw [List.length_cons] at hl
        conv => whnf
        refine ⟨small_lt (by rw [chars_txt, List.length_map]; exact Nat.le_trans ok.l3 (by decide)), .inl rfl, ?_⟩
        have hin : M.In (some k) := fun j e => by cases e; exact hk
        refine compW_filter (f := id) (t := goesD M k) (fun d hd R Z hR hZ => ?_) ?_
        · obtain ⟨c, hc, rfl⟩ := List.mem_map.mp hd
          refine ⟨M, some k, [c], ok, rfl, hin, fun c' m => by rw [List.mem_singleton.mp m]; exact hc, ?_⟩
          have e : goesD M k (.str ⟨#[c]⟩) = (M.step k c).isSome := rfl
          rw [e] at hR hZ
          show onO (isN (goalD (M.step k c))) _
          cases q : M.step k c with
          | none => exact ⟨rfl, fork_f rfl (hZ (by rw [q]; rfl))⟩
          | some j => exact ⟨rfl, fork_t rfl (hR (by rw [q]; rfl))⟩
        · have es : [] ++ ((chars (txt M.ls)).filter (goesD M k)).map id = (M.ways k).map sgD := ways_sel M k
          rw [es]
          have ws : ∀ c ∈ M.ways k, c ∈ M.ls ∧ (M.step k c).isSome = true := fun c h => ⟨(List.mem_filter.mp h).1, (List.mem_filter.mp h).2⟩
          refine ⟨by rw [sizeLine_eq]; show 0 ≤ 16777216; decide, ?_⟩
          refine onO_i (py_signs (M.ways k)) (onO_i (a := .list []) rfl ⟨shaped_signs fun c h => ok.sign (ws c h).1, rfl, ?_⟩)
          cases q : M.ways k with
          | nil => exact fork_t rfl (hq w hw (by omega))
          | cons c0 cs =>
            rw [q] at ws
            refine fork_f rfl ⟨rfl, _, _, rfl, rfl, (fun z => nomatch z), by
              have h1 := List.length_filter_le (fun c => (M.step k c).isSome) M.ls
              have h2 : (M.ways k).length ≤ M.ls.length := h1
              have h3 := ok.l3
              rw [q] at h2
              rw [List.length_map]
              omega, fun x hx => ?_⟩
            obtain ⟨c, hc, rfl⟩ := List.mem_map.mp hx
            obtain ⟨c1, c2⟩ := ws c hc
            refine ⟨?_, M, some k, [c], ok, rfl, hin, fun c' m => by rw [List.mem_singleton.mp m]; exact c1, ?_⟩
            · show w.length + 1 ≤ sizeLine
              rw [sizeLine_eq]
              omega
            · refine ⟨by rw [sizeLine_eq]; show 2 ≤ 16777216; decide, rfl, rfl, ?_⟩
              have c2' := c2
              cases q2 : M.step k c with
              | none => rw [q2] at c2; exact nomatch c2
              | some j =>
                have e2 : M.run (some k) [c] = some j := q2
                have e3 := ok.inn hk c1 j q2
                refine next _ ⟨w ++ [c], j, .dat d, .dat (.lst ((c0 :: cs).map sgD)), .dat (sgD c), by rw [List.length_append]; simp; omega, fun c' m => (List.mem_append.mp m).elim (hw c') fun m => by rw [List.mem_singleton.mp m]; exact c1, e3, ?_⟩
                rw [e2, ← txt_app]
                rfl
      · rintro G ⟨w, k, x5, x6, x7, hl, hw, hk, rfl⟩
        exact hq w hw (by simpa using hl))

end
end T

namespace T
open PySem PySem.Spec PyProof.Rows L2 DL
section
variable {P : Program} {w : World} {K : Fg} {mg : Str → Option Value} {base : Heap}
/-! ### a drawn machine -/
/-- what letters are drawn -/
structure Lets (l : List Nat) : Prop where
  a : areLetters (.str (txt l)) = true
  n : l ≠ []
  m : l.length ≤ 3
abbrev alphaS : Str := "abcdefghijklmnopqrstuvwxyz"
theorem drawn_ok : ∀ a : Nat, a < 24 → ∀ r : Nat, r < 3 → (areLetters (.str (cutS alphaS (some (a : Int)) (some ((a : Int) + 1 + (r : Int))))) && !(cutS alphaS (some (a : Int)) (some ((a : Int) + 1 + (r : Int)))).cps.toList.isEmpty && decide ((cutS alphaS (some (a : Int)) (some ((a : Int) + 1 + (r : Int)))).cps.toList.length ≤ 3)) = true := by decide +kernel
theorem lets_of (z : Str) (h : (areLetters (.str z) && !z.cps.toList.isEmpty && decide (z.cps.toList.length ≤ 3)) = true) : ∃ l, D.str z = .str (txt l) ∧ Lets l := by
  rw [Bool.and_eq_true, Bool.and_eq_true] at h
  obtain ⟨⟨h1, h2⟩, h3⟩ := h
  refine ⟨z.cps.toList, rfl, h1, ?_, of_decide_eq_true h3⟩
  intro e
  rw [e] at h2
  exact nomatch h2
def goalOf : D → Option Nat
  | .int i => some i.toNat
  | _ => none
theorem goal_of {n : Nat} {d : D} (h : RG n d) : d = goalD (goalOf d) ∧ ∀ k, goalOf d = some k → k < n := by
  rcases h with rfl | ⟨k, hk, rfl⟩
  · exact ⟨rfl, fun _ z => nomatch z⟩
  · refine ⟨rfl, fun j hj => ?_⟩
    have : k = j := Option.some.inj hj
    omega
theorem goals_of {n : Nat} {row : List D} (h : ∀ d ∈ row, RG n d) : row = (row.map goalOf).map goalD := by
  rw [List.map_map]
  exact ((List.map_congr_left fun d hd => (goal_of (h d hd)).1.symm).trans (List.map_id _)).symm
theorem asc_range {n : Nat} {es : List Nat} (h : es.Sublist (List.range n)) : ascI (es.map fun k => Int.ofNat k) = true := by
  have pw : es.Pairwise (· < ·) := List.Pairwise.sublist h (List.pairwise_lt_range)
  unfold ascI
  refine List.all_eq_true.mpr fun i hi => decide_eq_true ?_
  rw [List.length_map] at hi
  have hi := List.mem_range.mp hi
  have h1 : i < es.length := by omega
  have h2 : i + 1 < es.length := by omega
  have := List.pairwise_iff_getElem.mp pw i (i + 1) h1 h2 (by omega)
  simp only [List.getD_eq_getElem?_getD, List.getElem?_map, List.getElem?_eq_getElem h1, List.getElem?_eq_getElem h2, Option.map_some, Option.getD_some]
  exact Int.ofNat_lt.mpr this
theorem mk_machine {l : List Nat} (hl : Lets l) {n : Nat} (n1 : 1 ≤ n) (n6 : n ≤ 6) {rows : List (List D)} (rl : rows.length = n) (g : Good n l.length rows) {es : List Nat} (he : es.Sublist (List.range n)) :
    ∃ M : Mach, M.Ok ∧ M.rows.length = n ∧ M.d = .tup [.str (txt l), .tup (rows.map D.tup), .tup (es.map fun k => .int (k : Nat))] := by
  refine ⟨⟨l, rows.map fun r => r.map goalOf, es⟩, ⟨hl.a, hl.n, hl.m, by rw [List.length_map]; omega, by rw [List.length_map]; omega, fun r hr => ?_, fun r hr k hk => ?_, fun k hk => ?_, asc_range he, ?_⟩, by rw [List.length_map]; exact rl, ?_⟩
  · obtain ⟨r', hr', rfl⟩ := List.mem_map.mp hr
    rw [List.length_map]
    exact (g r' hr').1
  · obtain ⟨r', hr', rfl⟩ := List.mem_map.mp hr
    obtain ⟨d, hd, e⟩ := List.mem_map.mp hk
    show k < (rows.map _).length
    rw [List.length_map, rl]
    exact (goal_of ((g r' hr').2 d hd)).2 k e
  · show k < (rows.map _).length
    rw [List.length_map, rl]
    exact List.mem_range.mp (he.subset hk)
  · have := he.length_le
    rw [List.length_range] at this
    show es.length ≤ 6
    omega
  · show D.tup [.str (txt l), .tup ((rows.map fun r => r.map goalOf).map fun r => .tup (r.map goalD)), _] = _
    rw [List.map_map]
    have e : rows.map ((fun r => D.tup (r.map goalD)) ∘ fun r => r.map goalOf) = rows.map D.tup := List.map_congr_left fun r hr => by
      show D.tup ((r.map goalOf).map goalD) = D.tup r
      rw [← goals_of (g r hr).2]
    rw [e]
    rfl
theorem at_last {α : Type} {xs : List α} (h : xs ≠ []) : ∃ x, atI xs (-1) = some x := by
  have hl : 0 < xs.length := List.length_pos_iff.mpr h
  refine ⟨xs[xs.length - 1], ?_⟩
  unfold atI ixN
  rw [if_neg (by omega), if_pos (by omega)]
  show xs[(-1 + (xs.length : Int)).toNat]? = _
  rw [show (-1 + (xs.length : Int)).toNat = xs.length - 1 by omega]
  exact List.getElem?_eq_getElem _
theorem rng_non (k : Nat) : (List.replicate ((k : Nat) : Int).toNat [D.non]).flatten = List.replicate k D.non := by
  rw [toNat_len]
  induction k with
  | zero => rfl
  | succ k ih => rw [List.replicate_succ, List.flatten_cons, ih]; rfl
def toTup : D → D
  | .lst xs => .tup xs
  | d => d
theorem tup_rows (rows : List (List D)) : [] ++ (rows.map D.lst).map toTup = rows.map D.tup := by
  rw [List.nil_append, List.map_map]
  rfl
def wf__law_any_machine : WF := fun ds ed Q => ∃ many : Nat, ds = [.int (many : Nat)] ∧ 1 ≤ many ∧ many ≤ 6 ∧ ∀ M : Mach, M.Ok → M.rows.length ≤ many → Q M.d
theorem len__law_any_machine {ds : List D} {ed : Value → Prop} {Q : D → Prop} (h : wf__law_any_machine ds ed Q) : ds.length = 1 := by
  obtain ⟨_, rfl, _⟩ := h
  rfl
abbrev N__law_any_machine : List Str := ["pen", "many", "at", "drawn", "letters", "n", "way", "states", "turn", "ends", "k", "letter", "row"]
theorem sc__law_any_machine : FnScope N__law_any_machine ["pen", "many"] (defScope (topS 34)) := ⟨rfl, rfl, rfl, by decide +kernel, rfl, by decide +kernel, by decide +kernel⟩
theorem ok__law_any_machine {f : Addr} {fd : FuncData}  (B : Bl mg)    (F__law_one_of : PFn P w K mg base "_law_one_of" 3 1 1 (wf__law_one_of)) (F__law_take : PFn P w K mg base "_law_take" 2 1 1 (wf__law_take)) (F : Fun K "_law_any_machine" "_law_any_machine" (topS 34) f fd) (g : mg "_law_any_machine" = some (.ref f)) (b : Binds K fd ["pen", "many"] []) : PFn P w K mg base "_law_any_machine" 4 1 1000000 (wf__law_any_machine) := by
  exact pfn_of (N := N__law_any_machine) F sc__law_any_machine g b rfl (fun ds ed Q h => len__law_any_machine h) (fun p cdv A outer s H E hr =>
    (dss_cons (ds_set (i := 2) (de_callP (p := p) F__law_take (fun _ => ⟨rfl, rfl, rfl, rfl, rfl⟩) (fun _ h => h) (fun _ => takes_of rfl rfl rfl rfl) (fun _ => hr) (da_cons (de_pv (fun _ => pv 0)) (da_cons de_int da_nil))) (fun _ => sc__law_any_machine.nd))
    (dss_cons (ds_set (i := 3) (de_sl (fun _ => rfl) (DE.r de_str) (do_some (de_pv (fun _ => pv 2))) (do_some (de_addA (DE.r (de_addA (dr_pv (fun _ => pv 2)) (DE.r de_int))) (DE.r (de_callP (p := p) F__law_take (fun _ => ⟨rfl, rfl, rfl, rfl, rfl⟩) (fun _ h => h) (fun _ => takes_of rfl rfl rfl rfl) (fun _ => hr) (da_cons (de_pv (fun _ => pv 0)) (da_cons de_int da_nil))))))) (fun _ => sc__law_any_machine.nd))
    (dss_cons (ds_set (i := 4) (de_callP (p := p) F__law_one_of (fun _ => ⟨rfl, rfl, rfl, rfl, rfl⟩) (fun _ h => h) (fun _ => takes_of rfl rfl rfl rfl) (fun _ => hr) (da_cons (de_pv (fun _ => pv 0)) (da_cons (DF.de (df_lst (da_cons de_str (da_cons de_str (da_cons de_str (da_cons de_str (da_cons de_str (da_cons (de_pv (fun _ => pv 3)) da_nil)))))))) da_nil))) (fun _ => sc__law_any_machine.nd))
    (dss_cons (ds_asgT (de_tup (da_cons (de_addA (DE.r de_int) (DE.r (de_callP (p := p) F__law_take (fun _ => ⟨rfl, rfl, rfl, rfl, rfl⟩) (fun _ h => h) (fun _ => takes_of rfl rfl rfl rfl) (fun _ => hr) (da_cons (de_pv (fun _ => pv 0)) (da_cons (de_pv (fun _ => pv 1)) da_nil))))) (da_cons (de_callP (p := p) F__law_take (fun _ => ⟨rfl, rfl, rfl, rfl, rfl⟩) (fun _ h => h) (fun _ => takes_of rfl rfl rfl rfl) (fun _ => hr) (da_cons (de_pv (fun _ => pv 0)) (da_cons de_int da_nil))) da_nil))) (dg_tup (n := 2) (fun _ => rfl) (fun _ => rfl) (dgs_cons (dg_pg (fun _ => pg_name (i := 5) sc__law_any_machine.nd rfl (.inr rfl))) (dgs_cons (dg_pg (fun _ => pg_name (i := 6) sc__law_any_machine.nd rfl (.inr rfl))) dgs_nil))))
    (dss_cons (ds_if (DX.dt (dx_eq (dr_pv (fun _ => pv 6)) (DE.r de_int))) (dss_nest (i := 7) (setLc2_core (i := 7) (own := [("k", 10)]) (fun _ => rfl) (fun _ => sc__law_any_machine.nd) (di_range1 (fun _ => B.range) (db_cons (dr_pv (fun _ => pv 5)) db_nil)) (dg_pg (fun _ => pg_name (i := 10) sc__law_any_machine.nd rfl (by first | exact Or.inl rfl | exact Or.inr rfl))) (df_lc (own := [("letter", 11)]) (fun _ => rfl) (fun _ => sc__law_any_machine.nd) (di_seq (fun _ => rfl) (de_pv (fun _ => pv 4))) (dg_pg (fun _ => pg_name (i := 11) sc__law_any_machine.nd rfl (by first | exact Or.inl rfl | exact Or.inr rfl))) (de_if (DX.dt (dx_eq (dr_pv (fun _ => pv 11)) (DE.r (de_ix (fun _ => rfl) (dr_pv (fun _ => pv 4)) (DE.r (de_neg de_int)))))) (de_mod (DE.r (de_addA (DE.r (de_intOf (fun _ => B.int) (db_cons (dr_pv (fun _ => pv 10)) db_nil))) (DE.r de_int))) (dr_pv (fun _ => pv 5))) de_non) (fun _ => blkOk_by (by kernel_rfl))) (fun _ => blkOk_by (N := N__law_any_machine) (sc := defScope (topS 34)) (by decide +kernel))) (fun z =>
      (ds_for (fun _ => passes_of rfl) (fun _ => rfl) (di_range1 (fun _ => B.range) (db_cons (DE.r (de_callPT (p := p) F__law_take (fun _ => ⟨rfl, rfl, rfl, rfl, rfl⟩) (fun Q h => nest_has (fun P h => pen_has h) h) (fun _ => takes_of rfl rfl rfl rfl) (fun _ => hr) (da_cons (de_pv (fun _ => pv 0)) (da_cons de_int da_nil)))) db_nil)) (dg_pg (fun _ => pg_name (i := 8) sc__law_any_machine.nd rfl (.inl rfl))) (dss_one (ds_nset (i := 7) (fun _ => rfl) (fun Q h => nest_pen h) (fun _ => pv 7) (de_callPT (p := p) F__law_take (fun _ => ⟨rfl, rfl, rfl, rfl, rfl⟩) (fun Q h => nest_has (fun P h => pen_has h) h) (fun _ => takes_of rfl rfl rfl rfl) (fun _ => hr) (da_cons (de_pv (fun _ => pv 0)) (da_cons (de_pv (fun _ => pv 5)) da_nil))) (de_callPT (p := p) F__law_take (fun _ => ⟨rfl, rfl, rfl, rfl, rfl⟩) (fun Q h => nest_has (fun P h => pen_has h) h) (fun _ => takes_of rfl rfl rfl rfl) (fun _ => hr) (da_cons (de_pv (fun _ => pv 0)) (da_cons (de_pv (fun _ => pv 5)) da_nil))) (de_callPT (p := p) F__law_take (fun _ => ⟨rfl, rfl, rfl, rfl, rfl⟩) (fun Q h => nest_has (fun P h => pen_has h) h) (fun _ => takes_of rfl rfl rfl rfl) (fun _ => hr) (da_cons (de_pv (fun _ => pv 0)) (da_cons (de_len (fun _ => rfl) (fun _ => B.len) (db_cons (dr_pv (fun _ => pv 4)) db_nil)) da_nil)))))))
    (dss_one (ds_set (i := 9) (DF.de (df_lst (da_cons de_int da_nil))) (fun _ => sc__law_any_machine.nd)))) (dss_cons (ds_setO (i := 7) (df_lst da_nil) (fun _ => sc__law_any_machine.nd))
    (dss_cons (ds_for (fun _ => passes_of rfl) (fun _ => rfl) (di_range1 (fun _ => B.range) (db_cons (dr_pv (fun _ => pv 5)) db_nil)) (dg_pg (fun _ => pg_name (i := 10) sc__law_any_machine.nd rfl (.inl rfl))) (dss_one (ds_append (i := 7) (fun _ => rfl) (fun _ => pv 7) (DF.de (df_lc (own := [("letter", 11)]) (fun _ => rfl) (fun _ => sc__law_any_machine.nd) (di_seq (fun _ => rfl) (de_pv (fun _ => pv 4))) (dg_pg (fun _ => pg_name (i := 11) sc__law_any_machine.nd rfl (by first | exact Or.inl rfl | exact Or.inr rfl))) (de_callP (p := p) F__law_one_of (fun _ => ⟨rfl, rfl, rfl, rfl, rfl⟩) (fun _ h => h) (fun _ => takes0) (fun _ => hr) (da_cons (de_pv (fun _ => pv 0)) (da_cons (de_addA (DE.r (de_mulA (DE.r (DF.de (df_lst (da_cons de_non da_nil)))) (dr_pv (fun _ => pv 6)))) (DE.r (DF.de (df_listRg (fun _ => B.list) (fun _ => B.range) (de_pv (fun _ => pv 5)))))) da_nil))) (fun _ => blkOk_by (N := N__law_any_machine) (sc := defScope (topS 34)) (by decide +kernel)))))))
    (dss_one (ds_setLcIf (i := 9) (own := [("k", 10)]) (fun _ => rfl) (fun _ => sc__law_any_machine.nd) (di_range1 (fun _ => B.range) (db_cons (dr_pv (fun _ => pv 5)) db_nil)) (dg_pg (fun _ => pg_name (i := 10) sc__law_any_machine.nd rfl (by first | exact Or.inl rfl | exact Or.inr rfl))) (DX.dt (dx_eq (DE.r (de_callP (p := p) F__law_take (fun _ => ⟨rfl, rfl, rfl, rfl, rfl⟩) (fun _ h => h) (fun _ => takes0) (fun _ => hr) (da_cons (de_pv (fun _ => pv 0)) (da_cons de_int da_nil)))) (DE.r de_int))) (de_pv (fun _ => pv 10)) (fun _ => blkOk_by (N := N__law_any_machine) (sc := defScope (topS 34)) (by decide +kernel)))))))
    (dss_one (ds_ret (de_tup (da_cons (de_pv (fun _ => pv 4)) (da_cons (de_tupleOf (fun _ => rfl) (fun _ => B.tuple) (db_cons (DE.r (DF.de (df_lc (own := [("row", 12)]) (fun _ => rfl) (fun _ => sc__law_any_machine.nd) (di_seq (fun _ => rfl) (de_pv (fun _ => pv 7))) (dg_pg (fun _ => pg_name (i := 12) sc__law_any_machine.nd rfl (by first | exact Or.inl rfl | exact Or.inr rfl))) (de_tupleOf (fun _ => rfl) (fun _ => B.tuple) (db_cons (dr_pv (fun _ => pv 12)) db_nil)) (fun _ => blkOk_by (N := N__law_any_machine) (sc := defScope (topS 34)) (by decide +kernel))))) db_nil)) (da_cons (de_tupleOf (fun _ => rfl) (fun _ => B.tuple) (db_cons (dr_pv (fun _ => pv 9)) db_nil)) da_nil)))))))))))) (by decide)
    (fun p ds ed Q h => by
      obtain ⟨many, rfl, m1, m6, hq⟩ := h
      unfold N__law_any_machine
      conv => whnf
      refine ⟨rfl, 24, rfl, by decide, by decide, fun a0 h0 h1 => ?_⟩
      obtain ⟨a, rfl⟩ := Int.eq_ofNat_of_zero_le h0
      conv => whnf
      refine ⟨rfl, 3, rfl, by decide, by decide, fun r0 h2 h3 => ?_⟩
      obtain ⟨r, rfl⟩ := Int.eq_ofNat_of_zero_le h2
      conv => whnf
      refine ⟨by decide +kernel, ?_⟩
      conv => whnf
      refine ⟨by rw [sizeLine_eq]; show 6 ≤ 16777216; decide, ?_⟩
      conv => whnf
      refine ⟨rfl, _, _, rfl, rfl, (fun z => nomatch z), by show 6 ≤ 100000; decide, fun x hx => ?_⟩
      obtain ⟨l, rfl, hl⟩ : ∃ l, x = .str (txt l) ∧ Lets l := by
        rcases List.mem_cons.mp hx with rfl | hx
        · exact lets_of _ (by decide +kernel)
        rcases List.mem_cons.mp hx with rfl | hx
        · exact lets_of _ (by decide +kernel)
        rcases List.mem_cons.mp hx with rfl | hx
        · exact lets_of _ (by decide +kernel)
        rcases List.mem_cons.mp hx with rfl | hx
        · exact lets_of _ (by decide +kernel)
        rcases List.mem_cons.mp hx with rfl | hx
        · exact lets_of _ (by decide +kernel)
        rcases List.mem_cons.mp hx with rfl | hx
        · exact lets_of _ (drawn_ok a (by omega) r (by omega))
        exact nomatch hx
      clear hx
      conv => whnf
      refine ⟨rfl, (many : Nat), rfl, by omega, by omega, fun n0 h4 h5 => ?_⟩
      obtain ⟨n1, rfl⟩ := Int.eq_ofNat_of_zero_le h4
      conv => whnf
      refine ⟨rfl, 3, rfl, by decide, by decide, fun w0 h6 h7 => ?_⟩
      obtain ⟨wy, rfl⟩ := Int.eq_ofNat_of_zero_le h6
      have en : (1 : Int) + ((n1 : Nat) : Int) = ((1 + n1 : Nat) : Int) := by omega
      obtain ⟨n, hn⟩ : ∃ n, n = 1 + n1 := ⟨_, rfl⟩
      rw [en, ← hn]
      have b1 : 1 ≤ n := by omega
      have b2 : n ≤ many := by omega
      clear en h4 h5 h0 h1 h2 h3 h6
      conv => whnf
      refine ⟨by rw [sizeLine_eq]; show 2 ≤ 16777216; decide, rfl, rfl, ?_⟩
      suffices hs : ∀ (x2 x3 : D) (G : Gm), G = [.dat (.obj (.ref p)), .dat (.int (many : Nat)), .dat x2, .dat x3, .dat (.str (txt l)), .dat (.int (n : Nat)), .dat (.int (wy : Nat)), .un, .un, .un, .un, .un, .un] → DEnds.nx _ G from hs _ _ _ rfl
      rintro x2 x3 G rfl
      conv => whnf
      refine fork_i (fun hw => ?_) (fun hw => ?_)
      · conv => whnf
        refine ⟨rfl, (by decide : 7 < 13), ?_⟩
        conv => whnf
        refine ⟨by omega, by omega, by rw [rngD_len]; exact small_lt (by omega), .inl rfl, ?_⟩
        refine compW2_any (Pr := fun y => y.length = l.length ∧ ∀ d ∈ y, RG n d) (fun d hd R hR => ?_) (fun _ z => nomatch z) fun rows hrl hrows => ?_
        · obtain ⟨k, hk, rfl⟩ := rngD_mem hd
          conv => whnf
          have lc : (chars (txt l)).length = l.length := by rw [chars_txt, List.length_map]
          have l3 := hl.m
          refine ⟨by rw [lc]; exact small_lt (by omega), .inl rfl, ?_⟩
          refine compW_any (Pr := RG n) (fun d hd R hR => ?_) (fun _ z => nomatch z) fun out ho hp => hR out ⟨by rw [ho, lc]; simp, hp⟩
          rw [chars_txt] at hd
          obtain ⟨c, hc, rfl⟩ := List.mem_map.mp hd
          obtain ⟨x, ex⟩ := at_last hl.n
          conv => whnf
          refine ⟨small_line (show l.length ≤ 100000 by omega), onO_i ex ?_⟩
          conv => whnf
          refine fork_i (fun _ => ?_) (fun _ => ?_)
          · conv => whnf
            refine ⟨by omega, hR _ (.inr ⟨(k + 1) % n, Nat.mod_lt _ (by omega), ?_⟩)⟩
            show D.int ((((k : Nat) : Int) + 1) % ((n : Nat) : Int)) = D.int (((k + 1) % n : Nat) : Int)
            rw [Int.natCast_emod, Int.natCast_add]
            rfl
          · exact hR _ (.inl rfl)
        · refine ⟨n, l.length, hrows, fun o => ?_⟩
          conv => whnf
          refine ⟨rfl, 3, rfl, by decide, by decide, fun t0 t1 t2 => ?_⟩
          conv => whnf
          refine ⟨by omega, by omega, .inr (by rw [rngD_len]; omega), ?_⟩
          rw [rngD_len] at hrl
          have hrl : rows.length = n := by simpa using hrl
          refine forW_ind (fun r G => ∃ x8 : Slot, G = [.dat (.obj (.ref p)), .dat (.int (many : Nat)), .dat x2, .dat x3, .dat (.str (txt l)), .dat (.int (n : Nat)), .dat (.int (wy : Nat)), .dat (.obj (.ref o)), x8, .un, .un, .un, .un]) ?_ ?_ _ _ ⟨_, rfl⟩
          · rintro d r' G ⟨x8, rfl⟩ next
            conv => whnf
            refine ⟨rfl, ?_⟩
            refine ⟨rfl, n, rfl, by omega, by omega, fun v0 v1 v2 => ?_⟩
            conv => whnf
            obtain ⟨v, rfl⟩ := Int.eq_ofNat_of_zero_le v1
            have l3 := hl.m
            have l0 : 0 < l.length := List.length_pos_iff.mpr hl.n
            refine ⟨.inr ⟨v, by show v < n; omega, rfl⟩, ?_⟩
            conv => whnf
            refine ⟨rfl, n, rfl, by omega, by omega, fun i1 i2 i3 => ?_⟩
            conv => whnf
            refine ⟨i2, by show i1 < ((rows.length : Nat) : Int); omega, ?_⟩
            conv => whnf
            refine ⟨small_line (show l.length ≤ 100000 by omega), ?_⟩
            conv => whnf
            refine ⟨rfl, (l.length : Nat), rfl, by omega, by omega, fun j1 j2 j3 => ?_⟩
            conv => whnf
            refine ⟨j2, j3, ?_⟩
            exact next _ ⟨_, rfl⟩
          · rintro G ⟨x8, rfl⟩
            refine ⟨rfl, fun rows' l1 g => ?_⟩
            conv => whnf
            refine ⟨by rw [sizeLine_eq]; show 1 ≤ 16777216; decide, ?_⟩
            conv => whnf
            refine ⟨by rw [List.length_map]; exact small_lt (by omega), .inl rfl, ?_⟩
            refine compW_map (f := toTup) (fun d hd R hR => ?_) ?_
            · obtain ⟨row, hr, rfl⟩ := List.mem_map.mp hd
              exact hR
            rw [tup_rows]
            conv => whnf
            refine ⟨by rw [sizeLine_eq]; show 3 ≤ 16777216; decide, ?_⟩
            obtain ⟨M, h1, h2, h3⟩ := mk_machine hl b1 (by omega) (l1.trans hrl) g (es := [0]) (by
              refine List.singleton_sublist.mpr (List.mem_range.mpr (by omega)))
            have := hq M h1 (by omega)
            rw [h3] at this
            exact this
      · conv => whnf
        refine ⟨by rw [sizeLine_eq]; show 0 ≤ 16777216; decide, ?_⟩
        conv => whnf
        refine ⟨by omega, by omega, .inr (by rw [toNat_len, rngD_len]; omega), ?_⟩
        rw [toNat_len]
        have l3 := hl.m
        have lc : (chars (txt l)).length = l.length := by rw [chars_txt, List.length_map]
        refine forW_ind (fun r G => ∃ (acc : List (List D)) (x10 : Slot), acc.length + r.length = n ∧ Good n l.length acc ∧ G = [.dat (.obj (.ref p)), .dat (.int (many : Nat)), .dat x2, .dat x3, .dat (.str (txt l)), .dat (.int (n : Nat)), .dat (.int (wy : Nat)), .own (.lst (acc.map D.lst)), .un, .un, x10, .un, .un]) ?_ ?_ _ _ ⟨[], _, by rw [rngD_len]; simp, (fun _ z => nomatch z), rfl⟩
        · rintro d r' G ⟨acc, x10, hlen, g, rfl⟩ next
          rw [List.length_cons] at hlen
          conv => whnf
          refine ⟨by rw [List.length_map]; exact small_lt (by omega), ?_⟩
          conv => whnf
          refine ⟨by rw [lc]; exact small_lt (by omega), .inr (by rw [lc]; omega), ?_⟩
          refine compW_any (Pr := RG n) (fun d hd R hR => ?_) (fun _ z => nomatch z) fun out ho hp => ?_
          · conv => whnf
            refine ⟨by rw [sizeLine_eq]; show 1 ≤ 16777216; decide, ?_⟩
            conv => whnf
            refine ⟨by omega, by omega, by rw [sizeLine_eq]; show 1 * ((wy : Nat) : Int).toNat ≤ 16777216; omega, ?_⟩
            conv => whnf
            refine ⟨.of_le (by decide) (by omega) (by decide) (by omega), ?_⟩
            conv => whnf
            refine ⟨?_, ?_⟩
            · rw [rng_non, toNat_len, rngD_len, List.length_replicate, sizeLine_eq]
              omega
            conv => whnf
            refine ⟨rfl, _, _, rfl, rfl, fun z => ?_, ?_, fun x hx => hR x ?_⟩
            · have := congrArg List.length z
              rw [List.length_append, toNat_len, rngD_len] at this
              simp at this
              omega
            · rw [List.length_append, rng_non, List.length_replicate, toNat_len, rngD_len]
              omega
            · rw [rng_non, toNat_len] at hx
              rcases List.mem_append.mp hx with hx | hx
              · exact .inl (List.eq_of_mem_replicate hx)
              · obtain ⟨k, hk, rfl⟩ := rngD_mem hx
                exact .inr ⟨k, hk, rfl⟩
          · refine next _ ⟨acc ++ [out], .dat d, by rw [List.length_append]; simp; omega, fun row hr => ?_, ?_⟩
            · rcases List.mem_append.mp hr with hr | hr
              · exact g row hr
              · rw [List.mem_singleton.mp hr]
                exact ⟨by rw [ho, lc]; simp, hp⟩
            · rw [List.map_append]
              rfl
        · rintro G ⟨acc, x10, hlen, g, rfl⟩
          have hlen : acc.length = n := by simpa using hlen
          conv => whnf
          refine ⟨by omega, by omega, by rw [toNat_len, rngD_len]; exact small_lt (by omega), .inr (by rw [toNat_len, rngD_len]; omega), ?_⟩
          rw [toNat_len]
          refine compW_sub (fun d hd R Z hR hZ => ?_) fun out ho => ?_
          · conv => whnf
            refine ⟨rfl, 2, rfl, by decide, by decide, fun t t1 t2 => ?_⟩
            conv => whnf
            exact fork_i (fun _ => hR) fun _ => hZ
          obtain ⟨es, he, rfl⟩ : ∃ es : List Nat, es.Sublist (List.range n) ∧ out = es.map fun k => .int (k : Nat) := by
            have e : rngD 0 n = (List.range n).map fun k => D.int (k : Nat) := by
              unfold rngD
              exact List.map_congr_left fun k _ => by simp
            rw [e] at ho
            obtain ⟨es, h1, h2⟩ := List.sublist_map_iff.mp ho
            exact ⟨es, h1, h2⟩
          rw [List.nil_append]
          conv => whnf
          refine ⟨by rw [List.length_map]; exact small_lt (by omega), .inl rfl, ?_⟩
          refine compW_map (f := toTup) (fun d hd R hR => ?_) ?_
          · obtain ⟨row, hr, rfl⟩ := List.mem_map.mp hd
            exact hR
          rw [tup_rows]
          conv => whnf
          refine ⟨by rw [sizeLine_eq]; show 3 ≤ 16777216; decide, ?_⟩
          obtain ⟨M, h1, h2, h3⟩ := mk_machine hl b1 (by omega) hlen g he
          have := hq M h1 (by omega)
          rw [h3] at this
          exact this)

end
end T

namespace T
open PySem PySem.Spec PyProof.Rows L2 DL
theorem asc_nodup {xs : List Nat} (h : ascL xs = true) : xs.Nodup := by
  have lt : ∀ i, i + 1 < xs.length → xs.getD i 0 < xs.getD (i + 1) 0 := fun i hi => of_decide_eq_true (List.all_eq_true.mp h i (List.mem_range.mpr (by omega)))
  have far : ∀ d i, i + d + 1 < xs.length → xs.getD i 0 < xs.getD (i + d + 1) 0 := fun d => by
    induction d with
    | zero => exact fun i hi => lt i hi
    | succ d ih => exact fun i hi => Nat.lt_trans (ih i (by omega)) (lt (i + d + 1) (by omega))
  refine List.pairwise_iff_getElem.mpr fun i j hi hj hij => ?_
  have := far (j - i - 1) i (by omega)
  rw [show i + (j - i - 1) + 1 = j by omega, List.getD_eq_getElem?_getD, List.getD_eq_getElem?_getD, List.getElem?_eq_getElem hi, List.getElem?_eq_getElem hj] at this
  exact Nat.ne_of_lt this
section
variable {M : Mach}
theorem Mach.Ok.nd (ok : M.Ok) : M.ls.Nodup := by
  have h := (Bool.and_eq_true _ _ ▸ ok.ls : _ ∧ _).2
  exact asc_nodup (Bool.and_eq_true _ _ ▸ h : _ ∧ _).2
theorem zip_step : ∀ {ls : List Nat} {row : List (Option Nat)}, ls.Nodup → row.length = ls.length → ls.zip row = ls.map fun c => (c, row.getD (ls.idxOf c) none)
  | [], _, _, _ => rfl
  | c :: ls, [], _, h => nomatch h
  | c :: ls, g :: row, nd, h => by
    obtain ⟨n1, n2⟩ := List.nodup_cons.mp nd
    rw [List.zip_cons_cons, List.map_cons, List.idxOf_cons_self, zip_step n2 (by simpa using h)]
    refine congrArg (List.cons (c, g)) (List.map_congr_left fun c' hc => ?_)
    have ne : (c == c') = false := by
      rw [beq_eq_false_iff_ne]
      intro z
      exact n1 (z ▸ hc)
    rw [List.idxOf_cons, ne]
    rfl
theorem more_nodup (L : List Nat) : (M.more L).Nodup := List.nodup_range.sublist List.filter_sublist
theorem more_sub {A B : List Nat} (h : ∀ s ∈ A, s ∈ B) : ∀ s ∈ M.more A, s ∈ M.more B := fun s hs => by
  obtain ⟨h1, h2⟩ := List.mem_filter.mp hs
  refine List.mem_filter.mpr ⟨h1, ?_⟩
  rcases (Bool.or_eq_true _ _ ▸ h2 : _ ∨ _) with q | q
  · rw [decide_eq_true (h s (of_decide_eq_true q)), Bool.true_or]
  · obtain ⟨g, g1, g2⟩ := List.any_eq_true.mp q
    rw [Bool.or_eq_true]
    refine .inr (List.any_eq_true.mpr ⟨g, g1, ?_⟩)
    cases g with
    | none => exact g2
    | some k => exact decide_eq_true (h k (of_decide_eq_true g2))
/-- the states that may end stand still -/
theorem stage_still (ok : M.Ok) : ∀ n, (∀ s ∈ M.stage (n + 2), s ∈ M.stage (n + 1)) ∨ n + 1 ≤ (M.stage (n + 1)).length
  | 0 => by
    cases q : M.stage 1 with
    | nil =>
      refine .inl fun s hs => ?_
      have hs : s ∈ M.more (M.stage 1) := hs
      rw [q] at hs
      obtain ⟨_, h2⟩ := List.mem_filter.mp hs
      rcases (Bool.or_eq_true _ _ ▸ h2 : _ ∨ _) with z | z
      · exact nomatch (of_decide_eq_true z : s ∈ ([] : List Nat))
      · obtain ⟨g, _, g2⟩ := List.any_eq_true.mp z
        cases g with
        | none => exact nomatch g2
        | some k => exact nomatch of_decide_eq_true (show decide (k ∈ ([] : List Nat)) = true from g2)
    | cons a r => exact .inr (by simp)
  | n + 1 => by
    rcases stage_still ok n with h | h
    · exact .inl (more_sub h)
    · by_cases q : ∀ s ∈ M.stage (n + 2), s ∈ M.stage (n + 1)
      · exact .inl (more_sub q)
      · right
        obtain ⟨s, hs⟩ := Classical.not_forall.mp q
        obtain ⟨h1, h2⟩ := Classical.not_imp.mp hs
        have nd : (s :: M.stage (n + 1)).Nodup := List.nodup_cons.mpr ⟨h2, more_nodup _⟩
        have := nd.length_le_of_subset (l₂ := M.stage (n + 2)) fun x hx => by
          rcases List.mem_cons.mp hx with rfl | hx
          · exact h1
          · exact stage_up ok hx
        rw [List.length_cons] at this
        show n + 2 ≤ (M.stage (n + 2)).length
        omega
theorem live_still (ok : M.Ok) {s : Nat} (h : s ∈ M.more M.live) : s ∈ M.live := by
  rw [live_stage] at h ⊢
  have lt : s < M.rows.length := List.mem_range.mp (List.mem_filter.mp h).1
  obtain ⟨n, hn⟩ : ∃ n, M.rows.length = n + 1 := ⟨M.rows.length - 1, by have := ok.r0; omega⟩
  rcases stage_still ok n with q | q
  · rw [hn] at h ⊢
    exact q s h
  · rw [← hn] at q
    refine Classical.byContradiction fun z => ?_
    have nd : (s :: M.stage M.rows.length).Nodup := List.nodup_cons.mpr ⟨z, by rw [hn]; exact more_nodup _⟩
    have := nd.length_le_of_subset (l₂ := List.range M.rows.length) fun x hx => by
      rcases List.mem_cons.mp hx with rfl | hx
      · exact List.mem_range.mpr lt
      · exact List.mem_range.mpr (stage_lt ok hx)
    rw [List.length_cons, List.length_range] at this
    omega
/-- the keys of the law's alive -/
def kN (s : Nat) : Key := .inl (s : Int)
theorem kN_inj {a b : Nat} (h : kN a = kN b) : a = b := by
  have : (a : Int) = (b : Int) := Sum.inl.inj h
  omega
structure Alive (M : Mach) (n : Nat) (ks : List Key) : Prop where
  up : ∀ s ∈ M.stage n, kN s ∈ ks
  dn : ∀ k ∈ ks, ∃ s ∈ M.live, k = kN s
theorem mem_addK {k j : Key} {ks : List Key} : j ∈ addK ks k ↔ j ∈ ks ∨ j = k := by
  unfold addK
  by_cases h : k ∈ ks
  · rw [if_pos h]
    exact ⟨.inl, fun z => z.elim id fun e => e ▸ h⟩
  · rw [if_neg h, List.mem_append, List.mem_singleton]
theorem addK_len (ks : List Key) (k : Key) : (addK ks k).length ≤ ks.length + 1 := by
  unfold addK
  split
  · omega
  · simp
theorem mem_fold {j : Key} : ∀ {es ks : List Key}, j ∈ es.foldl addK ks ↔ j ∈ ks ∨ j ∈ es
  | [], ks => by simp
  | e :: es, ks => by
    rw [List.foldl_cons, mem_fold, mem_addK, List.mem_cons]
    exact ⟨fun h => h.elim (fun h => h.elim .inl fun h => .inr (.inl h)) fun h => .inr (.inr h), fun h => h.elim (fun h => .inl (.inl h)) fun h => h.elim (fun h => .inl (.inr h)) .inr⟩
theorem fold_len : ∀ (es ks : List Key), (es.foldl addK ks).length ≤ ks.length + es.length
  | [], ks => Nat.le_refl _
  | e :: es, ks => by
    have h1 := fold_len es (addK ks e)
    have h2 := addK_len ks e
    rw [List.foldl_cons, List.length_cons]
    omega
end
theorem enum_at {xs : List D} {j : Nat} {d : D} {r : List D} (h : (enum xs).drop j = d :: r) : ∃ x, xs[j]? = some x ∧ d = .tup [.int (j : Nat), x] ∧ r = (enum xs).drop (j + 1) := by
  have lt : j < (enum xs).length := by
    rcases Nat.lt_or_ge j (enum xs).length with q | q
    · exact q
    · rw [List.drop_of_length_le q] at h
      exact nomatch h
  rw [List.drop_eq_getElem_cons lt] at h
  obtain ⟨h1, h2⟩ := List.cons.inj h
  have l2 : j < xs.length := by unfold enum at lt; rwa [List.length_map, List.length_zipIdx] at lt
  refine ⟨xs[j], List.getElem?_eq_getElem l2, ?_, h2.symm⟩
  have e : (enum xs)[j]? = some d := by rw [List.getElem?_eq_getElem lt, h1]
  rw [enum, List.getElem?_map, List.getElem?_zipIdx, List.getElem?_eq_getElem l2] at e
  have e := Option.some.inj e
  rw [← e, Nat.zero_add]
theorem enum_len (xs : List D) : (enum xs).length = xs.length := by unfold enum; rw [List.length_map, List.length_zipIdx]
abbrev oneP : List D → List PyData := fun xs => xs.map fun _ => .int 1
theorem ones_ok : ∀ xs : List D, PyData.canLayAll0 (oneP xs) = true ∧ PyData.depthAll (oneP xs) = 0
  | [] => ⟨rfl, rfl⟩
  | x :: xs => by
    obtain ⟨h1, h2⟩ := ones_ok xs
    constructor
    · rw [oneP, List.map_cons, PyData.canLayAll0, PyData.canLay0, h1]; rfl
    · rw [oneP, List.map_cons, PyData.depthAll, h2]; rfl
theorem ones_shaped (xs : List D) : SeqAt.shaped (.list (oneP xs)) = true := by
  obtain ⟨h1, h2⟩ := ones_ok xs
  unfold SeqAt.shaped
  rw [PyData.canLay0, PyData.depth, h1, h2]
  rfl
theorem ones_py (xs : List D) : pyD (.lst (xs.map fun _ => .int 1)) = some (.list (oneP xs)) := by
  rw [pyD, pyDs_atoms (fun _ => .int 1) (fun _ => .int 1) fun _ => rfl]
  rfl
theorem eqv_nil (xs : List PyData) : PyData.eqv (.list xs) (.list []) = xs.isEmpty := by cases xs <;> rfl
/-- does a state lead into alive -/
def inT (ks : List Key) : D → Bool
  | .int i => decide (Sum.inl i ∈ ks)
  | _ => false
theorem inT_goal (ks : List Key) (g : Option Nat) : inT ks (goalD g) = match g with | none => false | some k => decide (kN k ∈ ks) := by cases g <;> rfl
abbrev begP (b : Beg) : PyData := .tuple [.str (txt b.1), .int (b.2 : Nat)]
theorem begs_py (bs : List Beg) : pyD (.lst (bs.map begD)) = some (.list (bs.map begP)) := by
  rw [pyD, pyDs_atoms begD begP fun _ => rfl]
  rfl
theorem begs_ok : ∀ {bs : List Beg}, (∀ b ∈ bs, ∀ c ∈ b.1, c < 128) → PyData.canLayAll0 (bs.map begP) = true ∧ PyData.depthAll (bs.map begP) ≤ 1
  | [], _ => ⟨rfl, Nat.zero_le _⟩
  | b :: bs, h => by
    obtain ⟨h1, h2⟩ := begs_ok (bs := bs) fun b' m => h b' (List.mem_cons_of_mem _ m)
    have hb := h b List.mem_cons_self
    have e : PyData.strOk (txt b.1) = true := by
      simp only [PyData.strOk, txt, List.all_toArray, List.all_eq_true, decide_eq_true_eq]
      intro c hc
      have := hb c hc
      omega
    constructor
    · rw [List.map_cons, PyData.canLayAll0, h1, begP, PyData.canLay0, PyData.canLayAll0, PyData.canLay0, e]; rfl
    · rw [List.map_cons, PyData.depthAll]
      exact Nat.max_le.mpr ⟨Nat.le_refl _, h2⟩
theorem begs_shaped {bs : List Beg} (h : ∀ b ∈ bs, ∀ c ∈ b.1, c < 128) : SeqAt.shaped (.list (bs.map begP)) = true := by
  obtain ⟨h1, h2⟩ := begs_ok h
  unfold SeqAt.shaped
  rw [PyData.canLay0, PyData.depth, h1, Bool.true_and]
  exact decide_eq_true (by omega)
section
variable {M : Mach} {L : List Nat}
theorem lv_let : ∀ {T : Nat} {b : Beg}, b ∈ M.lv L T → ∀ c ∈ b.1, c ∈ M.ls
  | 0, b, h => by
    unfold Mach.lv at h
    split at h
    · rw [List.mem_singleton.mp h]
      exact fun _ z => nomatch z
    · exact nomatch h
  | T + 1, b, h => by
    obtain ⟨a, ha, hb⟩ := List.mem_flatMap.mp h
    obtain ⟨p, hp, hs⟩ := List.mem_filterMap.mp hb
    have h1 := (List.of_mem_zip hp).1
    intro c hc
    unfold stepTo at hs
    split at hs
    · exact nomatch hs
    · split at hs
      · cases hs
        rcases List.mem_append.mp hc with q | q
        · exact lv_let ha c q
        · rw [List.mem_singleton.mp q]; exact h1
      · exact nomatch hs
abbrev stD (M : Mach) (b : Beg) (c : Nat) : D := .tup [.str (txt (b.1 ++ [c])), goalD (M.step b.2 c)]
def toT (ks : List Key) : D → Bool
  | .tup [_, g] => inT ks g
  | _ => false
theorem steps_longer (ok : M.Ok) {ks : List Key} (hk : ∀ s, kN s ∈ ks ↔ s ∈ L) {b : Beg} (hb : b.2 < M.rows.length) : ((M.ls.map (stD M b)).filter (toT ks)).map id = (M.longer1 L b).map begD := by
  obtain ⟨row, r1, r2, r3⟩ := ok.row hb
  have st : ∀ c, row.getD (M.ls.idxOf c) none = M.step b.2 c := fun c => by unfold Mach.step; rw [r2]
  unfold Mach.longer1
  rw [r2, zip_step ok.nd (ok.wid row r1), List.map_id, List.map_congr_left fun c _ => congrArg (Prod.mk c) (st c)]
  generalize M.ls = cs
  induction cs with
  | nil => rfl
  | cons c cs ih =>
    rw [List.map_cons, List.map_cons, List.filterMap_cons]
    cases q : M.step b.2 c with
    | none =>
      rw [List.filter_cons_of_neg (by show ¬ (inT ks (goalD (M.step b.2 c)) = true); rw [q]; exact fun z => nomatch z)]
      exact ih
    | some k =>
      by_cases hL : k ∈ L
      · rw [List.filter_cons_of_pos (by show inT ks (goalD (M.step b.2 c)) = true; rw [q]; exact decide_eq_true ((hk k).mpr hL)), ih]
        rw [show stepTo L b.1 (c, some k) = some (b.1 ++ [c], k) from if_pos hL]
        show stD M b c :: _ = begD (b.1 ++ [c], k) :: _
        rw [stD, q]
        rfl
      · rw [List.filter_cons_of_neg (by show ¬ (inT ks (goalD (M.step b.2 c)) = true); rw [q]; exact fun z => hL ((hk k).mp (of_decide_eq_true z))), ih]
        rw [show stepTo L b.1 (c, some k) = none from if_neg hL]
end
def fstD : D → D
  | .tup [x, _] => x
  | _ => .non
def inEnds (M : Mach) : D → Bool
  | .tup [_, .int s] => decide (s.toNat ∈ M.ends)
  | _ => false
theorem words_sel2 (M : Mach) (bs : List Beg) : ((bs.map begD).filter (inEnds M)).map fstD = wordsD (M.wordsOf bs) := by
  rw [List.filter_map, List.map_map, wordsD, Mach.wordsOf, List.map_map]
  rfl
def stOf (M : Mach) (b : Beg) : D → D
  | .str z => match z.cps.toList with
    | [c] => stD M b c
    | _ => .non
  | _ => .non
section
variable {P : Program} {w : World} {K : Fg} {mg : Str → Option Value} {base : Heap}
abbrev aG (M : Mach) (many : Nat) (ks : List Key) (x3 x4 x5 : Slot) : Gm := [.dat M.d, .dat (.int (many : Nat)), .own (tD ks), x3, x4, x5, .un, .un, .un, .un, .un, .un, .un, .un, .un, .un]
def wf__law_firsts : WF := fun ds ed Q => ∃ (M : Mach) (many : Nat), M.Ok ∧ ds = [M.d, .int (many : Nat)] ∧ many ≤ 40 ∧ Q (.lst (wordsD (M.firsts many)))
theorem len__law_firsts {ds : List D} {ed : Value → Prop} {Q : D → Prop} (h : wf__law_firsts ds ed Q) : ds.length = 2 := by
  obtain ⟨_, _, _, rfl, _⟩ := h
  rfl
abbrev lfT : WT := wAnd (wB (w2 (fEqD not) (wRd 6) (wF (wSz wNil)))) (wB (w2 fLt (wCb fLen (wCons (wRd 7) wNil)) (wRd 1)))
abbrev lfS : WS := wSq (wSet 11 (wF (wLc 0 [14] (wSeq (w2 fIx (wRd 0) (wC (.int 0)))) (gN 14) wTt (wTup (wCons (w2 fAddA (wRd 9) (wRd 14)) (wCons (wCall wf__law_run (wCons (wVar 0) (wCons (wVar 10) (wCons (wVar 14) wNil)))) wNil)))))) (wExt 8 (wF (wLc 0 [15] (wSeq (wVar 11)) (gN 15) (wB (w2 (fInT id) (w2 fIx (wRd 15) (wC (.int 1))) (wRd 2))) (wVar 15))))
abbrev lfB : WS := wSq (wSet 7 (w2 fAddA (wRd 7) (wF (wLc 0 [9, 10] (wSeq (wVar 6)) (gT 2 (gsC (gN 9) (gsC (gN 10) gsN))) (wB (w2 (fIn id) (wRd 10) (w2 fIx (wRd 0) (wC (.int 2))))) (wVar 9))))) (wSq (wSetO 8 (wSz wNil)) (wSq (wFor 0 (wSeq (wVar 6)) (gT 2 (gsC (gN 9) (gsC (gN 10) gsN))) lfS) (wAlias 6 8)))
def lfG (M : Mach) (many T : Nat) (ks : List Key) (x3 x4 x5 x8 x9 x10 x11 : Slot) : Gm := [.dat M.d, .dat (.int (many : Nat)), .dat (tD ks), x3, x4, x5, .dat (.lst ((M.lv M.live T).map begD)), .dat (.lst (wordsD (M.allw M.live T))), x8, x9, x10, x11, .un, .un, .un, .un]
def lfI (M : Mach) (many T : Nat) (ks : List Key) (x3 x4 x5 : Slot) (acc : List Beg) (x9 x10 x11 : Slot) : Gm := [.dat M.d, .dat (.int (many : Nat)), .dat (tD ks), x3, x4, x5, .dat (.lst ((M.lv M.live T).map begD)), .dat (.lst (wordsD (M.allw M.live (T + 1)))), .own (.lst (acc.map begD)), x9, x10, x11, .un, .un, .un, .un]
theorem lf_loop {M : Mach} {many : Nat} {De : DEnds} {ks : List Key} {x3 x4 x5 : Slot} (ok : M.Ok) (hm : many ≤ 40) (hk : ∀ s, kN s ∈ ks ↔ s ∈ M.live) (fin : ∀ (T : Nat) (x8 x9 x10 x11 : Slot), T ≤ 7 * many → (M.lv M.live T = [] ∨ many ≤ (M.allw M.live T).length) → De.nx (lfG M many T ks x3 x4 x5 x8 x9 x10 x11)) :
    ∀ (j T : Nat) (x8 x9 x10 x11 : Slot), T + j = 7 * many + 1 → (∀ i, i < T → M.lv M.live i ≠ [] ∧ (M.allw M.live i).length < many) → whileW lfT lfB j (lfG M many T ks x3 x4 x5 x8 x9 x10 x11) De
  | 0, T, _, _, _, _, h, hi => by
    obtain ⟨h1, h2⟩ := hi (7 * many) (by omega)
    rcases allw_ends ok many with q | q
    · exact absurd q h1
    · omega
  | j + 1, T, x8, x9, x10, x11, h, hi => by
    have leave := fun z => fin T x8 x9 x10 x11 (by omega) z
    have wl : (wordsD (M.allw M.live T)).length = (M.allw M.live T).length := List.length_map ..
    have sh : SeqAt.shaped (.list ((M.lv M.live T).map begP)) = true := begs_shaped fun b hb c hc => ok.sign (lv_let hb c hc)
    conv => whnf
    refine ⟨by rw [sizeLine_eq]; show 0 ≤ 16777216; decide, ?_⟩
    refine onO_i (begs_py _) (onO_i (a := .list []) rfl ⟨sh, rfl, ?_⟩)
    rw [eqv_nil]
    by_cases e0 : M.lv M.live T = []
    · exact fork_f (by rw [e0]; rfl) (fork_f rfl (leave (.inl e0)))
    · refine fork_t (by cases q : M.lv M.live T with | nil => exact absurd q e0 | cons _ _ => rfl) ?_
      conv => whnf
      by_cases hw : (M.allw M.live T).length < many
      · have small := lv_small ok (T := T) (by omega)
        refine fork_t (decide_eq_true (by rw [wl]; omega)) ?_
        conv => whnf
        refine ⟨by rw [List.length_map]; exact small_lt small, .inl rfl, ?_⟩
        refine compW_filter (f := fstD) (t := inEnds M) (fun d hd R Z hR hZ => ?_) ?_
        · obtain ⟨b, hb, rfl⟩ := List.mem_map.mp hd
          refine ⟨rfl, rfl, rfl, flat_ints M.ends, ?_⟩
          show DL.fork (inD (goalD (some b.2)) (natsD M.ends)) _ _
          rw [in_natsD]
          exact fork_i (fun z => hR z) (fun z => hZ z)
        · rw [List.nil_append, words_sel2]
          have l2 : (wordsD (M.wordsOf (M.lv M.live T))).length ≤ (M.lv M.live T).length := by
            unfold wordsD Mach.wordsOf
            rw [List.length_map, List.length_map]
            exact List.length_filter_le _ _
          refine ⟨by rw [wl, sizeLine_eq]; omega, by rw [sizeLine_eq]; show 0 ≤ 16777216; decide, ?_⟩
          conv => whnf
          refine ⟨.inl rfl, ?_⟩
          refine forW_ind (fun r G => ∃ (rs acc : List Beg) (y9 y10 y11 : Slot), r = rs.map begD ∧ (∀ b ∈ rs, b.1.length ≤ 100000 ∧ b.2 < M.rows.length) ∧ acc.length + 3 * rs.length ≤ 300000 ∧ acc ++ M.longer M.live rs = M.longer M.live (M.lv M.live T) ∧ G = lfI M many T ks x3 x4 x5 acc y9 y10 y11) ?_ ?_ _ _ ⟨M.lv M.live T, [], x9, x10, x11, rfl, fun b hb => ?_, by simp; omega, rfl, ?_⟩
          · rintro d r G ⟨rs, acc, y9, y10, y11, e, hrs, hl, ha, rfl⟩ next
            cases rs with
            | nil => exact nomatch e
            | cons b rs =>
              cases e
              obtain ⟨hb1, hb2⟩ := hrs b List.mem_cons_self
              rw [List.length_cons] at hl
              refine ⟨rfl, rfl, ?_⟩
              conv => whnf
              have l3 := ok.l3
              have cl : (chars (txt M.ls)).length = M.ls.length := by rw [chars_txt, List.length_map]
              refine ⟨by rw [cl, sizeLine_eq]; omega, .inl rfl, ?_⟩
              refine compW_map (f := stOf M b) (fun d hd R hR => ?_) ?_
              · rw [chars_txt] at hd
                obtain ⟨c, hc, rfl⟩ := List.mem_map.mp hd
                have hR : R (stD M b c) := hR
                conv => whnf
                refine ⟨Nat.le_trans (Nat.add_le_add_right hb1 1) (by rw [sizeLine_eq]; decide), M, some b.2, [c], ok, rfl, (fun k e => by cases e; exact hb2), (fun c' h => by rw [List.mem_singleton.mp h]; exact hc), by rw [sizeLine_eq]; show 2 ≤ 16777216; decide, ?_⟩
                rw [txt_app]
                exact hR
              · rw [List.nil_append, chars_txt, List.map_map, show (stOf M b ∘ fun c => D.str ⟨#[c]⟩) = stD M b from rfl]
                conv => whnf
                refine ⟨by rw [List.length_map, sizeLine_eq]; omega, .inl rfl, ?_⟩
                refine compW_filter (f := id) (t := toT ks) (fun d hd R Z hR hZ => ?_) ?_
                · obtain ⟨c, hc, rfl⟩ := List.mem_map.mp hd
                  have hR : toT ks (stD M b c) = true → R (stD M b c) := hR
                  conv => whnf
                  cases q : M.step b.2 c with
                  | none => exact fork_f rfl (hZ (by show inT ks (goalD (M.step b.2 c)) = false; rw [q]; rfl))
                  | some k =>
                    have e1 : toT ks (stD M b c) = decide (kN k ∈ ks) := by
                      show inT ks (goalD (M.step b.2 c)) = _
                      rw [q]
                      rfl
                    exact fork_i (fun z => hR (e1.trans z)) (fun z => hZ (e1.trans z))
                · rw [List.nil_append, steps_longer ok hk hb2]
                  have l1 := longer1_len ok (L := M.live) (b := b)
                  refine ⟨by rw [List.length_map, List.length_map, sizeLine_eq]; omega, ?_⟩
                  refine next _ ⟨rs, acc ++ M.longer1 M.live b, .dat (.str (txt b.1)), .dat (.int (b.2 : Nat)), .dat (.lst (M.ls.map (stD M b))), rfl, fun b' h => hrs b' (List.mem_cons_of_mem _ h), by rw [List.length_append]; omega, ?_, ?_⟩
                  · rw [← ha, Mach.longer, Mach.longer, List.flatMap_cons, List.append_assoc]
                  · unfold lfI
                    rw [List.map_append]
                    rfl
          · rintro G ⟨rs, acc, y9, y10, y11, e, hrs, hl, ha, rfl⟩
            cases rs with
            | nil =>
              have ha : acc = M.lv M.live (T + 1) := by
                show acc = M.longer M.live (M.lv M.live T)
                rw [← ha]
                simp [Mach.longer]
              subst ha
              have next := lf_loop ok hm hk fin j (T + 1) (.dat (.lst ((M.lv M.live (T + 1)).map begD))) y9 y10 y11 (by omega) fun i q => by
                rcases Nat.lt_or_ge i T with q' | q'
                · exact hi i q'
                · have : i = T := by omega
                  subst this
                  exact ⟨e0, hw⟩
              exact next
            | cons b rs => exact nomatch e
          · obtain ⟨h1, h2⟩ := lv_in hb
            rw [live_stage] at h1
            exact ⟨by omega, stage_lt ok h1⟩
          · rw [lfI, show wordsD (M.allw M.live (T + 1)) = wordsD (M.allw M.live T) ++ wordsD (M.wordsOf (M.lv M.live T)) from List.map_append ..]
            rfl
      · exact fork_f (decide_eq_false (by rw [wl]; omega)) (leave (.inr (by omega)))
abbrev N__law_firsts : List Str := ["machine", "many", "alive", "turn", "k", "row", "level", "found", "longer", "word", "state", "steps", "end", "after", "c", "step"]
theorem sc__law_firsts : FnScope N__law_firsts ["machine", "many"] (defScope (topS 40)) := ⟨rfl, rfl, rfl, by decide +kernel, rfl, by decide +kernel, by decide +kernel⟩
theorem ok__law_firsts {f : Addr} {fd : FuncData}  (B : Bl mg)    (F__law_run : DFn P w K mg base "_law_run" 1 3 (wf__law_run)) (F : Fun K "_law_firsts" "_law_firsts" (topS 40) f fd) (g : mg "_law_firsts" = some (.ref f)) (b : Binds K fd ["machine", "many"] []) : DFn P w K mg base "_law_firsts" 2 2 (wf__law_firsts) := by
  exact dfn_of (N := N__law_firsts) F sc__law_firsts g b rfl (fun ds ed Q h => len__law_firsts h) (fun cdv A outer s H E hr =>
    (dss_cons (ds_setT (i := 2) (fun _ => rfl) (fun _ => rfl) (fun _ => B.dict) (DE.r (DF.de (df_lc (own := [("end", 12)]) (fun _ => rfl) (fun _ => sc__law_firsts.nd) (di_seq (fun _ => rfl) (de_ix (fun _ => rfl) (dr_pv (fun _ => pv 0)) (DE.r de_int))) (dg_pg (fun _ => pg_name (i := 12) sc__law_firsts.nd rfl (by first | exact Or.inl rfl | exact Or.inr rfl))) (de_tup (da_cons (de_pv (fun _ => pv 12)) (da_cons de_bl da_nil))) (fun _ => blkOk_by (N := N__law_firsts) (sc := defScope (topS 40)) (by decide +kernel))))) (fun _ => sc__law_firsts.nd))
    (dss_cons (ds_for (fun _ => passes_of rfl) (fun _ => rfl) (di_range1 (fun _ => B.range) (db_cons (DE.r de_int) db_nil)) (dg_pg (fun _ => pg_name (i := 3) sc__law_firsts.nd rfl (.inl rfl))) (dss_one (ds_for (fun _ => passes_of rfl) (fun _ => rfl) (di_enT (fun _ => rfl) (fun _ => B.enumerate) (da_cons (de_ix (fun _ => rfl) (dr_pv (fun _ => pv 0)) (DE.r de_int)) da_nil)) (dg_tup (n := 2) (fun _ => rfl) (fun _ => rfl) (dgs_cons (dg_pg (fun _ => pg_name (i := 4) sc__law_firsts.nd rfl (.inl rfl))) (dgs_cons (dg_pg (fun _ => pg_name (i := 5) sc__law_firsts.nd rfl (.inl rfl))) dgs_nil))) (dss_one (ds_if (dt_seen 2 (DX.dt (dx_neD (fun _ => rfl) (fun _ => hr) (DE.r (DF.de (df_lcIf (own := [("after", 13)]) (fun _ => rfl) (fun _ => sc__law_firsts.nd) (di_seq (fun _ => rfl) (de_pv (fun _ => pv 5))) (dg_pg (fun _ => pg_name (i := 13) sc__law_firsts.nd rfl (by first | exact Or.inl rfl | exact Or.inr rfl))) (DX.dt (dx_inT (fun _ => hr) (dr_pv (fun _ => pv 13)) (dr_pv (fun _ => pv 2)))) de_int (fun _ => blkOk_by (N := N__law_firsts) (sc := defScope (topS 40)) (by decide +kernel))))) (DE.r (DF.de (df_lst da_nil)))))) (dss_one (ds_putT (i := 2) (fun _ => hr) (fun _ => pv 2) (de_pv (fun _ => pv 4)))) dss_nil)))))
    (dss_seen 2 (dss_cons (ds_par (i := 6) (j := 7) (de_if (DX.dt (dx_inT (fun _ => hr) (DE.r de_int) (dr_pv (fun _ => pv 2)))) (DF.de (df_lst (da_cons (de_tup (da_cons de_str (da_cons de_int da_nil))) da_nil))) (DF.de (df_lst da_nil))) (DF.de (df_lst da_nil)) (fun _ => sc__law_firsts.nd))
    (dss_cons (ds_while (fun _ => passes_of rfl) (DW.dt (dw_and (DX.dt (dx_neD (fun _ => rfl) (fun _ => hr) (dr_pv (fun _ => pv 6)) (DE.r (DF.de (df_lst da_nil))))) (dw_and1 (DX.dt (dx_ltS (DE.r (de_len (fun _ => rfl) (fun _ => B.len) (db_cons (dr_pv (fun _ => pv 7)) db_nil))) (dr_pv (fun _ => pv 1))))))) (dss_cons (ds_set (i := 7) (de_addA (dr_pv (fun _ => pv 7)) (DE.r (DF.de (df_lcIf (own := [("word", 9), ("state", 10)]) (fun _ => rfl) (fun _ => sc__law_firsts.nd) (di_seq (fun _ => rfl) (de_pv (fun _ => pv 6))) (dg_tup (n := 2) (fun _ => rfl) (fun _ => rfl) (dgs_cons (dg_pg (fun _ => pg_name (i := 9) sc__law_firsts.nd rfl (by first | exact Or.inl rfl | exact Or.inr rfl))) (dgs_cons (dg_pg (fun _ => pg_name (i := 10) sc__law_firsts.nd rfl (by first | exact Or.inl rfl | exact Or.inr rfl))) dgs_nil))) (DX.dt (dx_in (fun _ => rfl) (dr_pv (fun _ => pv 10)) (DE.r (de_ix (fun _ => rfl) (dr_pv (fun _ => pv 0)) (DE.r de_int))))) (de_pv (fun _ => pv 9)) (fun _ => blkOk_by (N := N__law_firsts) (sc := defScope (topS 40)) (by decide +kernel)))))) (fun _ => sc__law_firsts.nd))
    (dss_cons (ds_setO (i := 8) (df_lst da_nil) (fun _ => sc__law_firsts.nd))
    (dss_cons (ds_for (fun _ => passes_of rfl) (fun _ => rfl) (di_seq (fun _ => rfl) (de_pv (fun _ => pv 6))) (dg_tup (n := 2) (fun _ => rfl) (fun _ => rfl) (dgs_cons (dg_pg (fun _ => pg_name (i := 9) sc__law_firsts.nd rfl (.inr rfl))) (dgs_cons (dg_pg (fun _ => pg_name (i := 10) sc__law_firsts.nd rfl (.inr rfl))) dgs_nil))) (dss_cons (ds_setLc (i := 11) (own := [("c", 14)]) (fun _ => rfl) (fun _ => sc__law_firsts.nd) (di_seq (fun _ => rfl) (de_ix (fun _ => rfl) (dr_pv (fun _ => pv 0)) (DE.r de_int))) (dg_pg (fun _ => pg_name (i := 14) sc__law_firsts.nd rfl (by first | exact Or.inl rfl | exact Or.inr rfl))) (de_tup (da_cons (de_addA (dr_pv (fun _ => pv 9)) (dr_pv (fun _ => pv 14))) (da_cons (de_call F__law_run (fun _ => ⟨rfl, rfl, rfl, rfl, rfl⟩) (fun _ => takes0) (fun _ => hr) (da_cons (de_pv (fun _ => pv 0)) (da_cons (de_pv (fun _ => pv 10)) (da_cons (de_pv (fun _ => pv 14)) da_nil)))) da_nil))) (fun _ => blkOk_by (N := N__law_firsts) (sc := defScope (topS 40)) (by decide +kernel)))
    (dss_one (ds_extend (i := 8) (fun _ => rfl) (fun _ => pv 8) (DF.de (df_lcIf (own := [("step", 15)]) (fun _ => rfl) (fun _ => sc__law_firsts.nd) (di_seq (fun _ => rfl) (de_pv (fun _ => pv 11))) (dg_pg (fun _ => pg_name (i := 15) sc__law_firsts.nd rfl (by first | exact Or.inl rfl | exact Or.inr rfl))) (DX.dt (dx_inT (fun _ => hr) (DE.r (de_ix (fun _ => rfl) (dr_pv (fun _ => pv 15)) (DE.r de_int))) (dr_pv (fun _ => pv 2)))) (de_pv (fun _ => pv 15)) (fun _ => blkOk_by (N := N__law_firsts) (sc := defScope (topS 40)) (by decide +kernel))))))))
    (dss_one (ds_alias (i := 6) (fun _ => pv 8) (fun _ => sc__law_firsts.nd)))))))
    (dss_one (ds_ret (de_sl (fun _ => rfl) (dr_pv (fun _ => pv 7)) do_none (do_some (de_pv (fun _ => pv 1))))))))))))
    (fun ds ed Q h => by
      obtain ⟨M, many, ok, rfl, hm, hq⟩ := h
      unfold N__law_firsts
      conv => whnf
      have hr6 := ok.r6
      have he6 := ok.e6
      have el : M.endsD.length = M.ends.length := List.length_map ..
      have rl : M.rowsD.length = M.rows.length := List.length_map ..
      refine ⟨by rw [el, sizeLine_eq]; omega, .inl rfl, ?_⟩
      refine compW_map (f := fun d => .tup [d, .bl true]) (fun d hd R hR => ?_) ?_
      · obtain ⟨k, hk, rfl⟩ := List.mem_map.mp hd
        exact ⟨by rw [sizeLine_eq]; show 2 ≤ 16777216; decide, hR⟩
      conv => whnf
      refine ⟨M.ends.map kN, ?_, ?_⟩
      · rw [List.nil_append, Mach.endsD, List.map_map, List.map_map]
        rfl
      conv => whnf
      refine ⟨by omega, by omega, .inr (by show 6 ≤ 256; decide), ?_⟩
      refine forW_ind (fun r G => ∃ (n : Nat) (ks : List Key) (x3 x4 x5 : Slot), n + r.length = 6 ∧ Alive M n ks ∧ ks.length + 6 * r.length ≤ 42 ∧ G = aG M many ks x3 x4 x5) ?_ ?_ _ _ ⟨0, (M.ends.map kN).foldl addK [], _, _, _, rfl, ⟨fun s hs => mem_fold.mpr (.inr (List.mem_map_of_mem hs)), fun k hk => ?_⟩, ?_, rfl⟩
      · rintro d r G ⟨n, ks, x3, x4, x5, hn, al, hl, rfl⟩ next
        rw [List.length_cons] at hl hn
        conv => whnf
        refine ⟨.inl rfl, ?_⟩
        refine forW_ind (fun r2 G => ∃ (j : Nat) (ks : List Key) (x4 x5 : Slot), r2 = (enum M.rowsD).drop j ∧ j ≤ M.rows.length ∧ Alive M n ks ∧ (∀ s ∈ M.stage (n + 1), s < j → kN s ∈ ks) ∧ ks.length + (6 - j) + 6 * r.length ≤ 42 ∧ G = aG M many ks (.dat d) x4 x5) ?_ ?_ _ _ ⟨0, ks, _, _, rfl, Nat.zero_le _, al, (fun _ _ z => absurd z (Nat.not_lt_zero _)), by omega, rfl⟩
        · rintro d2 r2 G ⟨j, ks, x4, x5, e, hj, al, ups, hl, rfl⟩ next2
          obtain ⟨x, h1, rfl, rfl⟩ := enum_at e.symm
          have lt : j < M.rows.length := by have := (List.getElem?_eq_some_iff.mp h1).1; omega
          obtain ⟨row, k1, k2, k3⟩ := ok.row lt
          obtain rfl : x = .tup (row.map goalD) := by
            rw [Mach.rowsD, List.getElem?_map, k3] at h1
            exact (Option.some.inj h1).symm
          have wr : (row.map goalD).length ≤ 3 := by
            rw [List.length_map]
            exact Nat.le_trans (Nat.le_of_eq (ok.wid row k1)) ok.l3
          conv => whnf
          refine ⟨rfl, rfl, ?_⟩
          conv => whnf
          refine ⟨by rw [sizeLine_eq]; omega, .inl rfl, ?_⟩
          refine compW_filter (f := fun _ => .int 1) (t := inT ks) (fun d hd R Z hR hZ => ?_) ?_
          · obtain ⟨g, hg, rfl⟩ := List.mem_map.mp hd
            cases g with
            | none => exact fork_f rfl (hZ rfl)
            | some k => exact fork_i (fun z => hR z) (fun z => hZ z)
          · refine ⟨Nat.zero_le _, ?_⟩
            rw [List.nil_append]
            refine onO_i (ones_py _) (onO_i (a := .list []) rfl ⟨ones_shaped _, rfl, ?_⟩)
            rw [eqv_nil]
            refine fork_i (fun z => ?_) (fun z => ?_)
            · obtain ⟨k, hk, hks⟩ : ∃ k, some k ∈ row ∧ kN k ∈ ks := by
                cases q : (row.map goalD).filter (inT ks) with
                | nil => rw [q] at z; exact nomatch z
                | cons d0 l0 =>
                  obtain ⟨m1, m2⟩ := List.mem_filter.mp (q ▸ List.mem_cons_self : d0 ∈ (row.map goalD).filter (inT ks))
                  obtain ⟨g, hg, rfl⟩ := List.mem_map.mp m1
                  cases g with
                  | none => exact nomatch m2
                  | some k => exact ⟨k, hg, of_decide_eq_true m2⟩
              have lj : j ∈ M.live := by
                obtain ⟨s, hs, es⟩ := al.dn _ hks
                have := kN_inj es
                subst this
                refine live_still ok (List.mem_filter.mpr ⟨List.mem_range.mpr lt, ?_⟩)
                rw [Bool.or_eq_true, k2]
                exact .inr (List.any_eq_true.mpr ⟨some k, hk, decide_eq_true hs⟩)
              refine ⟨rfl, by rw [sizeLine_eq]; omega, ?_⟩
              conv => whnf
              refine next2 _ ⟨j + 1, addK ks (kN j), .dat (.int (j : Nat)), .dat (.tup (row.map goalD)), rfl, lt, ⟨fun s hs => mem_addK.mpr (.inl (al.up s hs)), fun k hk => ?_⟩, fun s hs hj => ?_, ?_, rfl⟩
              · rcases mem_addK.mp hk with hk | rfl
                · exact al.dn k hk
                · exact ⟨j, lj, rfl⟩
              · rcases Nat.lt_or_ge s j with q | q
                · exact mem_addK.mpr (.inl (ups s hs q))
                · exact mem_addK.mpr (.inr (by rw [show s = j by omega]))
              · have := addK_len ks (kN j)
                omega
            · refine next2 _ ⟨j + 1, ks, .dat (.int (j : Nat)), .dat (.tup (row.map goalD)), rfl, lt, al, fun s hs hj => ?_, by omega, rfl⟩
              rcases Nat.lt_or_ge s j with q | q
              · exact ups s hs q
              · have ej : s = j := by omega
                subst ej
                obtain ⟨_, m2⟩ := List.mem_filter.mp hs
                rcases (Bool.or_eq_true _ _ ▸ m2 : _ ∨ _) with m2 | m2
                · exact al.up _ (of_decide_eq_true m2)
                · rw [k2] at m2
                  obtain ⟨g, hg, hgi⟩ := List.any_eq_true.mp m2
                  cases g with
                  | none => exact nomatch hgi
                  | some k =>
                    have hk : kN k ∈ ks := al.up k (of_decide_eq_true hgi)
                    have mem : goalD (some k) ∈ (row.map goalD).filter (inT ks) := List.mem_filter.mpr ⟨List.mem_map_of_mem hg, decide_eq_true hk⟩
                    cases q : (row.map goalD).filter (inT ks) with
                    | nil => rw [q] at mem; exact nomatch mem
                    | cons d0 l0 => rw [q] at z; exact nomatch z
        · rintro G ⟨j, ks, x4, x5, e, hj, al, ups, hl, rfl⟩
          have ej : j = M.rows.length := by
            have : ((enum M.rowsD).drop j).length = 0 := by rw [← e]; rfl
            rw [List.length_drop, enum_len] at this
            omega
          subst ej
          exact next _ ⟨n + 1, ks, _, _, _, by omega, ⟨fun s hs => ups s hs (stage_lt ok hs), al.dn⟩, by omega, rfl⟩
      · rintro G ⟨n, ks, x3, x4, x5, hn, al, hl, rfl⟩
        obtain rfl : n = 6 := hn
        have hk : ∀ s, kN s ∈ ks ↔ s ∈ M.live := fun s => ⟨fun z => by
          obtain ⟨s', h1, h2⟩ := al.dn _ z
          rw [kN_inj h2]
          exact h1, fun z => al.up s (by rw [live_stage] at z; exact stage_le ok z hr6)⟩
        have go : ∀ De : DEnds, (∀ (T : Nat) (x8 x9 x10 x11 : Slot), T ≤ 7 * many → (M.lv M.live T = [] ∨ many ≤ (M.allw M.live T).length) → De.nx (lfG M many T ks x3 x4 x5 x8 x9 x10 x11)) → wWhile lfT lfB (lfG M many 0 ks x3 x4 x5 .un .un .un .un) De := fun De fin => ⟨7 * many + 1, lf_loop ok hm hk fin (7 * many + 1) 0 _ _ _ _ (by omega) fun i q => absurd q (Nat.not_lt_zero i)⟩
        have out : ∀ (T : Nat) (x8 x9 x10 x11 : Slot), T ≤ 7 * many → (M.lv M.live T = [] ∨ many ≤ (M.allw M.live T).length) → wRet (wSl (wRd 7) wNone (wSome (wVar 1))) (lfG M many T ks x3 x4 x5 x8 x9 x10 x11) (dEnds ed Q) := fun T x8 x9 x10 x11 hT hx => by
          show Q (.lst (cut (wordsD (M.allw M.live T)) none (some (many : Nat))))
          rw [cut_take, wordsD, ← List.map_take, ← firsts_of hT hx]
          exact hq
        have w := go { dEnds ed Q with nx := fun G' => wRet (wSl (wRd 7) wNone (wSome (wVar 1))) G' (dEnds ed Q) } out
        unfold lfG at w
        conv => whnf
        by_cases hz : 0 ∈ M.live
        · refine fork_t (decide_eq_true ((hk 0).mpr hz)) ?_
          have e0 : M.lv M.live 0 = [([], 0)] := if_pos hz
          rw [e0] at w
          exact ⟨by rw [sizeLine_eq]; show 2 ≤ 16777216; decide, by rw [sizeLine_eq]; show 1 ≤ 16777216; decide, by rw [sizeLine_eq]; show 0 ≤ 16777216; decide, w⟩
        · refine fork_f (decide_eq_false fun z => hz ((hk 0).mp z)) ?_
          have e0 : M.lv M.live 0 = [] := if_neg hz
          rw [e0] at w
          exact ⟨by rw [sizeLine_eq]; show 0 ≤ 16777216; decide, by rw [sizeLine_eq]; show 0 ≤ 16777216; decide, w⟩
      · rcases mem_fold.mp hk with z | z
        · exact nomatch z
        · obtain ⟨s, hs, rfl⟩ := List.mem_map.mp z
          exact ⟨s, by rw [live_stage]; exact stage_le ok (m := 0) hs (Nat.zero_le _), rfl⟩
      · have := fold_len (M.ends.map kN) []
        rw [List.length_map, List.length_nil] at this
        have l6 : (rngD 0 (Int.toNat 6)).length = 6 := rfl
        rw [l6]
        omega)

end
end T

namespace T
open PySem PySem.Spec PyProof.Rows L2 DL
open LamX (Tabs TabB LamS lamS_by GivesTo lamEnv lamCx)
theorem pss_ex {α : Type} {X : Cx} {sts : List Stmt} {ts : α → TS} (h : ∀ a, PSs X sts (ts a)) : PSs X sts (fun D σ H => ∃ a, ts a D σ H) := ⟨fun pins s σ H D I ⟨a, z⟩ => (h a).run pins s σ H D I z⟩
section
variable {P : Program} {w : World} {K : Fg} {mg : Str → Option Value} {base : Heap}
abbrev N_law : List Str := ["script", "pen", "turn", "machine", "text", "letters", "long", "words", "again", "word", "many", "due", "told", "other", "odds", "odd", "chain", "more", "sign", "state", "at", "c"]
abbrev N__law_word : List Str := ["call", "e"]
abbrev sLaw : Stmt := (topS 42)
theorem sc_law : FnScope N_law ["script"] (defScope sLaw) := ⟨rfl, rfl, rfl, by decide +kernel, rfl, by decide +kernel, by decide +kernel⟩
theorem sc__law_word : FnScope N__law_word ["call"] (defScope (topS 39)) := ⟨rfl, rfl, rfl, by decide +kernel, rfl, by decide +kernel, by decide +kernel⟩
abbrev qL : Str := (envOfC "law" (defScope sLaw) 0 0 .none).qual ++ "<lambda>"
abbrev csW (cNoWord cNoCount cTearError : Addr) : List Cw := [(.ref cNoWord, "word"), (.ref cNoCount, "count"), (.ref cTearError, "odd")]
theorem word_call {X : Cx} {k : Nat} {cNoWord cNoCount cTearError cL Pt gC : Addr} {fdC : FuncData} {params : Arguments} {body : Expr} {scope : Scope} {lpos p pos : Pos} (XW : XFact K mg "NoWord" cNoWord) (XC : XFact K mg "NoCount" cNoCount) (XT : XFact K mg "TearError" cTearError) (hX : X.prog = P ∧ X.w = w ∧ X.K = K ∧ X.mg = mg ∧ X.base = base) (Fc : Fun K "_law_word" "_law_word" (topS 39) gC fdC) (gc : mg "_law_word" = some (.ref gC)) (bc : Binds K fdC ["call"] [])
    (TB : TabB base mg cL Pt) (cd : X.env.code = .ref cL) (hg : Gl X "_law_word") (hr : Room (k + 2) X.A) (L : LamS X.env.scope scope) (hdef : defaultsOf params X.env = ([], [])) (hbind : ∀ (q : Str) (cl : List (Str × Addr)) (pm cv ctv : Value), bindArgs (PySem.W.kla_fn "<lambda>" q params body scope cl pm cv ctv) ⟨[], []⟩ = pure [])
    {t : XK → TE} (hb : ∀ (A : Around) (outer : List Env) (s : Shared) (H : Hp) (E : XK) (f d : Addr), Room k (A.deeper (lamEnv X scope s.heap.objs.size f d)) → PE (lamCx X A outer s H E scope f d) body (t E)) :
    PE X (.Call (.Name "_law_word" p) [.Lambda params body scope lpos] [] pos) (tLamS [(Pt, lamN X)] Pt (TWord K (csW cNoWord cNoCount cTearError) "none") t) := by
  obtain ⟨rfl, rfl, rfl, rfl, rfl⟩ := hX
  obtain ⟨oc, od, kV, doc, pm, an, cdv, ct, osl, rfl, lk, hcd⟩ := Fc.ex
  refine pe_lamS (T := [(Pt, lamN X)]) (TT := TWord X.K (csW cNoWord cNoCount cTearError) "none") (Ng := N__law_word) (a := "call") (c := cL) (g := gC) hg gc Fc.kp lk hcd bc sc__law_word rfl (by first | exact Or.inl rfl | exact Or.inr (Or.inl rfl)) ?_ TB cd (List.mem_singleton.mpr rfl) (fun p hp _ => by rw [List.mem_singleton.mp hp]) hr L hdef hbind hb
  exact word_gives (i := 1) sc__law_word.nd rfl (fun s H => rfl) (fun f => rfl) (fun s H => .cons ⟨rfl, by decide, .inl XW.g⟩ (.cons ⟨rfl, by decide, .inl XC.g⟩ (.cons ⟨rfl, by decide, .inl XT.g⟩ .nil)))
def aL (p : Addr) (x2 x3 x4 x5 x6 x7 x8 x9 x10 x11 x12 x13 x14 x15 x16 : Slot) : Gm := [.un, .dat (.obj (.ref p)), x2, x3, x4, x5, x6, x7, x8, x9, x10, x11, x12, x13, x14, x15, x16, .un, .un, .un, .un, .un]
/-! ### what the law shows -/
def goalP : Option Nat → PyData
  | none => .none
  | some k => .int (k : Nat)
theorem py_tup {α : Type} (f : α → D) (g : α → PyData) (h : ∀ x, pyD (f x) = some (g x)) (xs : List α) : pyD (.tup (xs.map f)) = some (.tuple (xs.map g)) := by
  rw [pyD, pyDs_atoms f g h]
  rfl
theorem py_lst {α : Type} (f : α → D) (g : α → PyData) (h : ∀ x, pyD (f x) = some (g x)) (xs : List α) : pyD (.lst (xs.map f)) = some (.list (xs.map g)) := by
  rw [pyD, pyDs_atoms f g h]
  rfl
theorem py_goal (g : Option Nat) : pyD (goalD g) = some (goalP g) := by cases g <;> rfl
def Mach.sD (M : Mach) : PyData := .tuple [.str (txt M.ls), .tuple (M.rows.map fun r => .tuple (r.map goalP)), .tuple (M.ends.map fun k => .int (k : Nat))]
theorem Mach.sPy (M : Mach) : pyD M.d = some M.sD := by
  have e1 : pyD (.tup M.rowsD) = some (.tuple (M.rows.map fun r => .tuple (r.map goalP))) := py_tup _ _ (fun r => py_tup goalD goalP py_goal r) M.rows
  have e2 : pyD (.tup M.endsD) = some (.tuple (M.ends.map fun k => .int (k : Nat))) := py_tup _ _ (fun k => rfl) M.ends
  have e0 : pyD (.str (txt M.ls)) = some (.str (txt M.ls)) := rfl
  rw [Mach.d, pyD, pyDs, pyDs, pyDs, pyDs, e0, e1, e2]
  rfl
theorem Mach.Ok.gd {M : Mach} (ok : M.Ok) : Gd M.sD 1000 3 := by
  have l3 := ok.l3
  have r6 := ok.r6
  have e6 := ok.e6
  have a : Gd (.str (txt M.ls)) 3 0 := (Gd.str fun c hc => ok.sign hc).mono l3 (Nat.le_refl _)
  have b : Gds (M.rows.map fun r => .tuple (r.map goalP)) 132 1 := by
    have := Gds.of (wt := 21) (dp := 1) (ds := M.rows.map fun r => PyData.tuple (r.map goalP)) fun d hd => by
      obtain ⟨r, hr, rfl⟩ := List.mem_map.mp hd
      have := Gds.of (wt := 6) (dp := 0) (ds := r.map goalP) fun d hd => by
        obtain ⟨g, hg, rfl⟩ := List.mem_map.mp hd
        cases g with
        | none => exact Gd.non.mono (Nat.zero_le _) (Nat.le_refl _)
        | some k => exact Gd.int (by have := ok.goal r hr k hg; omega)
      refine this.tup.mono ?_ (Nat.le_refl _)
      have := ok.wid r hr
      rw [List.length_map]
      omega
    rw [List.length_map] at this
    exact ⟨this.sh, this.nd, this.dp, this.lv, Nat.le_trans this.wt (by omega)⟩
  have c : Gds (M.ends.map fun k => .int (k : Nat)) 42 0 := by
    have := Gds.of (wt := 6) (dp := 0) (ds := M.ends.map fun k => PyData.int (k : Nat)) fun d hd => by
      obtain ⟨k, hk, rfl⟩ := List.mem_map.mp hd
      exact Gd.int (by have := ok.en k hk; omega)
    rw [List.length_map] at this
    exact ⟨this.sh, this.nd, this.dp, this.lv, Nat.le_trans this.wt (by omega)⟩
  exact (Gds.two a (Gds.two b.tup (Gds.two c.tup Gds.nil))).tup.mono (wt := 3 + 1 + (132 + 1 + (42 + 1 + 0))) (dp := max 0 (max (1 + 1) (max (0 + 1) 0)) + 1) (by decide) (by decide)
def WdIn (M : Mach) (d : D) : Prop := ∃ w : List Nat, d = .str (txt w) ∧ (∀ c ∈ w, c ∈ M.ls) ∧ w.length ≤ 1000
theorem joinL_signs : ∀ cs : List Nat, TL.joinL [] (cs.map fun c => [c]) = cs
  | [] => rfl
  | [c] => rfl
  | c :: d :: r => by
    have := joinL_signs (d :: r)
    show [c] ++ ([] ++ TL.joinL [] ((d :: r).map fun c => [c])) = _
    rw [this]
    rfl
theorem join_signs (cs : List Nat) : Txt.join "" (cs.map fun c => (⟨#[c]⟩ : Str)) = txt cs := by
  have h := TL.tl_join "" (cs.map fun c => (⟨#[c]⟩ : Str))
  rw [List.map_map, show (TL.tl ∘ fun c => (⟨#[c]⟩ : Str)) = fun c => [c] from rfl, show TL.tl "" = [] from rfl, joinL_signs] at h
  rw [TL.join_eq]
  show (⟨_⟩ : Str) = ⟨_⟩
  congr 1
  exact Array.toList_inj.mp h
theorem signs_of {M : Mach} : ∀ {out : List D}, (∀ y ∈ out, ∃ c ∈ M.ls, y = .str ⟨#[c]⟩) → ∃ cs : List Nat, out = cs.map (fun c => .str ⟨#[c]⟩) ∧ ∀ c ∈ cs, c ∈ M.ls
  | [], _ => ⟨[], rfl, fun _ z => nomatch z⟩
  | d :: out, h => by
    obtain ⟨c, hc, rfl⟩ := h d List.mem_cons_self
    obtain ⟨cs, rfl, hcs⟩ := signs_of (out := out) fun y hy => h y (List.mem_cons_of_mem _ hy)
    refine ⟨c :: cs, rfl, fun c' h' => ?_⟩
    rcases List.mem_cons.mp h' with rfl | h'
    · exact hc
    · exact hcs c' h'
theorem allw_in {M : Mach} {L : List Nat} : ∀ {T : Nat} {w : List Nat}, w ∈ M.allw L T → w.length < T ∧ ∀ c ∈ w, c ∈ M.ls
  | 0, w, h => nomatch h
  | T + 1, w, h => by
    rcases List.mem_append.mp h with h | h
    · obtain ⟨h1, h2⟩ := allw_in h
      exact ⟨by omega, h2⟩
    · obtain ⟨b, hb, rfl⟩ := List.mem_map.mp h
      have hb := (List.mem_filter.mp hb).1
      exact ⟨by rw [(lv_in hb).2]; omega, lv_let hb⟩
abbrev Mach.fP (M : Mach) (many : Nat) : PyData := .list ((M.firsts many).map fun w => .str (txt w))
theorem firsts_py (M : Mach) (many : Nat) : pyD (.lst (wordsD (M.firsts many))) = some (M.fP many) := py_lst (fun w => .str (txt w)) (fun w => .str (txt w)) (fun _ => rfl) _
theorem firsts_len (M : Mach) (many : Nat) : (M.firsts many).length ≤ many := by
  unfold Mach.firsts
  rw [List.length_take]
  exact Nat.min_le_left _ _
theorem firsts_gd {M : Mach} (ok : M.Ok) {many : Nat} (hm : many ≤ 40) : Gd (M.fP many) 20000 1 := by
  have := Gds.of (wt := 280) (dp := 0) (ds := (M.firsts many).map fun w => PyData.str (txt w)) fun d hd => by
    obtain ⟨w, hw, rfl⟩ := List.mem_map.mp hd
    obtain ⟨h1, h2⟩ := allw_in (List.mem_of_mem_take hw)
    exact (Gd.str fun c hc => ok.sign (h2 c hc)).mono (by show w.length ≤ 280; omega) (Nat.le_refl _)
  refine this.lst.mono ?_ (Nat.le_refl _)
  have := firsts_len M many
  rw [List.length_map]
  omega
def notIn (ls : List Nat) (d : D) : Bool := match sign1 d with
  | some c => !decide (c ∈ ls)
  | none => false
theorem other_of {ls : List Nat} (h : ls.length ≤ 3) : ∃ o rest, [] ++ ((chars "abcdxyz").filter (notIn ls)).map id = D.str ⟨#[o]⟩ :: rest ∧ o ∉ ls := by
  rw [List.nil_append, List.map_id]
  cases q : (chars "abcdxyz").filter (notIn ls) with
  | nil =>
    have nd : (Str.cps "abcdxyz").toList.Nodup := by decide +kernel
    have := nd.length_le_of_subset (l₂ := ls) fun c hc => by
      by_cases m : c ∈ ls
      · exact m
      · have mem : D.str ⟨#[c]⟩ ∈ (chars "abcdxyz").filter (notIn ls) := List.mem_filter.mpr ⟨List.mem_map_of_mem (f := fun c => D.str ⟨#[c]⟩) hc, by show (!decide (c ∈ ls)) = true; rw [decide_eq_false m]; rfl⟩
        rw [q] at mem
        exact nomatch mem
    have e7 : (Str.cps "abcdxyz").toList.length = 7 := by decide +kernel
    omega
  | cons d rest =>
    obtain ⟨m1, m2⟩ := List.mem_filter.mp (q ▸ List.mem_cons_self : d ∈ (chars "abcdxyz").filter (notIn ls))
    obtain ⟨c, hc, rfl⟩ := List.mem_map.mp m1
    refine ⟨c, rest, rfl, fun m => ?_⟩
    have m2 : (!decide (c ∈ ls)) = true := m2
    rw [decide_eq_true m] at m2
    exact nomatch m2
/-- no word of the machine, nor a text of its letters -/
def OddW (M : Mach) (d : D) : Prop := Pl d ∧ isText d (txt M.ls) 200 = false
theorem Mach.Ok.alpha {M : Mach} (ok : M.Ok) {c : Nat} (h : c ∈ M.ls) : 97 ≤ c ∧ c ≤ 122 := by
  have h1 := (Bool.and_eq_true _ _ ▸ ok.ls : _ ∧ _).1
  have h2 := (Bool.and_eq_true _ _ ▸ h1 : _ ∧ _).2
  have a : ∀ c ∈ (Str.cps "abcdefghijklmnopqrstuvwxyz").toList, 97 ≤ c ∧ c ≤ 122 := by decide +kernel
  exact a c (of_decide_eq_true (List.all_eq_true.mp h2 c h))
theorem odd_sign {M : Mach} {c : Nat} {z : Str} (h : c ∉ M.ls) (m : c ∈ z.cps.toList) (hl : z.length ≤ 100000) : OddW M (.str z) := by
  refine ⟨.str _ hl, ?_⟩
  show (!decide ((200 : Int) < (z.length : Int)) && z.cps.toList.all fun c => decide (c ∈ M.ls)) = false
  have : (z.cps.toList.all fun c => decide (c ∈ M.ls)) = false := by
    rw [List.all_eq_false]
    exact ⟨c, m, by rw [decide_eq_false h]; decide⟩
  rw [this, Bool.and_false]
theorem odd_long {M : Mach} {z : Str} (h : 200 < z.length) (hl : z.length ≤ 100000) : OddW M (.str z) := by
  refine ⟨.str _ hl, ?_⟩
  show (!decide ((200 : Int) < (z.length : Int)) && _) = false
  rw [decide_eq_true (by omega)]
  rfl
theorem fold_size (x : Array Nat) : ∀ (k : Nat) (acc : Array Nat), ((List.replicate k x).foldl (· ++ ·) acc).size = acc.size + k * x.size
  | 0, acc => by simp
  | k + 1, acc => by
    rw [List.replicate_succ, List.foldl_cons, fold_size x k, Array.size_append, Nat.succ_mul]
    omega
theorem mul_len (c : Nat) : (Txt.mul ⟨#[c]⟩ 201).length = 201 := by
  have e : Txt.mul ⟨#[c]⟩ 201 = ⟨(List.replicate 201 #[c]).foldl (· ++ ·) #[]⟩ := by
    unfold Txt.mul
    rw [if_neg (by decide), if_neg (by show ¬ ((((201 : Int) == 1) || ((1 : Nat) == 0)) = true); decide)]
    rfl
  rw [e]
  have := fold_size #[c] 201 #[]
  exact this
theorem upper_all : ∀ i, i < 26 → (decide (65 + i ∈ (Txt.upper ⟨#[97 + i]⟩).cps.toList) && decide ((Txt.upper ⟨#[97 + i]⟩).length ≤ 100000)) = true := by decide +kernel
theorem upper_one (c : Nat) (h : c ≤ 122) (h2 : 97 ≤ c) : c - 32 ∈ (Txt.upper ⟨#[c]⟩).cps.toList ∧ (Txt.upper ⟨#[c]⟩).length ≤ 100000 := by
  have := upper_all (c - 97) (by omega)
  rw [show 97 + (c - 97) = c by omega, show 65 + (c - 97) = c - 32 by omega, Bool.and_eq_true] at this
  exact ⟨of_decide_eq_true this.1, of_decide_eq_true this.2⟩
def cellOf (q at' : Int) : D → D
  | .int c => if c = at' then .int (q + 1) else .non
  | _ => .non
def rowOf : D → D
  | .tup [.int q, .int at'] => .tup ((rngD 0 3).map (cellOf q at'))
  | _ => .non
abbrev cMr : List D := [.tup [.int 1, .non, .non], .tup [.non, .non, .int 2], .tup [.non, .int 3, .non], .tup [.int 4, .non, .non], .tup [.non, .non, .int 5]]
abbrev cM : Mach := ⟨[97, 98, 99], [[some 1, none, none], [none, none, some 2], [none, some 3, none], [some 4, none, none], [none, none, some 5], [none, none, none]], [5]⟩
theorem cM_goal : ∀ r ∈ cM.rows, ∀ g ∈ r, (match g with | some k => decide (k < cM.rows.length) | none => true) = true := by decide +kernel
theorem cM_ok : cM.Ok := ⟨by decide +kernel, (fun z => nomatch z), by decide, by decide, by decide, by decide +kernel, (fun r hr k hk => of_decide_eq_true (cM_goal r hr (some k) hk)), by decide, by decide +kernel, by decide⟩
theorem cM_firsts : cM.firsts 3 = [[97, 99, 98, 97, 99]] := by decide +kernel
theorem pick_machine {p : Addr} {x2 x4 x5 x6 x7 x8 x9 x10 x11 x12 x13 x14 x15 x16 : Slot} {M0 : Mach} {De : DEnds} (ok0 : M0.Ok) (h : ∀ M : Mach, M.Ok → De.nx (aL p x2 (.dat M.d) x4 x5 x6 x7 x8 x9 x10 x11 x12 x13 x14 x15 x16)) :
    wSet 3 (wIf (wB (w2 fLt (wCb fLen (wCons (w2 fIx (wRd 3) (wC (.int 0))) wNil)) (wC (.int 3)))) (wVar 3) (wCallP p wf__law_any_machine (wCons (wVar 1) (wCons (wC (.int 4)) wNil)))) (aL p x2 (.dat M0.d) x4 x5 x6 x7 x8 x9 x10 x11 x12 x13 x14 x15 x16) De := by
  have l3 := ok0.l3
  conv => whnf
  refine ⟨by show M0.ls.length ≤ sizeLine; rw [sizeLine_eq]; omega, ?_⟩
  refine fork_i (fun _ => h M0 ok0) fun _ => ?_
  exact ⟨rfl, 4, rfl, by decide, by decide, fun M ok _ => h M ok⟩
/-- the law at the outermost caller -/
theorem ok_law {f fo cL Pt gC a : Addr} {fdo fdC : FuncData} {oc kV doc pm ct : Value} {od an : Option Addr} {osl : Array (Option Value)} {cNoCount cNoMachine cNoWord cTearError : Addr} {s : Shared} {H : Hp} {ns : List Int}
    (B : Bl mg) (X_NoCount : XFact K mg "NoCount" cNoCount) (X_NoWord : XFact K mg "NoWord" cNoWord) (X_TearError : XFact K mg "TearError" cTearError)
    (F__law_open : FnOk P w K mg base (L2.CX P w) 1 fo fdo ["script"] (spOpen K)) (go : mg "_law_open" = some (.ref fo)) (ko : PySem.W.keepIn K (.ref fo) = true) (bo : Binds K fdo ["script"] [])
    (F__law_take : PFn P w K mg base "_law_take" 2 1 1 wf__law_take) (F__law_one_of : PFn P w K mg base "_law_one_of" 3 1 1 wf__law_one_of)
    (F__law_any_path : PFn P w K mg base "_law_any_path" 4 2 256 wf__law_any_path) (F__law_any_machine : PFn P w K mg base "_law_any_machine" 4 1 1000000 wf__law_any_machine)
    (F__law_has : DFn P w K mg base "_law_has" 2 2 wf__law_has) (F__law_firsts : DFn P w K mg base "_law_firsts" 2 2 wf__law_firsts)
    (F_has_word : DFn P w K mg base "has_word" 6 2 (wf_has_word cNoMachine cNoWord)) (F_first_words : DFnN P w K mg base "first_words" 6 2 (wf_first_words cNoCount cNoMachine))
    (F__law_word : Fun K "_law_word" "_law_word" (topS 39) gC fdC) (g__law_word : mg "_law_word" = some (.ref gC)) (b__law_word : Binds K fdC ["call"] [])
    (EWW : PySem.W.exmOne K (.ref cNoWord) (.ref cNoWord) = some true) (ECW : PySem.W.exmOne K (.ref cNoCount) (.ref cNoWord) = some false) (ECC : PySem.W.exmOne K (.ref cNoCount) (.ref cNoCount) = some true)
    (lk : K.lookup f = some ⟨oc, od, .func (PySem.W.fnOf "law" "law" (defArgs sLaw) (defBody sLaw) (defScope sLaw) .none kV doc pm an (.ref cL) ct), osl⟩) (hcd : PySem.W.codeIn K (.ref cL) "law" = true) (TB : TabB base mg cL Pt)
    (hrA : Room 12 callerA) (e0 : Env0 P w K mg base callerA [] s H) (hT : H Pt = some (.tbl #[])) (hS : SqL K H a (ns.map V.int))
    (hbd : ∀ (s : Shared) (u : Value), BindsTo s (PySem.W.fnOf "law" "law" (defArgs sLaw) (defBody sLaw) (defScope sLaw) .none kV doc pm an (.ref cL) ct) ⟨[u], []⟩ [("script", u)]) :
    codeAny (model P w) callerA (.call (.ref f) ⟨[.ref a], []⟩) (CR (L2.CX P w) [] P w H s (fun v _ => v = .bl true) fun _ _ _ => False) s := by
  refine law_body (k := 11) lk hcd sc_law hrA e0 hbd fun hr => ?_
  have hgd : (callerA.deeper (envOfC "law" (defScope sLaw) s.heap.objs.size f (.ref cL))).guards = some [] := caller_guards ..
  have nd := sc_law.nd
  have der := fun p : Addr => by
    have hpn : ∀ Q : Pn, (∃ c, Q = penT p c [(Pt, qL)]) → ∃ c, HasPen p Q c := fun Q h => by obtain ⟨c, rfl⟩ := h; exact ⟨c, hasPenT⟩
    have hlam : ∀ Q : Pn, (∃ c, Q = penT p c [(Pt, qL)]) → Q.is Pt ∧ (∀ n H, Q.ok n H → Tabs [(Pt, qL)] H) ∧ ∀ n H J, Q.ok n H → Off Pt H J → Tabs [(Pt, qL)] J → Q.ok n J := fun Q h => by
      obtain ⟨c, rfl⟩ := h
      exact penT_lam ⟨_, List.mem_singleton.mpr rfl, rfl⟩
    have t : DSs (fun _ : Unit => cxOf (L2.CX P w) P w K mg base N_law "law" (defScope sLaw) f (.ref cL) callerA [] s H fun _ _ _ => False) K ⟨fun cls d _ H => False, fun Q => ∃ c, Q = penT p c [(Pt, qL)]⟩ _ (defBody sLaw).tail _ :=
(dss_cons (ds_for (fun _ => passes_of rfl) (fun _ => rfl) (di_range1 (fun _ => B.range) (db_cons (DE.r de_int) db_nil)) (dg_pg (fun _ => pg_name (i := 2) sc_law.nd rfl (.inl rfl))) (dss_cons (ds_set (i := 3) (de_callPT (p := p) F__law_any_machine (fun _ => ⟨rfl, rfl, rfl, rfl, rfl⟩) hpn (fun _ => takes_of rfl rfl rfl rfl) (fun _ => hr) (da_cons (de_pv (fun _ => pv 1)) (da_cons de_int da_nil))) (fun _ => sc_law.nd))
    (dss_cons (ds_set (i := 3) (de_if (DX.dt (dx_ltS (DE.r (de_len (fun _ => rfl) (fun _ => B.len) (db_cons (DE.r (de_ix (fun _ => rfl) (dr_pv (fun _ => pv 3)) (DE.r de_int))) db_nil))) (DE.r de_int))) (de_pv (fun _ => pv 3)) (de_callPT (p := p) F__law_any_machine (fun _ => ⟨rfl, rfl, rfl, rfl, rfl⟩) hpn (fun _ => takes_of rfl rfl rfl rfl) (fun _ => hr) (da_cons (de_pv (fun _ => pv 1)) (da_cons de_int da_nil)))) (fun _ => sc_law.nd))
    (dss_cons (ds_asgT (de_tup (da_cons (de_repr (fun _ => rfl) (fun _ => hr) (fun _ => hgd) (fun _ => B.repr) (db_cons (dr_pv (fun _ => pv 3)) db_nil)) (da_cons (de_ix (fun _ => rfl) (dr_pv (fun _ => pv 3)) (DE.r de_int)) da_nil))) (dg_tup (n := 2) (fun _ => rfl) (fun _ => rfl) (dgs_cons (dg_pg (fun _ => pg_name (i := 4) sc_law.nd rfl (.inl rfl))) (dgs_cons (dg_pg (fun _ => pg_name (i := 5) sc_law.nd rfl (.inr rfl))) dgs_nil))))
    (dss_cons (ds_set (i := 6) (de_callPT (p := p) F__law_any_path (fun _ => ⟨rfl, rfl, rfl, rfl, rfl⟩) hpn (fun _ => takes_of rfl rfl rfl rfl) (fun _ => hr) (da_cons (de_pv (fun _ => pv 1)) (da_cons (de_pv (fun _ => pv 3)) (da_cons de_int da_nil)))) (fun _ => sc_law.nd))
    (dss_cons (ds_setO (i := 7) (df_lst (da_cons de_str (da_cons (de_pv (fun _ => pv 6)) (da_cons (de_sl (fun _ => rfl) (dr_pv (fun _ => pv 6)) do_none (do_some de_int)) (da_cons (de_addA (dr_pv (fun _ => pv 6)) (DE.r (de_ix (fun _ => rfl) (dr_pv (fun _ => pv 5)) (DE.r de_int)))) (da_cons (de_callPT (p := p) F__law_any_path (fun _ => ⟨rfl, rfl, rfl, rfl, rfl⟩) hpn (fun _ => takes_of rfl rfl rfl rfl) (fun _ => hr) (da_cons (de_pv (fun _ => pv 1)) (da_cons (de_pv (fun _ => pv 3)) (da_cons de_int da_nil)))) da_nil)))))) (fun _ => sc_law.nd))
    (dss_cons (ds_for (fun _ => passes_of rfl) (fun _ => rfl) (di_range1 (fun _ => B.range) (db_cons (DE.r de_int) db_nil)) (dg_pg (fun _ => pg_name (i := 8) sc_law.nd rfl (.inl rfl))) (dss_one (ds_append (i := 7) (fun _ => rfl) (fun _ => pv 7) (de_join (fun _ => rfl) (DE.r de_str) (db_cons (DE.r (DF.de (df_lc (own := [("more", 17)]) (fun _ => rfl) (fun _ => sc_law.nd) (di_range1 (fun _ => B.range) (db_cons (DE.r (de_callPT (p := p) F__law_take (fun _ => ⟨rfl, rfl, rfl, rfl, rfl⟩) hpn (fun _ => takes_of rfl rfl rfl rfl) (fun _ => hr) (da_cons (de_pv (fun _ => pv 1)) (da_cons de_int da_nil)))) db_nil)) (dg_pg (fun _ => pg_name (i := 17) sc_law.nd rfl (by first | exact Or.inl rfl | exact Or.inr rfl))) (de_callPT (p := p) F__law_one_of (fun _ => ⟨rfl, rfl, rfl, rfl, rfl⟩) hpn (fun _ => takes0) (fun _ => hr) (da_cons (de_pv (fun _ => pv 1)) (da_cons (de_pv (fun _ => pv 5)) da_nil))) (fun _ => blkOk_by (N := N_law) (sc := defScope (topS 42)) (by decide +kernel))))) db_nil)))))
    (dss_seen 7 (dss_cons (ds_for (fun _ => passes_of rfl) (fun _ => rfl) (di_seq (fun _ => rfl) (de_pv (fun _ => pv 7))) (dg_pg (fun _ => pg_name (i := 9) sc_law.nd rfl (.inl rfl))) (dss_one (ds_if (DW.dt (dw_and (DX.dt (dx_le (DE.r (de_len (fun _ => rfl) (fun _ => B.len) (db_cons (dr_pv (fun _ => pv 9)) db_nil))) (DE.r de_int))) (dw_and1 (DX.dt (dx_ne (DE.r (de_repr (fun _ => rfl) (fun _ => hr) (fun _ => hgd) (fun _ => B.repr) (db_cons (DE.r (de_call F_has_word (fun _ => ⟨rfl, rfl, rfl, rfl, rfl⟩) (fun _ => takes_of rfl rfl rfl rfl) (fun _ => hr) (da_cons (de_pv (fun _ => pv 3)) (da_cons (de_pv (fun _ => pv 9)) da_nil)))) db_nil))) (DE.r (de_repr (fun _ => rfl) (fun _ => hr) (fun _ => hgd) (fun _ => B.repr) (db_cons (DE.r (de_call F__law_has (fun _ => ⟨rfl, rfl, rfl, rfl, rfl⟩) (fun _ => takes_of rfl rfl rfl rfl) (fun _ => hr) (da_cons (de_pv (fun _ => pv 3)) (da_cons (de_pv (fun _ => pv 9)) da_nil)))) db_nil)))))))) (dss_one (ds_ret de_bl)) dss_nil)))
    (dss_cons (ds_for (fun _ => passes_of rfl) (fun _ => rfl) (di_seq (fun _ => rfl) (DF.de (df_lst (da_cons de_int (da_cons de_int (da_cons de_int (da_cons (de_callPT (p := p) F__law_take (fun _ => ⟨rfl, rfl, rfl, rfl, rfl⟩) hpn (fun _ => takes_of rfl rfl rfl rfl) (fun _ => hr) (da_cons (de_pv (fun _ => pv 1)) (da_cons de_int da_nil))) da_nil))))))) (dg_pg (fun _ => pg_name (i := 10) sc_law.nd rfl (.inl rfl))) (dss_cons (ds_set (i := 11) (de_call F__law_firsts (fun _ => ⟨rfl, rfl, rfl, rfl, rfl⟩) (fun _ => takes_of rfl rfl rfl rfl) (fun _ => hr) (da_cons (de_pv (fun _ => pv 3)) (da_cons (de_pv (fun _ => pv 10)) da_nil))) (fun _ => sc_law.nd))
    (dss_one (ds_for (fun _ => passes_of rfl) (fun _ => rfl) (di_range1 (fun _ => B.range) (db_cons (DE.r de_int) db_nil)) (dg_pg (fun _ => pg_name (i := 8) sc_law.nd rfl (.inl rfl))) (dss_cons (ds_setO (i := 12) (df_callN F_first_words (fun _ => ⟨rfl, rfl, rfl, rfl, rfl⟩) (fun _ => takes_of rfl rfl rfl rfl) (fun _ => hr) (da_cons (de_pv (fun _ => pv 3)) (da_cons (de_pv (fun _ => pv 10)) da_nil))) (fun _ => sc_law.nd))
    (dss_cons (ds_if (DX.dt (dx_ne (DE.r (de_repr (fun _ => rfl) (fun _ => hr) (fun _ => hgd) (fun _ => B.repr) (db_cons (dr_pv (fun _ => pv 12)) db_nil))) (DE.r (de_repr (fun _ => rfl) (fun _ => hr) (fun _ => hgd) (fun _ => B.repr) (db_cons (dr_pv (fun _ => pv 11)) db_nil))))) (dss_one (ds_ret de_bl)) dss_nil)
    (dss_one (ds_append (i := 12) (fun _ => rfl) (fun _ => pv 12) de_non))))))))
    (dss_cons (ds_set (i := 13) (de_ix (fun _ => rfl) (DE.r (DF.de (df_lcIf (own := [("sign", 18)]) (fun _ => rfl) (fun _ => sc_law.nd) (di_seq (fun _ => rfl) de_str) (dg_pg (fun _ => pg_name (i := 18) sc_law.nd rfl (by first | exact Or.inl rfl | exact Or.inr rfl))) (DX.dt (dx_notIn (fun _ => rfl) (dr_pv (fun _ => pv 18)) (dr_pv (fun _ => pv 5)))) (de_pv (fun _ => pv 18)) (fun _ => blkOk_by (N := N_law) (sc := defScope (topS 42)) (by decide +kernel))))) (DE.r de_int)) (fun _ => sc_law.nd))
    (dss_cons (ds_set (i := 14) (DF.de (df_lst (da_cons de_non (da_cons de_int (da_cons (de_mulA (DE.r (de_ix (fun _ => rfl) (dr_pv (fun _ => pv 5)) (DE.r de_int))) (DE.r de_int)) (da_cons (de_pv (fun _ => pv 13)) (da_cons (de_addA (DE.r (de_ix (fun _ => rfl) (dr_pv (fun _ => pv 5)) (DE.r de_int))) (dr_pv (fun _ => pv 13))) (da_cons (DF.de (df_lst da_nil)) (da_cons (de_tup (da_cons (de_ix (fun _ => rfl) (dr_pv (fun _ => pv 5)) (DE.r de_int)) da_nil)) (da_cons de_str (da_cons de_str (da_cons de_dict0 da_nil)))))))))))) (fun _ => sc_law.nd))
    (dss_cons (ds_for (fun _ => passes_of rfl) (fun _ => rfl) (di_seq (fun _ => rfl) (de_addA (dr_pv (fun _ => pv 14)) (DE.r (DF.de (df_lst (da_cons (de_upper (fun _ => rfl) (DE.r (de_ix (fun _ => rfl) (dr_pv (fun _ => pv 5)) (DE.r de_int)))) da_nil)))))) (dg_pg (fun _ => pg_name (i := 15) sc_law.nd rfl (.inr rfl))) (dss_one (ds_if (DX.dt (dx_ne (DE.r (de_lam (k := 9) (fun _ t hb => by refine word_call (P := P) (w := w) X_NoWord X_NoCount X_TearError ?_ F__law_word g__law_word b__law_word TB ?_ ?_ hr ?_ ?_ ?_ hb <;> first | exact ⟨rfl, rfl, rfl, rfl, rfl⟩ | rfl | exact lamS_by (sc := defScope (topS 42)) (by decide +kernel) | (intro _ _ _ _ _; rfl)) hlam (fun E =>
      (de_call F_has_word (fun _ => ⟨rfl, rfl, rfl, rfl, rfl⟩) (fun _ => takes_of rfl rfl rfl rfl) (fun l => l.room) (da_cons (de_pv (fun _ => pv 3)) (da_cons (de_pv (fun _ => pv 15)) da_nil)))))) (DE.r de_str))) (dss_one (ds_ret de_bl)) dss_nil)))
    (dss_cons (ds_for (fun _ => passes_of rfl) (fun _ => rfl) (di_seq (fun _ => rfl) (DF.de (df_lst (da_cons de_non (da_cons (de_neg de_int) (da_cons de_int (da_cons de_bl (da_cons de_bl (da_cons de_str (da_cons (de_tup (da_cons de_int da_nil)) da_nil)))))))))) (dg_pg (fun _ => pg_name (i := 15) sc_law.nd rfl (.inr rfl))) (dss_one (ds_if (DX.dt (dx_ne (DE.r (de_lam (k := 9) (fun _ t hb => by refine word_call (P := P) (w := w) X_NoWord X_NoCount X_TearError ?_ F__law_word g__law_word b__law_word TB ?_ ?_ hr ?_ ?_ ?_ hb <;> first | exact ⟨rfl, rfl, rfl, rfl, rfl⟩ | rfl | exact lamS_by (sc := defScope (topS 42)) (by decide +kernel) | (intro _ _ _ _ _; rfl)) hlam (fun E =>
      (DF.de (df_callN F_first_words (fun _ => ⟨rfl, rfl, rfl, rfl, rfl⟩) (fun _ => takes_of rfl rfl rfl rfl) (fun l => l.room) (da_cons (de_pv (fun _ => pv 3)) (da_cons (de_pv (fun _ => pv 15)) da_nil))))))) (DE.r de_str))) (dss_one (ds_ret de_bl)) dss_nil)))
    (dss_one (ds_if (DX.dt (dx_ne (DE.r (de_repr (fun _ => rfl) (fun _ => hr) (fun _ => hgd) (fun _ => B.repr) (db_cons (dr_pv (fun _ => pv 3)) db_nil))) (dr_pv (fun _ => pv 4)))) (dss_one (ds_ret de_bl)) dss_nil))))))))))))))))
    (dss_cons (ds_setLc (i := 16) (own := [("state", 19), ("at", 20)]) (fun _ => rfl) (fun _ => sc_law.nd) (di_enT (fun _ => rfl) (fun _ => B.enumerate) (da_cons (DF.de (df_lst (da_cons de_int (da_cons de_int (da_cons de_int (da_cons de_int (da_cons de_int da_nil))))))) da_nil)) (dg_tup (n := 2) (fun _ => rfl) (fun _ => rfl) (dgs_cons (dg_pg (fun _ => pg_name (i := 19) sc_law.nd rfl (by first | exact Or.inl rfl | exact Or.inr rfl))) (dgs_cons (dg_pg (fun _ => pg_name (i := 20) sc_law.nd rfl (by first | exact Or.inl rfl | exact Or.inr rfl))) dgs_nil))) (de_tupleOf (fun _ => rfl) (fun _ => B.tuple) (db_cons (DE.r (DF.de (df_lc (own := [("c", 21)]) (fun _ => rfl) (fun _ => sc_law.nd) (di_range1 (fun _ => B.range) (db_cons (DE.r de_int) db_nil)) (dg_pg (fun _ => pg_name (i := 21) sc_law.nd rfl (by first | exact Or.inl rfl | exact Or.inr rfl))) (de_if (DX.dt (dx_eq (dr_pv (fun _ => pv 21)) (dr_pv (fun _ => pv 20)))) (de_addA (dr_pv (fun _ => pv 19)) (DE.r de_int)) de_non) (fun _ => blkOk_by (by kernel_rfl))))) db_nil)) (fun _ => blkOk_by (N := N_law) (sc := defScope (topS 42)) (by decide +kernel)))
    (dss_one (ds_ret (DX.de (dx_eqD (fun _ => rfl) (fun _ => hr) (DE.r (DF.de (df_callN F_first_words (fun _ => ⟨rfl, rfl, rfl, rfl, rfl⟩) (fun _ => takes_of rfl rfl rfl rfl) (fun _ => hr) (da_cons (de_tup (da_cons de_str (da_cons (de_tupleOf (fun _ => rfl) (fun _ => B.tuple) (db_cons (DE.r (de_addA (dr_pv (fun _ => pv 16)) (DE.r (DF.de (df_lst (da_cons (de_tup (da_cons de_non (da_cons de_non (da_cons de_non da_nil)))) da_nil)))))) db_nil)) (da_cons (de_tup (da_cons de_int da_nil)) da_nil)))) (da_cons de_int da_nil))))) (DE.r (DF.de (df_lst (da_cons de_str da_nil))))))))))
    exact t
  refine ⟨_, pss_cons (ps_set (i := 1) nd rfl (.inr rfl) (pe_callS F__law_open (hr.mono (by decide)) (by rfl) go ko bo (fun σ => passAt (takes_of rfl rfl rfl rfl) σ) (pa_cons (pv 0) pa_nil))) (pss_ex fun p => (der p).choose_spec.1 ()), ?_⟩
  refine ⟨.ref a, rfl, a, ns, rfl, hS, fun H' p c ex np nc pok => ⟨p, ?_⟩⟩
  refine rest_pen (N := N_law) (E := fun _ _ _ => False) (Q := fun v _ => v = .bl true) (der p) (by decide) (by decide +kernel) pok (ex _ _ hT) ?_ fun _ => rfl
  clear der
  unfold N_law
  conv => whnf
  refine ⟨by omega, by omega, .inr (by show 2 ≤ 256; decide), ?_⟩
  refine forW_ind (fun r G => ∃ x2 x3 x4 x5 x6 x7 x8 x9 x10 x11 x12 x13 x14 x15 x16 : Slot, G = aL p x2 x3 x4 x5 x6 x7 x8 x9 x10 x11 x12 x13 x14 x15 x16) ?_ ?_ _ _ ⟨_, _, _, _, _, _, _, _, _, _, _, _, _, _, _, rfl⟩
  · rintro d r G ⟨x2, x3, x4, x5, x6, x7, x8, x9, x10, x11, x12, x13, x14, x15, x16, rfl⟩ next
    conv => whnf
    refine ⟨rfl, 6, rfl, by decide, by decide, fun M0 ok0 _ => ?_⟩
    refine pick_machine (p := p) (x2 := .dat d) (x4 := x4) (x5 := x5) (x6 := x6) (x7 := x7) (x8 := x8) (x9 := x9) (x10 := x10) (x11 := x11) (x12 := x12) (x13 := x13) (x14 := x14) (x15 := x15) (x16 := x16) ok0 fun M ok => ?_
    conv => whnf
    rw [M.sPy]
    refine ⟨ok.gd.sh, ok.gd.nd, Nat.le_trans ok.gd.dp (by decide), PyData.shown_fits (B := 13) (by decide) (by decide) ok.gd.lv (Nat.le_trans ok.gd.wt (by decide)), ?_⟩
    conv => whnf
    refine ⟨by rw [sizeLine_eq]; show 2 ≤ 16777216; decide, rfl, rfl, ?_⟩
    conv => whnf
    refine ⟨rfl, M, 200, ok, by decide, rfl, fun wd hwd hln => ?_⟩
    conv => whnf
    refine ⟨by show wd.length ≤ sizeLine; rw [sizeLine_eq]; omega, ?_⟩
    obtain ⟨c0, r0, hc0⟩ : ∃ c0 r0, M.ls = c0 :: r0 := by
      cases q : M.ls with
      | nil => exact absurd q ok.l0
      | cons c r => exact ⟨c, r, rfl⟩
    have l3 := ok.l3
    have lsz : (txt M.ls).length ≤ sizeLine := by show M.ls.length ≤ sizeLine; rw [sizeLine_eq]; omega
    have at0 : atI (txt M.ls).cps.toList 0 = some c0 := by show atI M.ls ((0 : Nat) : Int) = some c0; exact atI_nat (by rw [hc0]; rfl)
    have in0 : c0 ∈ M.ls := by rw [hc0]; exact List.mem_cons_self
    conv => whnf
    refine ⟨lsz, onO_i at0 ?_⟩
    conv => whnf
    refine ⟨by show wd.length + 1 ≤ sizeLine; rw [sizeLine_eq]; omega, ?_⟩
    conv => whnf
    refine ⟨rfl, M, 7, ok, by decide, rfl, fun we hwe hle => ?_⟩
    conv => whnf
    refine ⟨by rw [sizeLine_eq]; show 5 ≤ 16777216; decide, ?_⟩
    conv => whnf
    refine ⟨by omega, by omega, .inr (by show 4 ≤ 256; decide), ?_⟩
    refine forW_ind (fun r G => ∃ (ws : List D) (y8 : Slot), (∀ x ∈ ws, WdIn M x) ∧ ws.length + r.length ≤ 100 ∧ G = aL p (.dat d) (.dat M.d) (.dat (.str M.sD.shown)) (.dat (.str (txt M.ls))) (.dat (.str (txt wd))) (.own (.lst ws)) y8 x9 x10 x11 x12 x13 x14 x15 x16) ?_ ?_ _ _ ⟨_, _, ?_, ?_, rfl⟩
    · rintro d2 r2 G ⟨ws, y8, hws, hl, rfl⟩ next2
      conv => whnf
      refine ⟨by rw [sizeLine_eq]; omega, rfl, rfl, 9, rfl, by decide, by decide, fun n n0 n9 => ?_⟩
      conv => whnf
      have ln : (rngD 0 n.toNat).length = n.toNat := rngD_len ..
      refine ⟨by omega, by omega, by rw [ln]; exact small_lt (by omega), .inr (by rw [ln]; omega), ?_⟩
      refine compW_any (Pr := fun y => ∃ c ∈ M.ls, y = .str ⟨#[c]⟩) (fun d3 hd R hR => ?_) (fun _ z => nomatch z) fun out hlen hout => ?_
      · refine ⟨rfl, _, _, rfl, rfl, ?_, ?_, fun x hx => ?_⟩
        · rw [chars_txt, hc0]; exact fun z => nomatch z
        · rw [chars_txt, List.length_map]; omega
        · rw [chars_txt] at hx
          obtain ⟨c, hc, rfl⟩ := List.mem_map.mp hx
          exact hR _ ⟨c, hc, rfl⟩
      · rw [ln] at hlen
        obtain ⟨cs, rfl, hcs⟩ := signs_of hout
        rw [List.length_nil, List.length_map] at hlen
        refine ⟨"", cs.map fun c => ⟨#[c]⟩, rfl, by rw [List.map_map]; rfl, ?_, ?_⟩
        · rw [List.map_map, List.length_map]
          have : ∀ l : List Nat, (l.map ((fun x : Str => x.length) ∘ fun c => (⟨#[c]⟩ : Str))).sum = l.length := fun l => by
            induction l with
            | nil => rfl
            | cons c l ih => rw [List.map_cons, List.sum_cons, ih, List.length_cons]; show 1 + _ = _; omega
          rw [this]
          show cs.length + cs.length * 0 ≤ 16777216
          omega
        · refine next2 _ ⟨ws ++ [.str (Txt.join "" (cs.map fun c => ⟨#[c]⟩))], .dat d2, fun x hx => ?_, by rw [List.length_append, List.length_cons, List.length_nil]; rw [List.length_cons] at hl; omega, rfl⟩
          rcases List.mem_append.mp hx with hx | hx
          · exact hws x hx
          · rw [List.mem_singleton.mp hx, join_signs]
            exact ⟨cs, rfl, hcs, by omega⟩
    · rintro G ⟨ws, y8, hws, hl, rfl⟩
      conv => whnf
      refine ⟨.inl rfl, ?_⟩
      refine forW_ind (fun r G => ∃ (y9 : Slot), (∀ x ∈ r, WdIn M x) ∧ G = aL p (.dat d) (.dat M.d) (.dat (.str M.sD.shown)) (.dat (.str (txt M.ls))) (.dat (.str (txt wd))) (.dat (.lst ws)) y8 y9 x10 x11 x12 x13 x14 x15 x16) ?_ ?_ _ _ ⟨_, hws, rfl⟩
      · rintro d2 r2 G ⟨y9, hr, rfl⟩ next2
        obtain ⟨wx, rfl, hwx, hlx⟩ := hr d2 List.mem_cons_self
        have go := fun y => next2 _ ⟨y, fun x hx => hr x (List.mem_cons_of_mem _ hx), rfl⟩
        conv => whnf
        refine ⟨by show wx.length ≤ sizeLine; rw [sizeLine_eq]; omega, ?_⟩
        by_cases h2 : ((txt wx).length : Int) ≤ 200
        · refine fork_t (decide_eq_true h2) ?_
          conv => whnf
          have hb : isText (.str (txt wx)) (txt M.ls) 200 = true := by
            show (!decide ((200 : Int) < ((txt wx).length : Int)) && wx.all fun c => decide (c ∈ M.ls)) = true
            rw [decide_eq_false (by omega), Bool.not_false, Bool.true_and, List.all_eq_true]
            exact fun c hc => decide_eq_true (hwx c hc)
          refine ⟨M, _, ok, rfl, .str _ (by show wx.length ≤ 100000; omega), ?_⟩
          rw [if_pos hb]
          intro w' ew hw'
          obtain rfl : wx = w' := by
            have := congrArg (fun z : Str => z.cps.toList) (D.str.inj ew)
            exact this
          have gb := Gd.bl (M.has wx)
          have sb := PyData.shown_fits (B := 13) (by decide) (by decide) gb.lv (Nat.le_trans gb.wt (by decide))
          conv => whnf
          refine ⟨gb.sh, gb.nd, Nat.le_trans gb.dp (by decide), sb, ?_⟩
          conv => whnf
          refine ⟨M, wx, ok, rfl, hwx, ?_⟩
          conv => whnf
          refine ⟨gb.sh, gb.nd, Nat.le_trans gb.dp (by decide), sb, ?_⟩
          exact fork_f (by show (!decide _) = false; rw [decide_eq_true rfl]; rfl) (go _)
        · exact fork_f (decide_eq_false h2) (fork_f rfl (go _))
      · rintro G ⟨y9, hr, rfl⟩
        conv => whnf
        refine ⟨rfl, 41, rfl, by decide, by decide, fun n n0 n9 => ?_⟩
        conv => whnf
        refine ⟨by rw [sizeLine_eq]; show 4 ≤ 16777216; decide, ?_⟩
        conv => whnf
        refine ⟨.inr (by show 4 ≤ 256; decide), ?_⟩
        refine forW_ind (fun r G => ∃ (y8 y10 y11 y12 : Slot), (∀ x ∈ r, ∃ m : Nat, x = .int (m : Nat) ∧ m ≤ 40) ∧ G = aL p (.dat d) (.dat M.d) (.dat (.str M.sD.shown)) (.dat (.str (txt M.ls))) (.dat (.str (txt wd))) (.dat (.lst ws)) y8 y9 y10 y11 y12 x13 x14 x15 x16) ?_ ?_ _ _ ⟨_, _, _, _, ?_, rfl⟩
        · rintro d2 r2 G ⟨y8, y10, y11, y12, hr, rfl⟩ next2
          obtain ⟨m, rfl, hm⟩ := hr d2 List.mem_cons_self
          have gf := firsts_gd ok hm
          have sf := PyData.shown_fits (B := 13) (by decide) (by decide) gf.lv (Nat.le_trans gf.wt (by decide))
          conv => whnf
          refine ⟨M, m, ok, rfl, hm, ?_⟩
          conv => whnf
          refine ⟨by omega, by omega, .inl rfl, ?_⟩
          refine forW_ind (fun r G => ∃ (z8 z12 : Slot), G = aL p (.dat d) (.dat M.d) (.dat (.str M.sD.shown)) (.dat (.str (txt M.ls))) (.dat (.str (txt wd))) (.dat (.lst ws)) z8 y9 (.dat (.int (m : Nat))) (.dat (.lst (wordsD (M.firsts m)))) z12 x13 x14 x15 x16) ?_ ?_ _ _ ⟨_, _, rfl⟩
          · rintro d3 r3 G ⟨z8, z12, rfl⟩ next3
            conv => whnf
            refine ⟨M, _, ok, rfl, .int _, ?_⟩
            have hw : isWhole (.int (m : Nat)) 0 40 = true := by
              show (decide ((0 : Int) ≤ (m : Int)) && decide ((m : Int) ≤ 40)) = true
              rw [decide_eq_true (by omega), decide_eq_true (by omega)]
              rfl
            rw [if_pos hw]
            intro m' em hm'
            obtain rfl : m = m' := by
              have := D.int.inj em
              omega
            conv => whnf
            rw [firsts_py]
            refine ⟨gf.sh, gf.nd, Nat.le_trans gf.dp (by decide), sf, ?_⟩
            conv => whnf
            rw [firsts_py]
            refine ⟨gf.sh, gf.nd, Nat.le_trans gf.dp (by decide), sf, ?_⟩
            refine fork_f (by show (!decide _) = false; rw [decide_eq_true rfl]; rfl) ?_
            have fl := firsts_len M m
            conv => whnf
            exact ⟨by rw [wordsD, List.length_map, sizeLine_eq]; omega, next3 _ ⟨_, _, rfl⟩⟩
          · rintro G ⟨z8, z12, rfl⟩
            exact next2 _ ⟨z8, _, _, z12, fun x hx => hr x (List.mem_cons_of_mem _ hx), rfl⟩
        · rintro G ⟨y8, y10, y11, y12, hr, rfl⟩
          conv => whnf
          refine ⟨by rw [sizeLine_eq]; show 7 < 16777216; decide, .inl rfl, ?_⟩
          refine compW_filter (f := id) (t := notIn M.ls) (fun d3 hd R Z hR hZ => ?_) ?_
          · obtain ⟨c, hc, rfl⟩ := List.mem_map.mp hd
            exact fork_i (fun z => hR z) (fun z => hZ z)
          · obtain ⟨o, rest, eo, ho⟩ := other_of l3
            rw [eo]
            have o128 : (⟨#[o]⟩ : Str).length = 1 := rfl
            have ato : atI (D.str ⟨#[o]⟩ :: rest) 0 = some (D.str ⟨#[o]⟩) := by show atI (D.str ⟨#[o]⟩ :: rest) ((0 : Nat) : Int) = _; exact atI_nat rfl
            conv => whnf
            rw [ato]
            conv => whnf
            refine ⟨lsz, onO_i at0 ?_⟩
            conv => whnf
            refine ⟨by decide, by decide, by show 1 ≤ 1000; decide, ?_⟩
            conv => whnf
            refine ⟨lsz, onO_i at0 ?_⟩
            conv => whnf
            refine ⟨by rw [sizeLine_eq]; show 1 + 1 ≤ 16777216; decide, ?_⟩
            conv => whnf
            refine ⟨by rw [sizeLine_eq]; show 0 ≤ 16777216; decide, ?_⟩
            conv => whnf
            refine ⟨lsz, onO_i at0 ?_⟩
            conv => whnf
            refine ⟨by rw [sizeLine_eq]; show 1 ≤ 16777216; decide, ?_⟩
            conv => whnf
            refine ⟨by rw [sizeLine_eq]; show 10 ≤ 16777216; decide, ?_⟩
            conv => whnf
            refine ⟨lsz, onO_i at0 ?_⟩
            conv => whnf
            refine ⟨by show 1 ≤ 5592405; decide, ?_⟩
            conv => whnf
            refine ⟨by rw [sizeLine_eq]; show 1 ≤ 16777216; decide, ?_⟩
            conv => whnf
            refine ⟨by rw [sizeLine_eq]; show 10 + 1 ≤ 16777216; decide, ?_⟩
            conv => whnf
            refine ⟨.inl rfl, ?_⟩
            refine forW_ind (fun r G => ∃ (z14 z15 : Slot), (∀ x ∈ r, OddW M x) ∧ G = aL p (.dat d) (.dat M.d) (.dat (.str M.sD.shown)) (.dat (.str (txt M.ls))) (.dat (.str (txt wd))) (.dat (.lst ws)) y8 y9 y10 y11 y12 (.dat (.str ⟨#[o]⟩)) z14 z15 x16) ?_ ?_ _ _ ⟨_, _, ?_, rfl⟩
            · rintro d2 r2 G ⟨z14, z15, hr, rfl⟩ next2
              obtain ⟨h1, h2⟩ := hr d2 List.mem_cons_self
              have go := fun y => next2 _ ⟨z14, y, fun x hx => hr x (List.mem_cons_of_mem _ hx), rfl⟩
              conv => whnf
              refine ⟨M, d2, ok, rfl, h1, ?_⟩
              rw [if_neg (by rw [h2]; decide)]
              refine ⟨true, EWW, fun _ => ?_, fun z => nomatch z⟩
              exact fork_f (by show (!decide _) = false; rw [decide_eq_true rfl]; rfl) (go _)
            · rintro G ⟨z14, z15, hr, rfl⟩
              conv => whnf
              refine ⟨by rw [sizeLine_eq]; show 1 ≤ 16777216; decide, by rw [sizeLine_eq]; show 7 ≤ 16777216; decide, ?_⟩
              conv => whnf
              refine ⟨.inl rfl, ?_⟩
              refine forW_ind (fun r G => ∃ (z15 : Slot), (∀ x ∈ r, Pl x ∧ isWhole x 0 40 = false) ∧ G = aL p (.dat d) (.dat M.d) (.dat (.str M.sD.shown)) (.dat (.str (txt M.ls))) (.dat (.str (txt wd))) (.dat (.lst ws)) y8 y9 y10 y11 y12 (.dat (.str ⟨#[o]⟩)) z14 z15 x16) ?_ ?_ _ _ ⟨_, ?_, rfl⟩
              · rintro d2 r2 G ⟨z15, hr, rfl⟩ next2
                obtain ⟨h1, h2⟩ := hr d2 List.mem_cons_self
                have go := fun y => next2 _ ⟨y, fun x hx => hr x (List.mem_cons_of_mem _ hx), rfl⟩
                conv => whnf
                refine ⟨M, d2, ok, rfl, h1, ?_⟩
                rw [if_neg (by rw [h2]; decide)]
                refine ⟨false, ECW, fun z => (nomatch z), fun _ => ⟨true, ECC, fun _ => ?_, fun z => nomatch z⟩⟩
                exact fork_f (by show (!decide _) = false; rw [decide_eq_true rfl]; rfl) (go _)
              · rintro G ⟨z15, hr, rfl⟩
                conv => whnf
                rw [M.sPy]
                refine ⟨ok.gd.sh, ok.gd.nd, Nat.le_trans ok.gd.dp (by decide), PyData.shown_fits (B := 13) (by decide) (by decide) ok.gd.lv (Nat.le_trans ok.gd.wt (by decide)), ?_⟩
                refine fork_f (by show (!decide _) = false; rw [decide_eq_true rfl]; rfl) ?_
                exact next _ ⟨_, _, _, _, _, _, _, _, _, _, _, _, _, _, _, rfl⟩
              · intro x hx
                rcases List.mem_cons.mp hx with rfl | hx
                · exact ⟨.non, rfl⟩
                rcases List.mem_cons.mp hx with rfl | hx
                · exact ⟨.int _, rfl⟩
                rcases List.mem_cons.mp hx with rfl | hx
                · exact ⟨.int _, rfl⟩
                rcases List.mem_cons.mp hx with rfl | hx
                · exact ⟨.bl _, rfl⟩
                rcases List.mem_cons.mp hx with rfl | hx
                · exact ⟨.bl _, rfl⟩
                rcases List.mem_cons.mp hx with rfl | hx
                · exact ⟨.str _ (by decide), rfl⟩
                rw [List.mem_singleton.mp hx]
                exact ⟨.tup _ (by decide) fun y hy => by rw [List.mem_singleton.mp hy]; exact .int _, rfl⟩
            · intro x hx
              have al : ∀ c ∈ M.ls, 97 ≤ c ∧ c ≤ 122 := fun c hc => ok.alpha hc
              rcases List.mem_cons.mp hx with rfl | hx
              · exact ⟨.non, rfl⟩
              rcases List.mem_cons.mp hx with rfl | hx
              · exact ⟨.int _, rfl⟩
              rcases List.mem_cons.mp hx with rfl | hx
              · exact odd_long (by rw [mul_len]; decide) (by rw [mul_len]; decide)
              rcases List.mem_cons.mp hx with rfl | hx
              · exact odd_sign (c := o) ho List.mem_cons_self (by show 1 ≤ 100000; decide)
              rcases List.mem_cons.mp hx with rfl | hx
              · exact odd_sign (c := o) ho (by show o ∈ (#[c0] ++ #[o]).toList; simp) (by show 2 ≤ 100000; decide)
              rcases List.mem_cons.mp hx with rfl | hx
              · exact ⟨.lst _ (by decide) (fun y hy => nomatch hy), rfl⟩
              rcases List.mem_cons.mp hx with rfl | hx
              · exact ⟨.tup _ (by show 1 ≤ 100000; decide) (fun y hy => by rw [List.mem_singleton.mp hy]; exact .str _ (by show 1 ≤ 100000; decide)), rfl⟩
              rcases List.mem_cons.mp hx with rfl | hx
              · exact odd_sign (c := 63) (fun z => by have := al _ z; omega) (by decide +kernel) (by decide +kernel)
              rcases List.mem_cons.mp hx with rfl | hx
              · exact odd_sign (c := 32) (fun z => by have := al _ z; omega) (by decide +kernel) (by decide +kernel)
              rcases List.mem_cons.mp hx with rfl | hx
              · exact ⟨.dic _ _, rfl⟩
              rw [List.mem_singleton.mp hx]
              obtain ⟨a1, a2⟩ := al c0 in0
              have up := upper_one c0 (by omega)
              obtain ⟨u1, u2⟩ := up a1
              exact odd_sign (c := c0 - 32) (fun z => by have := al _ z; omega) u1 u2
        · intro x hx
          rcases List.mem_cons.mp hx with rfl | hx
          · exact ⟨0, rfl, by decide⟩
          rcases List.mem_cons.mp hx with rfl | hx
          · exact ⟨1, rfl, by decide⟩
          rcases List.mem_cons.mp hx with rfl | hx
          · exact ⟨40, rfl, by decide⟩
          rw [List.mem_singleton.mp hx]
          exact ⟨n.toNat, by rw [Int.toNat_of_nonneg n0], by omega⟩
    · intro x hx
      rcases List.mem_cons.mp hx with rfl | hx
      · exact ⟨[], rfl, (fun _ z => nomatch z), by decide⟩
      rcases List.mem_cons.mp hx with rfl | hx
      · exact ⟨wd, rfl, hwd, by omega⟩
      rcases List.mem_cons.mp hx with rfl | hx
      · refine ⟨(wd.drop (HT.sIx (txt wd).length 0 none)).take (HT.sIx (txt wd).length (txt wd).length (some 199) - HT.sIx (txt wd).length 0 none), rfl, fun c hc => hwd c (List.mem_of_mem_drop (List.mem_of_mem_take hc)), ?_⟩
        rw [List.length_take, List.length_drop]
        omega
      rcases List.mem_cons.mp hx with rfl | hx
      · refine ⟨wd ++ [c0], congrArg D.str (txt_app wd c0), fun c hc => ?_, by rw [List.length_append]; simp; omega⟩
        rcases List.mem_append.mp hc with hc | hc
        · exact hwd c hc
        · rw [List.mem_singleton.mp hc]; exact in0
      rw [List.mem_singleton.mp hx]
      exact ⟨we, rfl, hwe, by omega⟩
    · show 5 + 4 ≤ 100
      decide
  · rintro G ⟨x2, x3, x4, x5, x6, x7, x8, x9, x10, x11, x12, x13, x14, x15, x16, rfl⟩
    conv => whnf
    refine ⟨by rw [sizeLine_eq]; show 5 ≤ 16777216; decide, ?_⟩
    conv => whnf
    refine ⟨by rw [sizeLine_eq]; show 5 < 16777216; decide, .inl rfl, ?_⟩
    refine compW_map (f := rowOf) (fun d hd R hR => ?_) ?_
    · obtain ⟨q, at', rfl⟩ : ∃ (q at' : Int), d = .tup [.int q, .int at'] := by
        rcases List.mem_cons.mp hd with rfl | hd
        · exact ⟨_, _, rfl⟩
        rcases List.mem_cons.mp hd with rfl | hd
        · exact ⟨_, _, rfl⟩
        rcases List.mem_cons.mp hd with rfl | hd
        · exact ⟨_, _, rfl⟩
        rcases List.mem_cons.mp hd with rfl | hd
        · exact ⟨_, _, rfl⟩
        rw [List.mem_singleton.mp hd]
        exact ⟨_, _, rfl⟩
      refine ⟨rfl, rfl, ?_⟩
      conv => whnf
      refine ⟨by omega, by omega, by rw [rngD_len]; exact small_lt (by decide), .inl rfl, ?_⟩
      refine compW_map (f := cellOf q at') (fun d hd R hR => ?_) ?_
      · obtain ⟨i, hi, rfl⟩ := rngD_mem hd
        have hR : R (if (i : Int) = at' then .int (q + 1) else .non) := hR
        by_cases e : (i : Int) = at'
        · rw [if_pos e] at hR
          exact fork_t (decide_eq_true e) hR
        · rw [if_neg e] at hR
          exact fork_f (decide_eq_false e) hR
      · exact hR
    · rw [show [] ++ (enum [D.int 0, D.int 2, D.int 1, D.int 0, D.int 2]).map rowOf = cMr from rfl]
      conv => whnf
      refine ⟨by rw [sizeLine_eq]; show 3 ≤ 16777216; decide, ?_⟩
      conv => whnf
      refine ⟨by rw [sizeLine_eq]; show 1 ≤ 16777216; decide, ?_⟩
      conv => whnf
      refine ⟨by rw [sizeLine_eq]; show 5 + 1 ≤ 16777216; decide, ?_⟩
      conv => whnf
      refine ⟨by rw [sizeLine_eq]; show 1 ≤ 16777216; decide, ?_⟩
      conv => whnf
      refine ⟨by rw [sizeLine_eq]; show 3 ≤ 16777216; decide, ?_⟩
      conv => whnf
      refine ⟨cM, _, cM_ok, rfl, .int _, ?_⟩
      rw [if_pos (by decide)]
      intro many em hm
      obtain rfl : 3 = many := by
        have := D.int.inj em
        omega
      rw [cM_firsts]
      refine ⟨by rw [sizeLine_eq]; show 1 ≤ 16777216; decide, ?_⟩
      refine onO_i (a := .list [.str (txt [97, 99, 98, 97, 99])]) rfl (onO_i (a := .list [.str "acbac"]) rfl ⟨by decide +kernel, by decide +kernel, ?_⟩)
      show D.bl (id (PyData.eqv _ _)) = .bl true
      rw [show PyData.eqv (.list [.str (txt [97, 99, 98, 97, 99])]) (.list [.str "acbac"]) = true by decide +kernel]
      rfl
end
end T

namespace T
open PySem PySem.Spec PyProof.Rows L2 DL
open LamX (Tabs TabB LamS lamS_by GivesTo lamEnv lamCx)
theorem fin {l : PySem.W.OpenLaw} {w : World} {K : Fg} {h : Heap} {mg : Str → Option Value} {fa : Addr} (KX : K.In h) (G : h.Ns mainGlobals mg) (hfa : mg "law" = some (.ref fa))
    (z_isi : PySem.W.nsIn K mainGlobals "isinstance" = some none)
    (z_len : PySem.W.nsIn K mainGlobals "len" = some none)
    (z_bool : PySem.W.nsIn K mainGlobals "bool" = some none)
    (z_int : PySem.W.nsIn K mainGlobals "int" = some none)
    (z_str : PySem.W.nsIn K mainGlobals "str" = some none)
    (z_list : PySem.W.nsIn K mainGlobals "list" = some none)
    (z_tuple : PySem.W.nsIn K mainGlobals "tuple" = some none)
    (z_dict : PySem.W.nsIn K mainGlobals "dict" = some none)
    (z_all : PySem.W.nsIn K mainGlobals "all" = some none)
    (z_any : PySem.W.nsIn K mainGlobals "any" = some none)
    (z_range : PySem.W.nsIn K mainGlobals "range" = some none)
    (z_enumerate : PySem.W.nsIn K mainGlobals "enumerate" = some none)
    (z_zip : PySem.W.nsIn K mainGlobals "zip" = some none)
    (z_sorted : PySem.W.nsIn K mainGlobals "sorted" = some none)
    (z_set : PySem.W.nsIn K mainGlobals "set" = some none)
    (z_repr : PySem.W.nsIn K mainGlobals "repr" = some none)
    (z_min : PySem.W.nsIn K mainGlobals "min" = some none)
    (z_max : PySem.W.nsIn K mainGlobals "max" = some none)
    (z_sum : PySem.W.nsIn K mainGlobals "sum" = some none)
    (z_reversed : PySem.W.nsIn K mainGlobals "reversed" = some none)
    (z_type : PySem.W.nsIn K mainGlobals "type" = some none)
    (z_abs : PySem.W.nsIn K mainGlobals "abs" = some none)
    {tk_SMALL_LETTERS : Tok}
    (a_SMALL_LETTERS : PySem.W.nsIn K mainGlobals "SMALL_LETTERS" = some (some (.str "abcdefghijklmnopqrstuvwxyz" tk_SMALL_LETTERS)))
    {tk_MOST_SIGNS : Tok}
    (a_MOST_SIGNS : PySem.W.nsIn K mainGlobals "MOST_SIGNS" = some (some (.int 200 tk_MOST_SIGNS)))
    {tk_MOST_LETTERS : Tok}
    (a_MOST_LETTERS : PySem.W.nsIn K mainGlobals "MOST_LETTERS" = some (some (.int 3 tk_MOST_LETTERS)))
    {tk_MOST_STATES : Tok}
    (a_MOST_STATES : PySem.W.nsIn K mainGlobals "MOST_STATES" = some (some (.int 6 tk_MOST_STATES)))
    {tk_MOST_TOLD : Tok}
    (a_MOST_TOLD : PySem.W.nsIn K mainGlobals "MOST_TOLD" = some (some (.int 40 tk_MOST_TOLD)))
    {cNoMachine : Addr}
    (a_NoMachine : PySem.W.nsIn K mainGlobals "NoMachine" = some (some (.ref cNoMachine)))
    (q_NoMachine : PySem.W.excIn K cNoMachine veM "ValueError.__new__" = true)
    (k_NoMachine : PySem.W.keepIn K (.ref cNoMachine) = true)
    (b_NoMachine : PySem.W.subIn K (.ref cNoMachine) (.type "BaseException") = some true)
    (t_NoMachine : PySem.W.typeIn K (.ref cNoMachine) = some (.type "type"))
    {cNoWord : Addr}
    (a_NoWord : PySem.W.nsIn K mainGlobals "NoWord" = some (some (.ref cNoWord)))
    (q_NoWord : PySem.W.excIn K cNoWord veM "ValueError.__new__" = true)
    (k_NoWord : PySem.W.keepIn K (.ref cNoWord) = true)
    (b_NoWord : PySem.W.subIn K (.ref cNoWord) (.type "BaseException") = some true)
    (t_NoWord : PySem.W.typeIn K (.ref cNoWord) = some (.type "type"))
    {cNoCount : Addr}
    (a_NoCount : PySem.W.nsIn K mainGlobals "NoCount" = some (some (.ref cNoCount)))
    (q_NoCount : PySem.W.excIn K cNoCount veM "ValueError.__new__" = true)
    (k_NoCount : PySem.W.keepIn K (.ref cNoCount) = true)
    (b_NoCount : PySem.W.subIn K (.ref cNoCount) (.type "BaseException") = some true)
    (t_NoCount : PySem.W.typeIn K (.ref cNoCount) = some (.type "type"))
    {cTearError : Addr}
    (a_TearError : PySem.W.nsIn K mainGlobals "TearError" = some (some (.ref cTearError)))
    (q_TearError : PySem.W.excIn K cTearError veM "ValueError.__new__" = true)
    (k_TearError : PySem.W.keepIn K (.ref cTearError) = true)
    (b_TearError : PySem.W.subIn K (.ref cTearError) (.type "BaseException") = some true)
    (t_TearError : PySem.W.typeIn K (.ref cTearError) = some (.type "type"))
    {f_is_whole : Addr} {oc_is_whole kV_is_whole dc_is_whole pm_is_whole cd_is_whole ct_is_whole : Value} {od_is_whole an_is_whole : Option Addr} {sl_is_whole : Array (Option Value)}
    (a_is_whole : PySem.W.nsIn K mainGlobals "is_whole" = some (some (.ref f_is_whole)))
    (l_is_whole : K.lookup f_is_whole = some ⟨oc_is_whole, od_is_whole, .func (PySem.W.fnOf "is_whole" "is_whole" (defArgs (topS 8)) (defBody (topS 8)) (defScope (topS 8)) .none kV_is_whole dc_is_whole pm_is_whole an_is_whole cd_is_whole ct_is_whole), sl_is_whole⟩)
    (c_is_whole : PySem.W.codeIn K cd_is_whole "is_whole" = true)
    (k_is_whole : PySem.W.keepIn K (.ref f_is_whole) = true)
    {f_is_text : Addr} {oc_is_text kV_is_text dc_is_text pm_is_text cd_is_text ct_is_text : Value} {od_is_text an_is_text : Option Addr} {sl_is_text : Array (Option Value)}
    (a_is_text : PySem.W.nsIn K mainGlobals "is_text" = some (some (.ref f_is_text)))
    (l_is_text : K.lookup f_is_text = some ⟨oc_is_text, od_is_text, .func (PySem.W.fnOf "is_text" "is_text" (defArgs (topS 9)) (defBody (topS 9)) (defScope (topS 9)) .none kV_is_text dc_is_text pm_is_text an_is_text cd_is_text ct_is_text), sl_is_text⟩)
    (c_is_text : PySem.W.codeIn K cd_is_text "is_text" = true)
    (k_is_text : PySem.W.keepIn K (.ref f_is_text) = true)
    {f_is_ascending : Addr} {oc_is_ascending kV_is_ascending dc_is_ascending pm_is_ascending cd_is_ascending ct_is_ascending : Value} {od_is_ascending an_is_ascending : Option Addr} {sl_is_ascending : Array (Option Value)}
    (a_is_ascending : PySem.W.nsIn K mainGlobals "is_ascending" = some (some (.ref f_is_ascending)))
    (l_is_ascending : K.lookup f_is_ascending = some ⟨oc_is_ascending, od_is_ascending, .func (PySem.W.fnOf "is_ascending" "is_ascending" (defArgs (topS 10)) (defBody (topS 10)) (defScope (topS 10)) .none kV_is_ascending dc_is_ascending pm_is_ascending an_is_ascending cd_is_ascending ct_is_ascending), sl_is_ascending⟩)
    (c_is_ascending : PySem.W.codeIn K cd_is_ascending "is_ascending" = true)
    (k_is_ascending : PySem.W.keepIn K (.ref f_is_ascending) = true)
    {f_need_word : Addr} {oc_need_word kV_need_word dc_need_word pm_need_word cd_need_word ct_need_word : Value} {od_need_word an_need_word : Option Addr} {sl_need_word : Array (Option Value)}
    (a_need_word : PySem.W.nsIn K mainGlobals "need_word" = some (some (.ref f_need_word)))
    (l_need_word : K.lookup f_need_word = some ⟨oc_need_word, od_need_word, .func (PySem.W.fnOf "need_word" "need_word" (defArgs (topS 11)) (defBody (topS 11)) (defScope (topS 11)) .none kV_need_word dc_need_word pm_need_word an_need_word cd_need_word ct_need_word), sl_need_word⟩)
    (c_need_word : PySem.W.codeIn K cd_need_word "need_word" = true)
    (k_need_word : PySem.W.keepIn K (.ref f_need_word) = true)
    {f_need_count : Addr} {oc_need_count kV_need_count dc_need_count pm_need_count cd_need_count ct_need_count : Value} {od_need_count an_need_count : Option Addr} {sl_need_count : Array (Option Value)}
    (a_need_count : PySem.W.nsIn K mainGlobals "need_count" = some (some (.ref f_need_count)))
    (l_need_count : K.lookup f_need_count = some ⟨oc_need_count, od_need_count, .func (PySem.W.fnOf "need_count" "need_count" (defArgs (topS 12)) (defBody (topS 12)) (defScope (topS 12)) .none kV_need_count dc_need_count pm_need_count an_need_count cd_need_count ct_need_count), sl_need_count⟩)
    (c_need_count : PySem.W.codeIn K cd_need_count "need_count" = true)
    (k_need_count : PySem.W.keepIn K (.ref f_need_count) = true)
    {f__are_letters : Addr} {oc__are_letters kV__are_letters dc__are_letters pm__are_letters cd__are_letters ct__are_letters : Value} {od__are_letters an__are_letters : Option Addr} {sl__are_letters : Array (Option Value)}
    (a__are_letters : PySem.W.nsIn K mainGlobals "_are_letters" = some (some (.ref f__are_letters)))
    (l__are_letters : K.lookup f__are_letters = some ⟨oc__are_letters, od__are_letters, .func (PySem.W.fnOf "_are_letters" "_are_letters" (defArgs (topS 18)) (defBody (topS 18)) (defScope (topS 18)) .none kV__are_letters dc__are_letters pm__are_letters an__are_letters cd__are_letters ct__are_letters), sl__are_letters⟩)
    (c__are_letters : PySem.W.codeIn K cd__are_letters "_are_letters" = true)
    (k__are_letters : PySem.W.keepIn K (.ref f__are_letters) = true)
    {f__is_state : Addr} {oc__is_state kV__is_state dc__is_state pm__is_state cd__is_state ct__is_state : Value} {od__is_state an__is_state : Option Addr} {sl__is_state : Array (Option Value)}
    (a__is_state : PySem.W.nsIn K mainGlobals "_is_state" = some (some (.ref f__is_state)))
    (l__is_state : K.lookup f__is_state = some ⟨oc__is_state, od__is_state, .func (PySem.W.fnOf "_is_state" "_is_state" (defArgs (topS 20)) (defBody (topS 20)) (defScope (topS 20)) .none kV__is_state dc__is_state pm__is_state an__is_state cd__is_state ct__is_state), sl__is_state⟩)
    (c__is_state : PySem.W.codeIn K cd__is_state "_is_state" = true)
    (k__is_state : PySem.W.keepIn K (.ref f__is_state) = true)
    {f__are_states : Addr} {oc__are_states kV__are_states dc__are_states pm__are_states cd__are_states ct__are_states : Value} {od__are_states an__are_states : Option Addr} {sl__are_states : Array (Option Value)}
    (a__are_states : PySem.W.nsIn K mainGlobals "_are_states" = some (some (.ref f__are_states)))
    (l__are_states : K.lookup f__are_states = some ⟨oc__are_states, od__are_states, .func (PySem.W.fnOf "_are_states" "_are_states" (defArgs (topS 19)) (defBody (topS 19)) (defScope (topS 19)) .none kV__are_states dc__are_states pm__are_states an__are_states cd__are_states ct__are_states), sl__are_states⟩)
    (c__are_states : PySem.W.codeIn K cd__are_states "_are_states" = true)
    (k__are_states : PySem.W.keepIn K (.ref f__are_states) = true)
    {f__are_ends : Addr} {oc__are_ends kV__are_ends dc__are_ends pm__are_ends cd__are_ends ct__are_ends : Value} {od__are_ends an__are_ends : Option Addr} {sl__are_ends : Array (Option Value)}
    (a__are_ends : PySem.W.nsIn K mainGlobals "_are_ends" = some (some (.ref f__are_ends)))
    (l__are_ends : K.lookup f__are_ends = some ⟨oc__are_ends, od__are_ends, .func (PySem.W.fnOf "_are_ends" "_are_ends" (defArgs (topS 21)) (defBody (topS 21)) (defScope (topS 21)) .none kV__are_ends dc__are_ends pm__are_ends an__are_ends cd__are_ends ct__are_ends), sl__are_ends⟩)
    (c__are_ends : PySem.W.codeIn K cd__are_ends "_are_ends" = true)
    (k__are_ends : PySem.W.keepIn K (.ref f__are_ends) = true)
    {f_is_machine : Addr} {oc_is_machine kV_is_machine dc_is_machine pm_is_machine cd_is_machine ct_is_machine : Value} {od_is_machine an_is_machine : Option Addr} {sl_is_machine : Array (Option Value)}
    (a_is_machine : PySem.W.nsIn K mainGlobals "is_machine" = some (some (.ref f_is_machine)))
    (l_is_machine : K.lookup f_is_machine = some ⟨oc_is_machine, od_is_machine, .func (PySem.W.fnOf "is_machine" "is_machine" (defArgs (topS 17)) (defBody (topS 17)) (defScope (topS 17)) .none kV_is_machine dc_is_machine pm_is_machine an_is_machine cd_is_machine ct_is_machine), sl_is_machine⟩)
    (c_is_machine : PySem.W.codeIn K cd_is_machine "is_machine" = true)
    (k_is_machine : PySem.W.keepIn K (.ref f_is_machine) = true)
    {f_need_machine : Addr} {oc_need_machine kV_need_machine dc_need_machine pm_need_machine cd_need_machine ct_need_machine : Value} {od_need_machine an_need_machine : Option Addr} {sl_need_machine : Array (Option Value)}
    (a_need_machine : PySem.W.nsIn K mainGlobals "need_machine" = some (some (.ref f_need_machine)))
    (l_need_machine : K.lookup f_need_machine = some ⟨oc_need_machine, od_need_machine, .func (PySem.W.fnOf "need_machine" "need_machine" (defArgs (topS 22)) (defBody (topS 22)) (defScope (topS 22)) .none kV_need_machine dc_need_machine pm_need_machine an_need_machine cd_need_machine ct_need_machine), sl_need_machine⟩)
    (c_need_machine : PySem.W.codeIn K cd_need_machine "need_machine" = true)
    (k_need_machine : PySem.W.keepIn K (.ref f_need_machine) = true)
    {f_state_behind : Addr} {oc_state_behind kV_state_behind dc_state_behind pm_state_behind cd_state_behind ct_state_behind : Value} {od_state_behind an_state_behind : Option Addr} {sl_state_behind : Array (Option Value)}
    (a_state_behind : PySem.W.nsIn K mainGlobals "state_behind" = some (some (.ref f_state_behind)))
    (l_state_behind : K.lookup f_state_behind = some ⟨oc_state_behind, od_state_behind, .func (PySem.W.fnOf "state_behind" "state_behind" (defArgs (topS 24)) (defBody (topS 24)) (defScope (topS 24)) .none kV_state_behind dc_state_behind pm_state_behind an_state_behind cd_state_behind ct_state_behind), sl_state_behind⟩)
    (c_state_behind : PySem.W.codeIn K cd_state_behind "state_behind" = true)
    (k_state_behind : PySem.W.keepIn K (.ref f_state_behind) = true)
    {f_has_word : Addr} {oc_has_word kV_has_word dc_has_word pm_has_word cd_has_word ct_has_word : Value} {od_has_word an_has_word : Option Addr} {sl_has_word : Array (Option Value)}
    (a_has_word : PySem.W.nsIn K mainGlobals "has_word" = some (some (.ref f_has_word)))
    (l_has_word : K.lookup f_has_word = some ⟨oc_has_word, od_has_word, .func (PySem.W.fnOf "has_word" "has_word" (defArgs (topS 23)) (defBody (topS 23)) (defScope (topS 23)) .none kV_has_word dc_has_word pm_has_word an_has_word cd_has_word ct_has_word), sl_has_word⟩)
    (c_has_word : PySem.W.codeIn K cd_has_word "has_word" = true)
    (k_has_word : PySem.W.keepIn K (.ref f_has_word) = true)
    {f__leads_into : Addr} {oc__leads_into kV__leads_into dc__leads_into pm__leads_into cd__leads_into ct__leads_into : Value} {od__leads_into an__leads_into : Option Addr} {sl__leads_into : Array (Option Value)}
    (a__leads_into : PySem.W.nsIn K mainGlobals "_leads_into" = some (some (.ref f__leads_into)))
    (l__leads_into : K.lookup f__leads_into = some ⟨oc__leads_into, od__leads_into, .func (PySem.W.fnOf "_leads_into" "_leads_into" (defArgs (topS 27)) (defBody (topS 27)) (defScope (topS 27)) .none kV__leads_into dc__leads_into pm__leads_into an__leads_into cd__leads_into ct__leads_into), sl__leads_into⟩)
    (c__leads_into : PySem.W.codeIn K cd__leads_into "_leads_into" = true)
    (k__leads_into : PySem.W.keepIn K (.ref f__leads_into) = true)
    {f_live_states : Addr} {oc_live_states kV_live_states dc_live_states pm_live_states cd_live_states ct_live_states : Value} {od_live_states an_live_states : Option Addr} {sl_live_states : Array (Option Value)}
    (a_live_states : PySem.W.nsIn K mainGlobals "live_states" = some (some (.ref f_live_states)))
    (l_live_states : K.lookup f_live_states = some ⟨oc_live_states, od_live_states, .func (PySem.W.fnOf "live_states" "live_states" (defArgs (topS 26)) (defBody (topS 26)) (defScope (topS 26)) .none kV_live_states dc_live_states pm_live_states an_live_states cd_live_states ct_live_states), sl_live_states⟩)
    (c_live_states : PySem.W.codeIn K cd_live_states "live_states" = true)
    (k_live_states : PySem.W.keepIn K (.ref f_live_states) = true)
    {f__longer_by_one : Addr} {oc__longer_by_one kV__longer_by_one dc__longer_by_one pm__longer_by_one cd__longer_by_one ct__longer_by_one : Value} {od__longer_by_one an__longer_by_one : Option Addr} {sl__longer_by_one : Array (Option Value)}
    (a__longer_by_one : PySem.W.nsIn K mainGlobals "_longer_by_one" = some (some (.ref f__longer_by_one)))
    (l__longer_by_one : K.lookup f__longer_by_one = some ⟨oc__longer_by_one, od__longer_by_one, .func (PySem.W.fnOf "_longer_by_one" "_longer_by_one" (defArgs (topS 28)) (defBody (topS 28)) (defScope (topS 28)) .none kV__longer_by_one dc__longer_by_one pm__longer_by_one an__longer_by_one cd__longer_by_one ct__longer_by_one), sl__longer_by_one⟩)
    (c__longer_by_one : PySem.W.codeIn K cd__longer_by_one "_longer_by_one" = true)
    (k__longer_by_one : PySem.W.keepIn K (.ref f__longer_by_one) = true)
    {f_first_words : Addr} {oc_first_words kV_first_words dc_first_words pm_first_words cd_first_words ct_first_words : Value} {od_first_words an_first_words : Option Addr} {sl_first_words : Array (Option Value)}
    (a_first_words : PySem.W.nsIn K mainGlobals "first_words" = some (some (.ref f_first_words)))
    (l_first_words : K.lookup f_first_words = some ⟨oc_first_words, od_first_words, .func (PySem.W.fnOf "first_words" "first_words" (defArgs (topS 25)) (defBody (topS 25)) (defScope (topS 25)) .none kV_first_words dc_first_words pm_first_words an_first_words cd_first_words ct_first_words), sl_first_words⟩)
    (c_first_words : PySem.W.codeIn K cd_first_words "first_words" = true)
    (k_first_words : PySem.W.keepIn K (.ref f_first_words) = true)
    {f__law_spread : Addr} {oc__law_spread kV__law_spread dc__law_spread pm__law_spread cd__law_spread ct__law_spread : Value} {od__law_spread an__law_spread : Option Addr} {sl__law_spread : Array (Option Value)}
    (a__law_spread : PySem.W.nsIn K mainGlobals "_law_spread" = some (some (.ref f__law_spread)))
    (l__law_spread : K.lookup f__law_spread = some ⟨oc__law_spread, od__law_spread, .func (PySem.W.fnOf "_law_spread" "_law_spread" (defArgs (topS 31)) (defBody (topS 31)) (defScope (topS 31)) .none kV__law_spread dc__law_spread pm__law_spread an__law_spread cd__law_spread ct__law_spread), sl__law_spread⟩)
    (c__law_spread : PySem.W.codeIn K cd__law_spread "_law_spread" = true)
    (k__law_spread : PySem.W.keepIn K (.ref f__law_spread) = true)
    {f__law_take : Addr} {oc__law_take kV__law_take dc__law_take pm__law_take cd__law_take ct__law_take : Value} {od__law_take an__law_take : Option Addr} {sl__law_take : Array (Option Value)}
    (a__law_take : PySem.W.nsIn K mainGlobals "_law_take" = some (some (.ref f__law_take)))
    (l__law_take : K.lookup f__law_take = some ⟨oc__law_take, od__law_take, .func (PySem.W.fnOf "_law_take" "_law_take" (defArgs (topS 32)) (defBody (topS 32)) (defScope (topS 32)) .none kV__law_take dc__law_take pm__law_take an__law_take cd__law_take ct__law_take), sl__law_take⟩)
    (c__law_take : PySem.W.codeIn K cd__law_take "_law_take" = true)
    (k__law_take : PySem.W.keepIn K (.ref f__law_take) = true)
    {f__law_one_of : Addr} {oc__law_one_of kV__law_one_of dc__law_one_of pm__law_one_of cd__law_one_of ct__law_one_of : Value} {od__law_one_of an__law_one_of : Option Addr} {sl__law_one_of : Array (Option Value)}
    (a__law_one_of : PySem.W.nsIn K mainGlobals "_law_one_of" = some (some (.ref f__law_one_of)))
    (l__law_one_of : K.lookup f__law_one_of = some ⟨oc__law_one_of, od__law_one_of, .func (PySem.W.fnOf "_law_one_of" "_law_one_of" (defArgs (topS 33)) (defBody (topS 33)) (defScope (topS 33)) .none kV__law_one_of dc__law_one_of pm__law_one_of an__law_one_of cd__law_one_of ct__law_one_of), sl__law_one_of⟩)
    (c__law_one_of : PySem.W.codeIn K cd__law_one_of "_law_one_of" = true)
    (k__law_one_of : PySem.W.keepIn K (.ref f__law_one_of) = true)
    {f__law_run : Addr} {oc__law_run kV__law_run dc__law_run pm__law_run cd__law_run ct__law_run : Value} {od__law_run an__law_run : Option Addr} {sl__law_run : Array (Option Value)}
    (a__law_run : PySem.W.nsIn K mainGlobals "_law_run" = some (some (.ref f__law_run)))
    (l__law_run : K.lookup f__law_run = some ⟨oc__law_run, od__law_run, .func (PySem.W.fnOf "_law_run" "_law_run" (defArgs (topS 35)) (defBody (topS 35)) (defScope (topS 35)) .none kV__law_run dc__law_run pm__law_run an__law_run cd__law_run ct__law_run), sl__law_run⟩)
    (c__law_run : PySem.W.codeIn K cd__law_run "_law_run" = true)
    (k__law_run : PySem.W.keepIn K (.ref f__law_run) = true)
    {f__law_has : Addr} {oc__law_has kV__law_has dc__law_has pm__law_has cd__law_has ct__law_has : Value} {od__law_has an__law_has : Option Addr} {sl__law_has : Array (Option Value)}
    (a__law_has : PySem.W.nsIn K mainGlobals "_law_has" = some (some (.ref f__law_has)))
    (l__law_has : K.lookup f__law_has = some ⟨oc__law_has, od__law_has, .func (PySem.W.fnOf "_law_has" "_law_has" (defArgs (topS 36)) (defBody (topS 36)) (defScope (topS 36)) .none kV__law_has dc__law_has pm__law_has an__law_has cd__law_has ct__law_has), sl__law_has⟩)
    (c__law_has : PySem.W.codeIn K cd__law_has "_law_has" = true)
    (k__law_has : PySem.W.keepIn K (.ref f__law_has) = true)
    {f__law_any_path : Addr} {oc__law_any_path kV__law_any_path dc__law_any_path pm__law_any_path cd__law_any_path ct__law_any_path : Value} {od__law_any_path an__law_any_path : Option Addr} {sl__law_any_path : Array (Option Value)}
    (a__law_any_path : PySem.W.nsIn K mainGlobals "_law_any_path" = some (some (.ref f__law_any_path)))
    (l__law_any_path : K.lookup f__law_any_path = some ⟨oc__law_any_path, od__law_any_path, .func (PySem.W.fnOf "_law_any_path" "_law_any_path" (defArgs (topS 41)) (defBody (topS 41)) (defScope (topS 41)) .none kV__law_any_path dc__law_any_path pm__law_any_path an__law_any_path cd__law_any_path ct__law_any_path), sl__law_any_path⟩)
    (c__law_any_path : PySem.W.codeIn K cd__law_any_path "_law_any_path" = true)
    (k__law_any_path : PySem.W.keepIn K (.ref f__law_any_path) = true)
    {f__law_any_machine : Addr} {oc__law_any_machine kV__law_any_machine dc__law_any_machine pm__law_any_machine cd__law_any_machine ct__law_any_machine : Value} {od__law_any_machine an__law_any_machine : Option Addr} {sl__law_any_machine : Array (Option Value)}
    (a__law_any_machine : PySem.W.nsIn K mainGlobals "_law_any_machine" = some (some (.ref f__law_any_machine)))
    (l__law_any_machine : K.lookup f__law_any_machine = some ⟨oc__law_any_machine, od__law_any_machine, .func (PySem.W.fnOf "_law_any_machine" "_law_any_machine" (defArgs (topS 34)) (defBody (topS 34)) (defScope (topS 34)) .none kV__law_any_machine dc__law_any_machine pm__law_any_machine an__law_any_machine cd__law_any_machine ct__law_any_machine), sl__law_any_machine⟩)
    (c__law_any_machine : PySem.W.codeIn K cd__law_any_machine "_law_any_machine" = true)
    (k__law_any_machine : PySem.W.keepIn K (.ref f__law_any_machine) = true)
    {f__law_firsts : Addr} {oc__law_firsts kV__law_firsts dc__law_firsts pm__law_firsts cd__law_firsts ct__law_firsts : Value} {od__law_firsts an__law_firsts : Option Addr} {sl__law_firsts : Array (Option Value)}
    (a__law_firsts : PySem.W.nsIn K mainGlobals "_law_firsts" = some (some (.ref f__law_firsts)))
    (l__law_firsts : K.lookup f__law_firsts = some ⟨oc__law_firsts, od__law_firsts, .func (PySem.W.fnOf "_law_firsts" "_law_firsts" (defArgs (topS 40)) (defBody (topS 40)) (defScope (topS 40)) .none kV__law_firsts dc__law_firsts pm__law_firsts an__law_firsts cd__law_firsts ct__law_firsts), sl__law_firsts⟩)
    (c__law_firsts : PySem.W.codeIn K cd__law_firsts "_law_firsts" = true)
    (k__law_firsts : PySem.W.keepIn K (.ref f__law_firsts) = true)
    {f__law_open : Addr} {oc__law_open kV__law_open dc__law_open pm__law_open cd__law_open ct__law_open : Value} {od__law_open an__law_open : Option Addr} {sl__law_open : Array (Option Value)}
    (a__law_open : PySem.W.nsIn K mainGlobals "_law_open" = some (some (.ref f__law_open)))
    (l__law_open : K.lookup f__law_open = some ⟨oc__law_open, od__law_open, .func (PySem.W.fnOf "_law_open" "_law_open" (defArgs (topS 30)) (defBody (topS 30)) (defScope (topS 30)) .none kV__law_open dc__law_open pm__law_open an__law_open cd__law_open ct__law_open), sl__law_open⟩)
    (c__law_open : PySem.W.codeIn K cd__law_open "_law_open" = true)
    (k__law_open : PySem.W.keepIn K (.ref f__law_open) = true)
    {f__law_word : Addr} {oc__law_word kV__law_word dc__law_word pm__law_word cd__law_word ct__law_word : Value} {od__law_word an__law_word : Option Addr} {sl__law_word : Array (Option Value)}
    (a__law_word : PySem.W.nsIn K mainGlobals "_law_word" = some (some (.ref f__law_word)))
    (l__law_word : K.lookup f__law_word = some ⟨oc__law_word, od__law_word, .func (PySem.W.fnOf "_law_word" "_law_word" (defArgs (topS 39)) (defBody (topS 39)) (defScope (topS 39)) .none kV__law_word dc__law_word pm__law_word an__law_word cd__law_word ct__law_word), sl__law_word⟩)
    (c__law_word : PySem.W.codeIn K cd__law_word "_law_word" = true)
    (k__law_word : PySem.W.keepIn K (.ref f__law_word) = true)
    (x_WW : PySem.W.exmOne K (.ref cNoWord) (.ref cNoWord) = some true)
    (x_CW : PySem.W.exmOne K (.ref cNoCount) (.ref cNoWord) = some false)
    (x_CC : PySem.W.exmOne K (.ref cNoCount) (.ref cNoCount) = some true)
    {oc kV doc pm ct : Value} {od an : Option Addr} {osl : Array (Option Value)} {cL Pt : Addr}
    {fL : Addr}
    (a_law : PySem.W.nsIn K mainGlobals "law" = some (some (.ref fL)))
    (l_law : K.lookup fL = some ⟨oc, od, .func (PySem.W.fnOf "law" "law" (defArgs sLaw) (defBody sLaw) (defScope sLaw) .none kV doc pm an (.ref cL) ct), osl⟩)
    (c_law : PySem.W.codeIn K (.ref cL) "law" = true)
    (tab : h.get? Pt = some { cls := .none, data := .fields #[] })
    (nT : K.lookup Pt = none)
    (hd : PySem.W.codeHdIn K cL Pt = true) :
    DL.LawC l w K 63 mg fa h := by
  obtain rfl : fL = fa := by
    have e := hfa.symm.trans (PySem.W.mg_of KX G a_law)
    cases e
    rfl
  have B : Bl mg := ⟨PySem.W.mg_none_of KX G z_isi, PySem.W.mg_none_of KX G z_len, PySem.W.mg_none_of KX G z_bool, PySem.W.mg_none_of KX G z_int, PySem.W.mg_none_of KX G z_str, PySem.W.mg_none_of KX G z_list, PySem.W.mg_none_of KX G z_tuple, PySem.W.mg_none_of KX G z_dict, PySem.W.mg_none_of KX G z_all, PySem.W.mg_none_of KX G z_any, PySem.W.mg_none_of KX G z_range, PySem.W.mg_none_of KX G z_enumerate, PySem.W.mg_none_of KX G z_zip, PySem.W.mg_none_of KX G z_sorted, PySem.W.mg_none_of KX G z_set, PySem.W.mg_none_of KX G z_repr, PySem.W.mg_none_of KX G z_min, PySem.W.mg_none_of KX G z_max, PySem.W.mg_none_of KX G z_sum, PySem.W.mg_none_of KX G z_reversed, PySem.W.mg_none_of KX G z_type, PySem.W.mg_none_of KX G z_abs⟩
  have C_SMALL_LETTERS : GC mg "SMALL_LETTERS" gc_SMALL_LETTERS := ⟨_, .str "abcdefghijklmnopqrstuvwxyz", PySem.W.mg_of KX G a_SMALL_LETTERS, ⟨_, rfl⟩, .str _⟩
  have C_MOST_SIGNS : GC mg "MOST_SIGNS" gc_MOST_SIGNS := ⟨_, .int 200, PySem.W.mg_of KX G a_MOST_SIGNS, ⟨_, rfl⟩, .int _⟩
  have C_MOST_LETTERS : GC mg "MOST_LETTERS" gc_MOST_LETTERS := ⟨_, .int 3, PySem.W.mg_of KX G a_MOST_LETTERS, ⟨_, rfl⟩, .int _⟩
  have C_MOST_STATES : GC mg "MOST_STATES" gc_MOST_STATES := ⟨_, .int 6, PySem.W.mg_of KX G a_MOST_STATES, ⟨_, rfl⟩, .int _⟩
  have C_MOST_TOLD : GC mg "MOST_TOLD" gc_MOST_TOLD := ⟨_, .int 40, PySem.W.mg_of KX G a_MOST_TOLD, ⟨_, rfl⟩, .int _⟩
  have X_NoMachine : XFact K mg "NoMachine" cNoMachine := ⟨PySem.W.mg_of KX G a_NoMachine, q_NoMachine, k_NoMachine, b_NoMachine, t_NoMachine⟩
  have X_NoWord : XFact K mg "NoWord" cNoWord := ⟨PySem.W.mg_of KX G a_NoWord, q_NoWord, k_NoWord, b_NoWord, t_NoWord⟩
  have X_NoCount : XFact K mg "NoCount" cNoCount := ⟨PySem.W.mg_of KX G a_NoCount, q_NoCount, k_NoCount, b_NoCount, t_NoCount⟩
  have X_TearError : XFact K mg "TearError" cTearError := ⟨PySem.W.mg_of KX G a_TearError, q_TearError, k_TearError, b_TearError, t_TearError⟩
  have fn_is_whole := fun_mk (st := (topS 8)) l_is_whole c_is_whole k_is_whole
  have g_is_whole := PySem.W.mg_of KX G a_is_whole
  have b_is_whole := fn_is_whole.binds (ps := ["thing", "low", "high"]) fun _ _ _ _ _ _ us hl => match us, hl with | [_, _, _], _ => rfl
  have fn_is_text := fun_mk (st := (topS 9)) l_is_text c_is_text k_is_text
  have g_is_text := PySem.W.mg_of KX G a_is_text
  have b_is_text := fn_is_text.binds (ps := ["thing", "signs", "most"]) fun _ _ _ _ _ _ us hl => match us, hl with | [_, _, _], _ => rfl
  have fn_is_ascending := fun_mk (st := (topS 10)) l_is_ascending c_is_ascending k_is_ascending
  have g_is_ascending := PySem.W.mg_of KX G a_is_ascending
  have b_is_ascending := fn_is_ascending.binds (ps := ["parts"]) fun _ _ _ _ _ _ us hl => match us, hl with | [_], _ => rfl
  have fn_need_word := fun_mk (st := (topS 11)) l_need_word c_need_word k_need_word
  have g_need_word := PySem.W.mg_of KX G a_need_word
  have b_need_word := fn_need_word.binds (ps := ["word", "letters"]) fun _ _ _ _ _ _ us hl => match us, hl with | [_, _], _ => rfl
  have fn_need_count := fun_mk (st := (topS 12)) l_need_count c_need_count k_need_count
  have g_need_count := PySem.W.mg_of KX G a_need_count
  have b_need_count := fn_need_count.binds (ps := ["count", "low", "high"]) fun _ _ _ _ _ _ us hl => match us, hl with | [_, _, _], _ => rfl
  have fn__are_letters := fun_mk (st := (topS 18)) l__are_letters c__are_letters k__are_letters
  have g__are_letters := PySem.W.mg_of KX G a__are_letters
  have b__are_letters := fn__are_letters.binds (ps := ["thing"]) fun _ _ _ _ _ _ us hl => match us, hl with | [_], _ => rfl
  have fn__is_state := fun_mk (st := (topS 20)) l__is_state c__is_state k__is_state
  have g__is_state := PySem.W.mg_of KX G a__is_state
  have b__is_state := fn__is_state.binds (ps := ["thing", "width", "many"]) fun _ _ _ _ _ _ us hl => match us, hl with | [_, _, _], _ => rfl
  have fn__are_states := fun_mk (st := (topS 19)) l__are_states c__are_states k__are_states
  have g__are_states := PySem.W.mg_of KX G a__are_states
  have b__are_states := fn__are_states.binds (ps := ["thing", "width"]) fun _ _ _ _ _ _ us hl => match us, hl with | [_, _], _ => rfl
  have fn__are_ends := fun_mk (st := (topS 21)) l__are_ends c__are_ends k__are_ends
  have g__are_ends := PySem.W.mg_of KX G a__are_ends
  have b__are_ends := fn__are_ends.binds (ps := ["thing", "many"]) fun _ _ _ _ _ _ us hl => match us, hl with | [_, _], _ => rfl
  have fn_is_machine := fun_mk (st := (topS 17)) l_is_machine c_is_machine k_is_machine
  have g_is_machine := PySem.W.mg_of KX G a_is_machine
  have b_is_machine := fn_is_machine.binds (ps := ["thing"]) fun _ _ _ _ _ _ us hl => match us, hl with | [_], _ => rfl
  have fn_need_machine := fun_mk (st := (topS 22)) l_need_machine c_need_machine k_need_machine
  have g_need_machine := PySem.W.mg_of KX G a_need_machine
  have b_need_machine := fn_need_machine.binds (ps := ["machine"]) fun _ _ _ _ _ _ us hl => match us, hl with | [_], _ => rfl
  have fn_state_behind := fun_mk (st := (topS 24)) l_state_behind c_state_behind k_state_behind
  have g_state_behind := PySem.W.mg_of KX G a_state_behind
  have b_state_behind := fn_state_behind.binds (ps := ["machine", "state", "word"]) fun _ _ _ _ _ _ us hl => match us, hl with | [_, _, _], _ => rfl
  have fn_has_word := fun_mk (st := (topS 23)) l_has_word c_has_word k_has_word
  have g_has_word := PySem.W.mg_of KX G a_has_word
  have b_has_word := fn_has_word.binds (ps := ["machine", "word"]) fun _ _ _ _ _ _ us hl => match us, hl with | [_, _], _ => rfl
  have fn__leads_into := fun_mk (st := (topS 27)) l__leads_into c__leads_into k__leads_into
  have g__leads_into := PySem.W.mg_of KX G a__leads_into
  have b__leads_into := fn__leads_into.binds (ps := ["state", "live"]) fun _ _ _ _ _ _ us hl => match us, hl with | [_, _], _ => rfl
  have fn_live_states := fun_mk (st := (topS 26)) l_live_states c_live_states k_live_states
  have g_live_states := PySem.W.mg_of KX G a_live_states
  have b_live_states := fn_live_states.binds (ps := ["machine"]) fun _ _ _ _ _ _ us hl => match us, hl with | [_], _ => rfl
  have fn__longer_by_one := fun_mk (st := (topS 28)) l__longer_by_one c__longer_by_one k__longer_by_one
  have g__longer_by_one := PySem.W.mg_of KX G a__longer_by_one
  have b__longer_by_one := fn__longer_by_one.binds (ps := ["machine", "live", "begun"]) fun _ _ _ _ _ _ us hl => match us, hl with | [_, _, _], _ => rfl
  have fn_first_words := fun_mk (st := (topS 25)) l_first_words c_first_words k_first_words
  have g_first_words := PySem.W.mg_of KX G a_first_words
  have b_first_words := fn_first_words.binds (ps := ["machine", "many"]) fun _ _ _ _ _ _ us hl => match us, hl with | [_, _], _ => rfl
  have fn__law_spread := fun_mk (st := (topS 31)) l__law_spread c__law_spread k__law_spread
  have g__law_spread := PySem.W.mg_of KX G a__law_spread
  have b__law_spread := fn__law_spread.binds (ps := ["cell", "k"]) fun _ _ _ _ _ _ us hl => match us, hl with | [_, _], _ => rfl
  have fn__law_take := fun_mk (st := (topS 32)) l__law_take c__law_take k__law_take
  have g__law_take := PySem.W.mg_of KX G a__law_take
  have b__law_take := fn__law_take.binds (ps := ["pen", "many"]) fun _ _ _ _ _ _ us hl => match us, hl with | [_, _], _ => rfl
  have fn__law_one_of := fun_mk (st := (topS 33)) l__law_one_of c__law_one_of k__law_one_of
  have g__law_one_of := PySem.W.mg_of KX G a__law_one_of
  have b__law_one_of := fn__law_one_of.binds (ps := ["pen", "some"]) fun _ _ _ _ _ _ us hl => match us, hl with | [_, _], _ => rfl
  have fn__law_run := fun_mk (st := (topS 35)) l__law_run c__law_run k__law_run
  have g__law_run := PySem.W.mg_of KX G a__law_run
  have b__law_run := fn__law_run.binds (ps := ["machine", "state", "word"]) fun _ _ _ _ _ _ us hl => match us, hl with | [_, _, _], _ => rfl
  have fn__law_has := fun_mk (st := (topS 36)) l__law_has c__law_has k__law_has
  have g__law_has := PySem.W.mg_of KX G a__law_has
  have b__law_has := fn__law_has.binds (ps := ["machine", "word"]) fun _ _ _ _ _ _ us hl => match us, hl with | [_, _], _ => rfl
  have fn__law_any_path := fun_mk (st := (topS 41)) l__law_any_path c__law_any_path k__law_any_path
  have g__law_any_path := PySem.W.mg_of KX G a__law_any_path
  have b__law_any_path := fn__law_any_path.binds (ps := ["pen", "machine", "many"]) fun _ _ _ _ _ _ us hl => match us, hl with | [_, _, _], _ => rfl
  have fn__law_any_machine := fun_mk (st := (topS 34)) l__law_any_machine c__law_any_machine k__law_any_machine
  have g__law_any_machine := PySem.W.mg_of KX G a__law_any_machine
  have b__law_any_machine := fn__law_any_machine.binds (ps := ["pen", "many"]) fun _ _ _ _ _ _ us hl => match us, hl with | [_, _], _ => rfl
  have fn__law_firsts := fun_mk (st := (topS 40)) l__law_firsts c__law_firsts k__law_firsts
  have g__law_firsts := PySem.W.mg_of KX G a__law_firsts
  have b__law_firsts := fn__law_firsts.binds (ps := ["machine", "many"]) fun _ _ _ _ _ _ us hl => match us, hl with | [_, _], _ => rfl
  have fn__law_open := fun_mk (st := (topS 30)) l__law_open c__law_open k__law_open
  have g__law_open := PySem.W.mg_of KX G a__law_open
  have b__law_open := fn__law_open.binds (ps := ["script"]) fun _ _ _ _ _ _ us hl => match us, hl with | [_], _ => rfl
  have fn__law_word := fun_mk (st := (topS 39)) l__law_word c__law_word k__law_word
  have g__law_word := PySem.W.mg_of KX G a__law_word
  have b__law_word := fn__law_word.binds (ps := ["call"]) fun _ _ _ _ _ _ us hl => match us, hl with | [_], _ => rfl
  refine ⟨[(cL, Pt)], fun p hp => by rw [List.mem_singleton.mp hp]; exact tab, fun p hp => by rw [List.mem_singleton.mp hp]; exact nT, fun p hp => by rw [List.mem_singleton.mp hp]; exact PySem.W.codeHd_of_K KX hd, fun base s H a ns _ _ tb e0 hT hS _ => ?_⟩
  have TB := tb (cL, Pt) (List.mem_singleton.mpr rfl)
  have hT := hT (cL, Pt) (List.mem_singleton.mpr rfl)
  generalize l.prog = P at e0 ⊢
  have F_is_whole := ok_is_whole (P := P) (w := w) (base := base) B fn_is_whole g_is_whole b_is_whole
  have F_is_text := ok_is_text (P := P) (w := w) (base := base) B fn_is_text g_is_text b_is_text
  have F_is_ascending := ok_is_ascending (P := P) (w := w) (base := base) B fn_is_ascending g_is_ascending b_is_ascending
  have F_need_word := ok_need_word (P := P) (w := w) (base := base) B C_MOST_SIGNS X_NoWord F_is_text fn_need_word g_need_word b_need_word
  have F_need_count := ok_need_count (P := P) (w := w) (base := base) B X_NoCount F_is_whole fn_need_count g_need_count b_need_count
  have F__are_letters := ok__are_letters (P := P) (w := w) (base := base) B C_MOST_LETTERS C_SMALL_LETTERS F_is_ascending F_is_text fn__are_letters g__are_letters b__are_letters
  have F__is_state := ok__is_state (P := P) (w := w) (base := base) B F_is_whole fn__is_state g__is_state b__is_state
  have F__are_states := ok__are_states (P := P) (w := w) (base := base) B C_MOST_STATES F__is_state fn__are_states g__are_states b__are_states
  have F__are_ends := ok__are_ends (P := P) (w := w) (base := base) B F_is_ascending F_is_whole fn__are_ends g__are_ends b__are_ends
  have F_is_machine := ok_is_machine (P := P) (w := w) (base := base) B F__are_ends F__are_letters F__are_states fn_is_machine g_is_machine b_is_machine
  have F_need_machine := ok_need_machine (P := P) (w := w) (base := base) B X_NoMachine F_is_machine fn_need_machine g_need_machine b_need_machine
  have F_state_behind := ok_state_behind (P := P) (w := w) (base := base) B fn_state_behind g_state_behind b_state_behind
  have F_has_word := ok_has_word (P := P) (w := w) (base := base) B F_need_machine F_need_word F_state_behind fn_has_word g_has_word b_has_word
  have F__leads_into := ok__leads_into (P := P) (w := w) (base := base) B fn__leads_into g__leads_into b__leads_into
  have F_live_states := ok_live_states (P := P) (w := w) (base := base) B F__leads_into fn_live_states g_live_states b_live_states
  have F__longer_by_one := ok__longer_by_one (P := P) (w := w) (base := base) B fn__longer_by_one g__longer_by_one b__longer_by_one
  have F_first_words := ok_first_words (P := P) (w := w) (base := base) B C_MOST_TOLD F__longer_by_one F_live_states F_need_count F_need_machine fn_first_words g_first_words b_first_words
  have F__law_spread := ok__law_spread (P := P) (w := w) (base := base) B fn__law_spread g__law_spread b__law_spread
  have F__law_take := ok__law_take (P := P) (w := w) (base := base) B F__law_spread fn__law_take g__law_take b__law_take
  have F__law_one_of := ok__law_one_of (P := P) (w := w) (base := base) B F__law_take fn__law_one_of g__law_one_of b__law_one_of
  have F__law_run := ok__law_run (P := P) (w := w) (base := base) B fn__law_run g__law_run b__law_run
  have F__law_has := ok__law_has (P := P) (w := w) (base := base) B F__law_run fn__law_has g__law_has b__law_has
  have F__law_any_path := ok__law_any_path (P := P) (w := w) (base := base) B F__law_one_of F__law_run fn__law_any_path g__law_any_path b__law_any_path
  have F__law_any_machine := ok__law_any_machine (P := P) (w := w) (base := base) B F__law_one_of F__law_take fn__law_any_machine g__law_any_machine b__law_any_machine
  have F__law_firsts := ok__law_firsts (P := P) (w := w) (base := base) B F__law_run fn__law_firsts g__law_firsts b__law_firsts
  exact ok_law B X_NoCount X_NoWord X_TearError (ok__law_open B fn__law_open) g__law_open k__law_open b__law_open F__law_take F__law_one_of F__law_any_path F__law_any_machine F__law_has F__law_firsts F_has_word F_first_words fn__law_word g__law_word b__law_word x_WW x_CW x_CC l_law c_law TB ⟨rfl, by decide, by decide⟩ e0 hT hS (fun s u => .of_eq rfl)

end T

open PySem PySem.W PyProof.Rows in
set_option Elab.async false in
set_option maxRecDepth 100000 in
set_option maxHeartbeats 0 in
theorem PySem.Challenge.cw_tearwords_k32_words_of_machines_holds : PySem.Challenge.rw_tearwords_k32_words_of_machines.Holds := by
  w_on; o_law; k_head; (case hw => w_witness2)
  k_fill
  refine DL.walk_at (n := 63) rfl (by decide) rfl (fun w h Y => PySem.W.km_in_of Y) ?F
  case F =>
    intro w mg fa h Y KX G hmg
    refine' T.fin KX G hmg ?z_isi ?z_len ?z_bool ?z_int ?z_str ?z_list ?z_tuple ?z_dict ?z_all ?z_any ?z_range ?z_enumerate ?z_zip ?z_sorted ?z_set ?z_repr ?z_min ?z_max ?z_sum ?z_reversed ?z_type ?z_abs ?a_SMALL_LETTERS ?a_MOST_SIGNS ?a_MOST_LETTERS ?a_MOST_STATES ?a_MOST_TOLD ?a_NoMachine ?q_NoMachine ?k_NoMachine ?b_NoMachine ?t_NoMachine ?a_NoWord ?q_NoWord ?k_NoWord ?b_NoWord ?t_NoWord ?a_NoCount ?q_NoCount ?k_NoCount ?b_NoCount ?t_NoCount ?a_TearError ?q_TearError ?k_TearError ?b_TearError ?t_TearError ?a_is_whole ?l_is_whole ?c_is_whole ?k_is_whole ?a_is_text ?l_is_text ?c_is_text ?k_is_text ?a_is_ascending ?l_is_ascending ?c_is_ascending ?k_is_ascending ?a_need_word ?l_need_word ?c_need_word ?k_need_word ?a_need_count ?l_need_count ?c_need_count ?k_need_count ?a__are_letters ?l__are_letters ?c__are_letters ?k__are_letters ?a__is_state ?l__is_state ?c__is_state ?k__is_state ?a__are_states ?l__are_states ?c__are_states ?k__are_states ?a__are_ends ?l__are_ends ?c__are_ends ?k__are_ends ?a_is_machine ?l_is_machine ?c_is_machine ?k_is_machine ?a_need_machine ?l_need_machine ?c_need_machine ?k_need_machine ?a_state_behind ?l_state_behind ?c_state_behind ?k_state_behind ?a_has_word ?l_has_word ?c_has_word ?k_has_word ?a__leads_into ?l__leads_into ?c__leads_into ?k__leads_into ?a_live_states ?l_live_states ?c_live_states ?k_live_states ?a__longer_by_one ?l__longer_by_one ?c__longer_by_one ?k__longer_by_one ?a_first_words ?l_first_words ?c_first_words ?k_first_words ?a__law_spread ?l__law_spread ?c__law_spread ?k__law_spread ?a__law_take ?l__law_take ?c__law_take ?k__law_take ?a__law_one_of ?l__law_one_of ?c__law_one_of ?k__law_one_of ?a__law_run ?l__law_run ?c__law_run ?k__law_run ?a__law_has ?l__law_has ?c__law_has ?k__law_has ?a__law_any_path ?l__law_any_path ?c__law_any_path ?k__law_any_path ?a__law_any_machine ?l__law_any_machine ?c__law_any_machine ?k__law_any_machine ?a__law_firsts ?l__law_firsts ?c__law_firsts ?k__law_firsts ?a__law_open ?l__law_open ?c__law_open ?k__law_open ?a__law_word ?l__law_word ?c__law_word ?k__law_word ?x_WW ?x_CW ?x_CC ?a_law ?l_law ?c_law ?tab ?nT ?hd
    (case z_isi => k_is)
    (case z_len => k_is)
    (case z_bool => k_is)
    (case z_int => k_is)
    (case z_str => k_is)
    (case z_list => k_is)
    (case z_tuple => k_is)
    (case z_dict => k_is)
    (case z_all => k_is)
    (case z_any => k_is)
    (case z_range => k_is)
    (case z_enumerate => k_is)
    (case z_zip => k_is)
    (case z_sorted => k_is)
    (case z_set => k_is)
    (case z_repr => k_is)
    (case z_min => k_is)
    (case z_max => k_is)
    (case z_sum => k_is)
    (case z_reversed => k_is)
    (case z_type => k_is)
    (case z_abs => k_is)
    (case a_SMALL_LETTERS => k_is)
    (case a_MOST_SIGNS => k_is)
    (case a_MOST_LETTERS => k_is)
    (case a_MOST_STATES => k_is)
    (case a_MOST_TOLD => k_is)
    (case a_NoMachine => k_is)
    (case q_NoMachine => kernel_rfl)
    (case k_NoMachine => k_is)
    (case b_NoMachine => k_is)
    (case t_NoMachine => k_is)
    (case a_NoWord => k_is)
    (case q_NoWord => kernel_rfl)
    (case k_NoWord => k_is)
    (case b_NoWord => k_is)
    (case t_NoWord => k_is)
    (case a_NoCount => k_is)
    (case q_NoCount => kernel_rfl)
    (case k_NoCount => k_is)
    (case b_NoCount => k_is)
    (case t_NoCount => k_is)
    (case a_TearError => k_is)
    (case q_TearError => kernel_rfl)
    (case k_TearError => k_is)
    (case b_TearError => k_is)
    (case t_TearError => k_is)
    (case a_is_whole => k_is)
    (case l_is_whole => k_is)
    (case c_is_whole => k_is)
    (case k_is_whole => k_is)
    (case a_is_text => k_is)
    (case l_is_text => k_is)
    (case c_is_text => k_is)
    (case k_is_text => k_is)
    (case a_is_ascending => k_is)
    (case l_is_ascending => k_is)
    (case c_is_ascending => k_is)
    (case k_is_ascending => k_is)
    (case a_need_word => k_is)
    (case l_need_word => k_is)
    (case c_need_word => k_is)
    (case k_need_word => k_is)
    (case a_need_count => k_is)
    (case l_need_count => k_is)
    (case c_need_count => k_is)
    (case k_need_count => k_is)
    (case a__are_letters => k_is)
    (case l__are_letters => k_is)
    (case c__are_letters => k_is)
    (case k__are_letters => k_is)
    (case a__is_state => k_is)
    (case l__is_state => k_is)
    (case c__is_state => k_is)
    (case k__is_state => k_is)
    (case a__are_states => k_is)
    (case l__are_states => k_is)
    (case c__are_states => k_is)
    (case k__are_states => k_is)
    (case a__are_ends => k_is)
    (case l__are_ends => k_is)
    (case c__are_ends => k_is)
    (case k__are_ends => k_is)
    (case a_is_machine => k_is)
    (case l_is_machine => k_is)
    (case c_is_machine => k_is)
    (case k_is_machine => k_is)
    (case a_need_machine => k_is)
    (case l_need_machine => k_is)
    (case c_need_machine => k_is)
    (case k_need_machine => k_is)
    (case a_state_behind => k_is)
    (case l_state_behind => k_is)
    (case c_state_behind => k_is)
    (case k_state_behind => k_is)
    (case a_has_word => k_is)
    (case l_has_word => k_is)
    (case c_has_word => k_is)
    (case k_has_word => k_is)
    (case a__leads_into => k_is)
    (case l__leads_into => k_is)
    (case c__leads_into => k_is)
    (case k__leads_into => k_is)
    (case a_live_states => k_is)
    (case l_live_states => k_is)
    (case c_live_states => k_is)
    (case k_live_states => k_is)
    (case a__longer_by_one => k_is)
    (case l__longer_by_one => k_is)
    (case c__longer_by_one => k_is)
    (case k__longer_by_one => k_is)
    (case a_first_words => k_is)
    (case l_first_words => k_is)
    (case c_first_words => k_is)
    (case k_first_words => k_is)
    (case a__law_spread => k_is)
    (case l__law_spread => k_is)
    (case c__law_spread => k_is)
    (case k__law_spread => k_is)
    (case a__law_take => k_is)
    (case l__law_take => k_is)
    (case c__law_take => k_is)
    (case k__law_take => k_is)
    (case a__law_one_of => k_is)
    (case l__law_one_of => k_is)
    (case c__law_one_of => k_is)
    (case k__law_one_of => k_is)
    (case a__law_run => k_is)
    (case l__law_run => k_is)
    (case c__law_run => k_is)
    (case k__law_run => k_is)
    (case a__law_has => k_is)
    (case l__law_has => k_is)
    (case c__law_has => k_is)
    (case k__law_has => k_is)
    (case a__law_any_path => k_is)
    (case l__law_any_path => k_is)
    (case c__law_any_path => k_is)
    (case k__law_any_path => k_is)
    (case a__law_any_machine => k_is)
    (case l__law_any_machine => k_is)
    (case c__law_any_machine => k_is)
    (case k__law_any_machine => k_is)
    (case a__law_firsts => k_is)
    (case l__law_firsts => k_is)
    (case c__law_firsts => k_is)
    (case k__law_firsts => k_is)
    (case a__law_open => k_is)
    (case l__law_open => k_is)
    (case c__law_open => k_is)
    (case k__law_open => k_is)
    (case a__law_word => k_is)
    (case l__law_word => k_is)
    (case c__law_word => k_is)
    (case k__law_word => k_is)
    (case x_WW => kernel_rfl)
    (case x_CW => kernel_rfl)
    (case x_CC => kernel_rfl)
    (case a_law => k_is)
    (case l_law => k_is)
    (case c_law => k_is)
    (case tab => exact PySem.W.km_tabs_of Y _ (List.mem_singleton.mpr rfl))
    (case nT => kernel_rfl)
    (case hd => kernel_rfl)

