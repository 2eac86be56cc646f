import PyProof.Rows.All
import Wide.All
import OpenK.AllK
import Wide.FinOn
import HandS.ForMost
import HandS.Evl
import HandS.IsInst
import HandS.TupAny
import HandS.Deep
import HandS.Wide
import HandS.ForExc
import HandS.EndTab
import KE.KeyNested
import HandS.TupLen
import HandS.Style
import HandS.Conv
import HandS.StrMore
import HandS.Text
import HandS.Dict
import HandS.DictTup
import HandS.Call
import HandS.List
import KE.GoesNew
import KE.GoesEnum
import KE.GoesMore
import HandS.Zip
import HandS.Rev
import PyProof.ReprRoads
import PyProof.EnumMake
import HandS.WideBits
import PyProof.ListNew
import HandS.ExcInit
import HandS.FStr
import KE.KExcSuper
import KE.KExcLine
import HandS.Ends
import PyProof.ReprLen
import HandS.DictComp
import HandS.HotCalls
import HandS.ExcIs
import HandS.ExcField
import HandS.TryMany
import HandS.SetFor
import HandS.SortInts
import HandS.Strs
import HandS.SetKeys
import HandS.Sort
import PyProof.DictMoreH
import HandS.SuiteRaise
import HandS.SortRule
import HandS.ExcOwn
import KE.DataMinMax
import HandS.SortKw
import KE.DataMinKey
import HandS.FltList
import HandS.NestedK
import KE.SortKeyHeap
import HandS.RevRange
import KE.KDictZip
import HandS.Iter
import HandS.More
import PySem.Challenge.RW_wardens_k01_words_of_a_source
set_option Elab.async false
set_option linter.all false
set_option maxRecDepth 100000
set_option maxHeartbeats 4000000
set_option Elab.async false
set_option linter.all false
set_option maxRecDepth 100000
set_option maxHeartbeats 4000000
namespace Pf
open PySem L2
def tabT : List (Addr × Str) := []
abbrev NT (o : HO) : Prop := ∀ ps, o ≠ .tbl ps
theorem nt_not {o : HO} (n : ¬ NT o) : ∃ ps, some o = some (HO.tbl ps) := by
  cases o with
  | tbl ps => exact ⟨ps, rfl⟩
  | _ => exact absurd (by intro ps z; cases z) n
abbrev TB (H : Hp) : Prop := LamX.Tabs tabT H
theorem tb_nil {H : Hp} (h : tabT = [] := by rfl) : TB H := fun p hp => by rw [h] at hp; cases hp
structure Same (H H' : Hp) : Prop where
  st : ∀ b o, H b = some o → NT o → H' b = some o
  dom : ∀ b, H' b = none → H b = none
  tb : TB H → TB H'
theorem Same.fn {H H' : Hp} (e : Same H H') (b : Addr) (o : HO) (h : H b = some o) (n : NT o := by first | assumption | (intro ps z; cases z; done) | (intro ps z; unfold LamX.CodeO at z; cases z; done) | exact DicO.nt (by assumption) | exact DicO.nc (by assumption) | exact fun _ => dn_nc | (intro ps z; unfold DN at z; cases z; done) | fail) : H' b = some o := e.st b o h n
instance {H H' : Hp} : CoeFun (Same H H') fun _ => ∀ b o, H b = some o → (n : NT o := by first | assumption | (intro ps z; cases z; done) | (intro ps z; unfold LamX.CodeO at z; cases z; done) | exact DicO.nt (by assumption) | exact DicO.nc (by assumption) | exact fun _ => dn_nc | (intro ps z; unfold DN at z; cases z; done) | fail) → H' b = some o := ⟨fun e => @Same.fn _ _ e⟩
theorem Same.of {H H' : Hp} (e : ∀ b o, H b = some o → H' b = some o) : Same H H' := ⟨fun b o h _ => e b o h, fun b h => (by
  cases q : H b with
  | none => rfl
  | some o => rw [e b o q] at h; cases h), fun t => LamX.Tabs.ext t e⟩
theorem Same.refl (H : Hp) : Same H H := ⟨fun _ _ h _ => h, fun _ h => h, id⟩
theorem Same.trans {H H1 H2 : Hp} (a : Same H H1) (b : Same H1 H2) : Same H H2 := ⟨fun c o h n => b.st c o (a.st c o h n) n, fun c h => a.dom c (b.dom c h), fun t => b.tb (a.tb t)⟩
theorem Same.free {H H' : Hp} (e : Same H H') {l : Addr} (h : H' l = Option.none) : H l = Option.none := e.dom l h
theorem Same.seq {K : PySem.W.Frag} {H H' : Hp} {a : Addr} {xs : List V} (e : Same H H') (h : SqL K H a xs) : SqL K H' a xs := by
  rcases h with (h | ⟨o, h⟩) | h
  · exact .inl (.inl (e _ _ h))
  · exact .inl (.inr ⟨o, e _ _ h⟩)
  · exact .inr h
structure Sub (F H : Hp) : Prop extends Same F H where
  th : TB H
theorem Sub.fn {H H' : Hp} (e : Sub H H') (b : Addr) (o : HO) (h : H b = some o) (n : NT o := by first | assumption | (intro ps z; cases z; done) | (intro ps z; unfold LamX.CodeO at z; cases z; done) | exact DicO.nt (by assumption) | exact DicO.nc (by assumption) | exact fun _ => dn_nc | (intro ps z; unfold DN at z; cases z; done) | fail) : H' b = some o := e.st b o h n
instance {F H : Hp} : CoeFun (Sub F H) fun _ => ∀ b o, F b = some o → (n : NT o := by first | assumption | (intro ps z; cases z; done) | (intro ps z; unfold LamX.CodeO at z; cases z; done) | exact DicO.nt (by assumption) | exact DicO.nc (by assumption) | exact fun _ => dn_nc | (intro ps z; unfold DN at z; cases z; done) | fail) → H b = some o := ⟨fun e => @Sub.fn _ _ e⟩
instance {F H : Hp} : Coe (Sub F H) (Same F H) := ⟨Sub.toSame⟩
theorem Sub.up {F H H' : Hp} (a : Sub F H) (b : Same H H') : Sub F H' := ⟨a.toSame.trans b, b.tb a.th⟩
theorem tb_put {H : Hp} {a : Addr} {o u : HO} (t : TB H) (h : H a = some u) (n1 : NT u) (n2 : ∀ q, u ≠ LamX.CodeO a q) : TB (upd H a o) := fun p hp => by
  obtain ⟨ps, h1, h2, h3⟩ := t p hp
  refine ⟨ps, ?_, h2, fun pos cv hc => ?_⟩
  · rw [upd_ne fun e => ?_]
    · exact h1
    · rw [← e, h1] at h
      exact n1 ps (Option.some.inj h).symm
  · obtain ⟨c, e1, e2⟩ := h3 pos cv hc
    refine ⟨c, e1, ?_⟩
    rw [upd_ne fun e => ?_]
    · exact e2
    · subst e
      rw [e2] at h
      exact n2 _ (Option.some.inj h).symm
theorem Same.put {H H1 : Hp} {a : Addr} {o u : HO} (e : Same H H1) (h0 : H a = none) (h : H1 a = some u) (n1 : NT u := by first | assumption | (intro ps z; cases z; done) | (intro ps z; unfold LamX.CodeO at z; cases z; done) | exact DicO.nt (by assumption) | exact DicO.nc (by assumption) | exact fun _ => dn_nc | (intro ps z; unfold DN at z; cases z; done) | fail) (n2 : ∀ q, u ≠ LamX.CodeO a q := by first | assumption | (intro ps z; cases z; done) | (intro ps z; unfold LamX.CodeO at z; cases z; done) | exact DicO.nt (by assumption) | exact DicO.nc (by assumption) | exact fun _ => dn_nc | (intro ps z; unfold DN at z; cases z; done) | fail) : Same H (upd H1 a o) := ⟨fun b v hb n => (by
    rw [upd_ne (ne_of_none hb h0)]; exact e.st b v hb n), fun b hb => (by
    by_cases c : b = a
    · rw [c]; exact h0
    · rw [upd_ne c] at hb; exact e.dom b hb), fun t => tb_put (e.tb t) h n1 n2⟩
end Pf

set_option Elab.async false
set_option linter.all false
set_option maxRecDepth 100000
set_option maxHeartbeats 4000000
namespace Pf
open PySem L2
abbrev D := PyData
abbrev Fp := Addr → Nat
abbrev Ctx := List (Option Nat)
def kD : Key → D
  | .inl i => .int i
  | .inr x => .str x
abbrev NL := List (NestedKey × Addr × V)
def NRel : NL → List (NestedKey × Addr × Value) → Prop := Paired fun p q => p.1 = q.1 ∧ p.2.1 = q.2.1 ∧ RelV p.2.2 q.2.2
def DNp (a : Addr) (l : NL) (h : Heap) : Prop := l.length ≤ sizeLine ∧ (a == sysModules) = false ∧ ∃ (w : World) (xs : List (NestedKey × Addr × Value)) (o : Obj) (es : Array DictEntry) (ep : Nat),
  NRel l xs ∧ h.get? a = some o ∧ o.ExactDict ∧ o.data = .dict es ep ∧ es.toList = xs.map (fun x => ⟨x.1.hash w, .ref x.2.1, x.2.2⟩) ∧ (xs.map (·.1)).Nodup
def DN (a : Addr) (l : NL) : HO := .ext (DNp a l)
mutual
def keyN : D → Option NestedKey
  | .none => some .none
  | .bool b => some (.num (if b = true then 1 else 0))
  | .int i => some (.num i)
  | .tuple ds => (keyNs ds).map .tup
  | _ => none
def keyNs : List D → Option (List NestedKey)
  | [] => some []
  | d :: ds => (keyN d).bind fun k => (keyNs ds).map (k :: ·)
end
def keyT : D → Option NestedKey
  | .tuple ds => (keyNs ds).bind fun ks => if (NestedKey.tup ks).depth ≤ 8 then some (.tup ks) else none
  | _ => none
def flN : List (D × D) → List (D × D)
  | [] => []
  | p :: r => (.none, p.1) :: (.none, p.2) :: flN r
def flV : NL → List V
  | [] => []
  | p :: l => .ref p.2.1 :: p.2.2 :: flV l
def nEnc (r : List (D × D)) : List (D × D) := (.none, .bool true) :: flN r
def DicO (a : Addr) (o : HO) (kvs : List (D × D)) (vs : List V) : Prop :=
  (∃ l : List (Key × V), o = .dK l ∧ kvs.map (·.1) = l.map (fun p => kD p.1) ∧ vs = l.map (·.2)) ∨
  (∃ (l : List (List Key × V)) (r : List (D × D)), o = .dT l ∧ kvs = (.none, .none) :: r ∧ r.map (·.1) = l.map (fun p => .tuple (p.1.map kD)) ∧ vs = .non :: l.map (·.2)) ∨
  (∃ (l : NL) (r : List (D × D)), o = DN a l ∧ kvs = nEnc r ∧ r.map (fun p => keyT p.1) = l.map (fun p => some p.1) ∧ vs = .bl true :: flV l) ∨
  ∃ (C dx : Addr) (fs : List (Str × V)) (r : List (D × D)), o = .ins C dx fs ∧ kvs = (.none, .int (C : Int)) :: r ∧ r.map (·.1) = fs.map (fun p => .str p.1) ∧ vs = .int (C : Int) :: fs.map (·.2)
theorem DicO.nt {a : Addr} {o : HO} {kvs : List (D × D)} {vs : List V} (q : DicO a o kvs vs) : NT o := by
  rcases q with ⟨l, e, _⟩ | ⟨l, r, e, _⟩ | ⟨l, r, e, _⟩ | ⟨C, dx, fs, r, e, _⟩ <;> (subst e; intro ps z; first | cases z | (unfold DN at z; cases z; done))
theorem Heap.get?_push_size' {h : Heap} {o : Obj} {a : Addr} (e : h.objs.size = a) (ho : o.isFreed = false) : (h.push o).get? a = some o := by
  subst e
  exact _root_.PySem.Heap.get?_push_size h ho
theorem dn_nc {a : Addr} {l : NL} {q : Str} : DN a l ≠ LamX.CodeO a q := fun z => by
  unfold DN LamX.CodeO at z
  have e : DNp a l = fun h : Heap => ∃ (oc : Obj) (vs : Array Value) (t : Tok), h.get? a = some oc ∧ oc.data = .fields vs ∧ vs[1]? = some (.str q t) := by injection z
  have H : DNp a l (Heap.push ⟨(List.replicate a (default : Obj)).toArray, {}⟩ { cls := .none, data := .fields #[.none, .str q default] }) := by
    rw [e]
    refine ⟨_, #[.none, .str q default], default, Heap.get?_push_size' (by simp) rfl, rfl, rfl⟩
  obtain ⟨_, _, w, xs, o, es, ep, _, h1, _, h2, _⟩ := H
  rw [Heap.get?_push_size' (by simp) rfl] at h1
  cases h1
  cases h2
theorem DicO.nc {a : Addr} {o : HO} {kvs : List (D × D)} {vs : List V} (q : DicO a o kvs vs) : ∀ x, o ≠ LamX.CodeO a x := by
  rcases q with ⟨l, e, _⟩ | ⟨l, r, e, _⟩ | ⟨l, r, e, _⟩ | ⟨C, dx, fs, r, e, _⟩ <;> subst e <;> intro x z
  · unfold LamX.CodeO at z; cases z
  · unfold LamX.CodeO at z; cases z
  · exact dn_nc z
  · unfold LamX.CodeO at z; cases z
mutual
inductive Rp (K : PySem.W.Frag) (F : Hp) : V → D → Prop
  | non : Rp K F .non .none
  | bl (b : Bool) : Rp K F (.bl b) (.bool b)
  | int (i : Int) : Rp K F (.int i) (.int i)
  | str (x : Str) : Rp K F (.str x) (.str x)
  | lst {a : Addr} {xs : List V} {ds : List D} : SqL K F a xs → RpAll K F xs ds → Rp K F (.ref a) (.list ds)
  | tup {a : Addr} {xs : List V} {ds : List D} : F a = some (.tup xs) → RpAll K F xs ds → Rp K F (.ref a) (.tuple ds)
  | dic {a : Addr} {o : HO} {vs : List V} {kvs : List (D × D)} : F a = some o → DicO a o kvs vs → RpAll K F vs (kvs.map (·.2)) → Rp K F (.ref a) (.dict kvs)
inductive RpAll (K : PySem.W.Frag) (F : Hp) : List V → List D → Prop
  | nil : RpAll K F [] []
  | cons {v : V} {vs : List V} {d : D} {ds : List D} : Rp K F v d → RpAll K F vs ds → RpAll K F (v :: vs) (d :: ds)
end
section
variable {K : PySem.W.Frag} {F F' H H' : Hp}
theorem rd_up {a : Addr} {u : HO} (e : Same F F') (h : Rd F a u) (n : NT u := by first | assumption | (intro ps z; cases z; done) | (intro ps z; unfold LamX.CodeO at z; cases z; done) | exact DicO.nt (by assumption) | exact DicO.nc (by assumption) | exact fun _ => dn_nc | (intro ps z; unfold DN at z; cases z; done) | fail) : Rd F' a u := by
  rcases h with h | ⟨o, h⟩
  · exact .inl (e _ _ h)
  · exact .inr ⟨o, e _ _ h⟩
theorem sqL_up {a : Addr} {xs : List V} (e : Same F F') (h : SqL K F a xs) : SqL K F' a xs := h.imp (fun h => rd_up e h) id
mutual
theorem Rp.up (e : Same F F') : ∀ {v : V} {d : D}, Rp K F v d → Rp K F' v d
  | _, _, .non => .non
  | _, _, .bl b => .bl b
  | _, _, .int i => .int i
  | _, _, .str x => .str x
  | _, _, .lst h r => .lst (sqL_up e h) (RpAll.up e r)
  | _, _, .tup h r => .tup (e _ _ h) (RpAll.up e r)
  | _, _, .dic h q r => .dic (e _ _ h) q (RpAll.up e r)
theorem RpAll.up (e : Same F F') : ∀ {vs : List V} {ds : List D}, RpAll K F vs ds → RpAll K F' vs ds
  | _, _, .nil => .nil
  | _, _, .cons a b => .cons (Rp.up e a) (RpAll.up e b)
end
mutual
def nd : D → Bool
  | .list xs => ndAll xs
  | .tuple xs => ndAll xs
  | .dict _ => false
  | _ => true
def ndAll : List D → Bool
  | [] => true
  | d :: ds => nd d && ndAll ds
end
mutual
theorem Rp.dp : ∀ {v : V} {d : D}, Rp K F v d → nd d = true → Dp K F v d
  | _, _, .non, _ => .non
  | _, _, .bl b, _ => .bl b
  | _, _, .int i, _ => .int i
  | _, _, .str x, _ => .str x
  | _, _, .lst h r, q => .lst h (RpAll.dp r (by simpa [nd] using q))
  | _, _, .tup h r, q => .tup (SqT.of h) (RpAll.dp r (by simpa [nd] using q))
  | _, _, .dic h _ r, q => by simp [nd] at q
theorem RpAll.dp : ∀ {vs : List V} {ds : List D}, RpAll K F vs ds → ndAll ds = true → DpAll K F vs ds
  | _, _, .nil, _ => .nil
  | _, _, .cons a b, q => by
    simp only [ndAll, Bool.and_eq_true] at q
    exact .cons (Rp.dp a q.1) (RpAll.dp b q.2)
end
theorem RpAll.length : ∀ {vs : List V} {ds : List D}, RpAll K F vs ds → vs.length = ds.length
  | _, _, .nil => rfl
  | _, _, .cons _ b => by simp [RpAll.length b]
theorem RpAll.get : ∀ {vs : List V} {ds : List D} {i : Nat} {d : D}, RpAll K F vs ds → ds[i]? = some d → ∃ v, vs[i]? = some v ∧ Rp K F v d
  | _, _, _, _, .nil, h => by simp at h
  | _, _, 0, _, .cons a b, h => ⟨_, rfl, by simp at h; exact h ▸ a⟩
  | _, _, i + 1, _, .cons a b, h => by
    obtain ⟨v, h1, h2⟩ := RpAll.get (i := i) b (by simpa using h)
    exact ⟨v, by simpa using h1, h2⟩
theorem RpAll.append : ∀ {vs ws : List V} {ds es : List D}, RpAll K F vs ds → RpAll K F ws es → RpAll K F (vs ++ ws) (ds ++ es)
  | _, _, _, _, .nil, q => q
  | _, _, _, _, .cons a b, q => .cons a (RpAll.append b q)
theorem RpAll.take (n : Nat) : ∀ {vs : List V} {ds : List D}, RpAll K F vs ds → RpAll K F (vs.take n) (ds.take n) := by
  induction n with
  | zero => intro vs ds _; simpa using RpAll.nil
  | succ n ih => intro vs ds h; cases h with
    | nil => simpa using RpAll.nil
    | cons a b => simpa using RpAll.cons a (ih b)
theorem RpAll.drop (n : Nat) : ∀ {vs : List V} {ds : List D}, RpAll K F vs ds → RpAll K F (vs.drop n) (ds.drop n) := by
  induction n with
  | zero => intro vs ds h; simpa using h
  | succ n ih => intro vs ds h; cases h with
    | nil => simpa using RpAll.nil
    | cons a b => simpa using ih b
theorem RpAll.reverse : ∀ {vs : List V} {ds : List D}, RpAll K F vs ds → RpAll K F vs.reverse ds.reverse
  | _, _, .nil => .nil
  | _, _, .cons a b => by simpa using RpAll.append (RpAll.reverse b) (.cons a .nil)

def OwnAll (P : D → V → Fp → Prop) : List D → List V → Fp → Prop
  | [], [], f => ∀ b, f b = 0
  | d :: ds, v :: vs, f => ∃ f1 f2, P d v f1 ∧ OwnAll P ds vs f2 ∧ ∀ b, f b = f1 b + f2 b
  | _, _, _ => False
def Own (K : PySem.W.Frag) (F H : Hp) : Nat → D → V → Fp → Prop
  | 0, d, v, f => Rp K F v d ∧ ∀ b, f b = 0
  | n + 1, .list ds, v, f => ∃ a vs f2, v = .ref a ∧ H a = some (.lst vs) ∧ F a = none ∧ OwnAll (Own K F H n) ds vs f2 ∧ ∀ b, f b = (if b = a then 1 else 0) + f2 b
  | n + 1, .dict kvs, v, f => ∃ a o vs f2, v = .ref a ∧ H a = some o ∧ F a = none ∧ DicO a o kvs vs ∧ OwnAll (Own K F H n) (kvs.map (·.2)) vs f2 ∧ ∀ b, f b = (if b = a then 1 else 0) + f2 b
  | _ + 1, .none, v, f => Rp K F v .none ∧ ∀ b, f b = 0
  | _ + 1, .bool c, v, f => Rp K F v (.bool c) ∧ ∀ b, f b = 0
  | _ + 1, .int i, v, f => Rp K F v (.int i) ∧ ∀ b, f b = 0
  | 1, .str x, v, f => Rp K F v (.str x) ∧ ∀ b, f b = 0
  | _ + 2, .str _, _, _ => False
  | 1, .tuple ds, v, f => Rp K F v (.tuple ds) ∧ ∀ b, f b = 0
  | _ + 2, .tuple _, _, _ => False
theorem OwnAll.imp {P Q : D → V → Fp → Prop} (g : Fp) (hPQ : ∀ d v f, (∀ b, f b ≤ g b) → P d v f → Q d v f) : ∀ {ds : List D} {vs : List V} {f : Fp}, (∀ b, f b ≤ g b) → OwnAll P ds vs f → OwnAll Q ds vs f
  | [], [], _, _, h => h
  | _ :: _, _ :: _, f, hf, ⟨f1, f2, a, b, e⟩ => ⟨f1, f2, hPQ _ _ _ (fun x => by have := hf x; have := e x; omega) a, OwnAll.imp g hPQ (fun x => by have := hf x; have := e x; omega) b, e⟩
  | [], _ :: _, _, _, h => h.elim
  | _ :: _, [], _, _, h => h.elim
theorem OwnAll.length {P : D → V → Fp → Prop} : ∀ {ds : List D} {vs : List V} {f : Fp}, OwnAll P ds vs f → vs.length = ds.length
  | [], [], _, _ => rfl
  | _ :: _, _ :: _, _, ⟨_, _, _, b, _⟩ => by simp [OwnAll.length b]
  | [], _ :: _, _, h => h.elim
  | _ :: _, [], _, h => h.elim
theorem OwnAll.frz {P : D → V → Fp → Prop} (hP : ∀ d v f, P d v f → Rp K F v d) : ∀ {ds : List D} {vs : List V} {f : Fp}, OwnAll P ds vs f → RpAll K F vs ds
  | [], [], _, _ => .nil
  | _ :: _, _ :: _, _, ⟨_, _, a, b, _⟩ => .cons (hP _ _ _ a) (OwnAll.frz hP b)
  | [], _ :: _, _, h => h.elim
  | _ :: _, [], _, h => h.elim
theorem ownAll_of {P : D → V → Fp → Prop} (hP : ∀ d v, Rp K F v d → P d v (fun _ => 0)) : ∀ {vs : List V} {ds : List D}, RpAll K F vs ds → OwnAll P ds vs (fun _ => 0)
  | _, _, .nil => fun _ => rfl
  | _, _, .cons a b => ⟨_, _, hP _ _ a, ownAll_of hP b, fun _ => rfl⟩
theorem Own.mono {F F' H H' : Hp} (e : Same F F') : ∀ (n : Nat) {d : D} {v : V} {f : Fp}, (∀ a, 0 < f a → F' a = F a ∧ H' a = H a) → Own K F H n d v f → Own K F' H' n d v f
  | 0, _, _, _, _, ⟨r, z⟩ => ⟨r.up e, z⟩
  | n + 1, .list ds, v, f, hk, ⟨a, vs, f2, ev, ha, hn, q, hf⟩ => by
    have ha' := hk a (by have := hf a; simp at this; omega)
    refine ⟨a, vs, f2, ev, ha'.2.trans ha, ha'.1.trans hn, ?_, hf⟩
    exact OwnAll.imp f2 (fun d v g hg p => Own.mono e n (fun b hb => hk b (by have := hf b; have := hg b; omega)) p) (fun _ => Nat.le_refl _) q
  | n + 1, .dict kvs, v, f, hk, ⟨a, o, ks, f2, ev, ha, hn, hks, q, hf⟩ => by
    have ha' := hk a (by have := hf a; simp at this; omega)
    refine ⟨a, o, ks, f2, ev, ha'.2.trans ha, ha'.1.trans hn, hks, ?_, hf⟩
    exact OwnAll.imp f2 (fun d v g hg p => Own.mono e n (fun b hb => hk b (by have := hf b; have := hg b; omega)) p) (fun _ => Nat.le_refl _) q
  | _ + 1, .none, _, _, _, ⟨r, z⟩ | _ + 1, .bool _, _, _, _, ⟨r, z⟩ | _ + 1, .int _, _, _, _, ⟨r, z⟩ | 1, .str _, _, _, _, ⟨r, z⟩ | 1, .tuple _, _, _, _, ⟨r, z⟩ => ⟨r.up e, z⟩
  | _ + 2, .tuple _, _, _, _, h | _ + 2, .str _, _, _, _, h => h.elim
theorem OwnAll.there {P : D → V → Fp → Prop} {a : Addr} {C : Prop} (hP : ∀ d v f, P d v f → 0 < f a → C) : ∀ {ds : List D} {vs : List V} {f : Fp}, OwnAll P ds vs f → 0 < f a → C
  | [], [], _, h, p => by have := h a; omega
  | _ :: _, _ :: _, f, ⟨f1, f2, q, b, e⟩, p => by
    by_cases h1 : 0 < f1 a
    · exact hP _ _ _ q h1
    · exact OwnAll.there hP b (by have := e a; omega)
  | [], _ :: _, _, h, _ => h.elim
  | _ :: _, [], _, h, _ => h.elim
theorem Own.there {F H : Hp} : ∀ (n : Nat) {d : D} {v : V} {f : Fp} {a : Addr}, Own K F H n d v f → 0 < f a → F a = none ∧ H a ≠ none ∧ (∀ xs, H a ≠ some (.tup xs)) ∧ ∀ o, H a = some o → NT o ∧ ∀ q, o ≠ LamX.CodeO a q
  | 0, _, _, _, a, ⟨_, z⟩, p => by have := z a; omega
  | n + 1, .list ds, v, f, a, ⟨b, vs, f2, ev, hb, hn, q, hf⟩, p => by
    by_cases e : a = b
    · subst e; exact ⟨hn, by rw [hb]; simp, fun xs => by rw [hb]; simp, fun o h => by rw [hb] at h; cases h; exact ⟨by first | assumption | (intro ps z; cases z; done) | (intro ps z; unfold LamX.CodeO at z; cases z; done) | exact DicO.nt (by assumption) | exact DicO.nc (by assumption) | exact fun _ => dn_nc | (intro ps z; unfold DN at z; cases z; done) | fail, by first | assumption | (intro ps z; cases z; done) | (intro ps z; unfold LamX.CodeO at z; cases z; done) | exact DicO.nt (by assumption) | exact DicO.nc (by assumption) | exact fun _ => dn_nc | (intro ps z; unfold DN at z; cases z; done) | fail⟩⟩
    · exact OwnAll.there (fun d v f h p => Own.there n h p) q (by have := hf a; simp [e] at this; omega)
  | n + 1, .dict kvs, v, f, a, ⟨b, o, vs, f2, ev, hb, hn, hd, q, hf⟩, p => by
    by_cases e : a = b
    · subst e; exact ⟨hn, by rw [hb]; simp, fun xs => by rw [hb]; rcases hd with ⟨l, rfl, _⟩ | ⟨l, r, rfl, _⟩ | ⟨l, r, rfl, _⟩ | ⟨C, dx, fs, r, rfl, _⟩ <;> simp [DN], fun o h => by rw [hb] at h; cases h; exact ⟨hd.nt, hd.nc⟩⟩
    · exact OwnAll.there (fun d v f h p => Own.there n h p) q (by have := hf a; simp [e] at this; omega)
  | _ + 1, .none, _, _, a, ⟨_, z⟩, p | _ + 1, .bool _, _, _, a, ⟨_, z⟩, p | _ + 1, .int _, _, _, a, ⟨_, z⟩, p | 1, .str _, _, _, a, ⟨_, z⟩, p | 1, .tuple _, _, _, a, ⟨_, z⟩, p => by have := z a; omega
  | _ + 2, .tuple _, _, _, _, h, _ | _ + 2, .str _, _, _, _, h, _ => h.elim
theorem Own.rp {F H : Hp} (e : Sub F H) : ∀ (n : Nat) {d : D} {v : V} {f : Fp}, Own K F H n d v f → Rp K H v d
  | 0, _, _, _, ⟨r, _⟩ => r.up e
  | n + 1, .list ds, v, f, ⟨b, vs, f2, ev, hb, hn, q, hf⟩ => by
    subst ev; exact .lst (SqL.of hb) (OwnAll.frz (fun d v f h => Own.rp e n h) q)
  | n + 1, .dict kvs, v, f, ⟨b, o, ks, f2, ev, hb, hn, hk, q, hf⟩ => by
    subst ev; exact .dic hb hk (OwnAll.frz (fun d v f h => Own.rp e n h) q)
  | _ + 1, .none, _, _, ⟨r, _⟩ | _ + 1, .bool _, _, _, ⟨r, _⟩ | _ + 1, .int _, _, _, ⟨r, _⟩ | 1, .str _, _, _, ⟨r, _⟩ | 1, .tuple _, _, _, ⟨r, _⟩ => r.up e
  | _ + 2, .tuple _, _, _, h | _ + 2, .str _, _, _, h => h.elim
structure Fz (F F' H : Hp) (f g : Fp) : Prop where
  up : Same F F'
  fz : ∀ a, g a < f a → F' a = H a
  ow : ∀ a, 0 < g a → F' a = none
theorem OwnAll.fz {P : D → V → Fp → Prop} {F' : Hp} {C : Addr → Prop} (hP : ∀ d v f, (∀ a, 0 < f a → C a) → P d v f → Rp K F' v d) : ∀ {ds : List D} {vs : List V} {f : Fp}, (∀ a, 0 < f a → C a) → OwnAll P ds vs f → RpAll K F' vs ds
  | [], [], _, _, _ => .nil
  | _ :: _, _ :: _, f, hf, ⟨f1, f2, a, b, e⟩ => .cons (hP _ _ _ (fun x hx => hf x (by have := e x; omega)) a) (OwnAll.fz hP (fun x hx => hf x (by have := e x; omega)) b)
  | [], _ :: _, _, _, h => h.elim
  | _ :: _, [], _, _, h => h.elim
theorem Own.fz {F F' H : Hp} (e : Same F F') : ∀ (n : Nat) {d : D} {v : V} {f : Fp}, (∀ a, 0 < f a → F' a = H a) → Own K F H n d v f → Rp K F' v d
  | 0, _, _, _, _, ⟨r, _⟩ => r.up e
  | n + 1, .list ds, v, f, hk, ⟨b, vs, f2, ev, hb, hn, q, hf⟩ => by
    subst ev
    exact .lst (SqL.of ((hk b (by have := hf b; simp at this; omega)).trans hb)) (OwnAll.fz (C := fun a => F' a = H a) (fun d v f c h => Own.fz e n c h) (fun a ha => hk a (by have := hf a; omega)) q)
  | n + 1, .dict kvs, v, f, hk, ⟨b, o, ks, f2, ev, hb, hn, hks, q, hf⟩ => by
    subst ev
    exact .dic ((hk b (by have := hf b; simp at this; omega)).trans hb) hks (OwnAll.fz (C := fun a => F' a = H a) (fun d v f c h => Own.fz e n c h) (fun a ha => hk a (by have := hf a; omega)) q)
  | _ + 1, .none, _, _, _, ⟨r, _⟩ | _ + 1, .bool _, _, _, _, ⟨r, _⟩ | _ + 1, .int _, _, _, _, ⟨r, _⟩ | 1, .str _, _, _, _, ⟨r, _⟩ | 1, .tuple _, _, _, _, ⟨r, _⟩ => r.up e
  | _ + 2, .tuple _, _, _, _, h | _ + 2, .str _, _, _, _, h => h.elim
theorem OwnAll.down {F H : Hp} {P : D → V → Fp → Prop} {Q : Hp → D → V → Fp → Prop} (hP : ∀ d v f, P d v f → ∃ g, (∀ a, g a ≤ f a) ∧ ∀ F', Fz F F' H f g → Q F' d v g) :
    ∀ {ds : List D} {vs : List V} {f : Fp}, OwnAll P ds vs f → ∃ g, (∀ a, g a ≤ f a) ∧ ∀ F', Fz F F' H f g → OwnAll (Q F') ds vs g
  | [], [], f, h => ⟨f, fun _ => Nat.le_refl _, fun _ _ => h⟩
  | _ :: _, _ :: _, f, ⟨f1, f2, a, b, e⟩ => by
    obtain ⟨g1, l1, q1⟩ := hP _ _ _ a
    obtain ⟨g2, l2, q2⟩ := OwnAll.down hP b
    refine ⟨fun x => g1 x + g2 x, fun x => by have := l1 x; have := l2 x; have := e x; show g1 x + g2 x ≤ _; omega, fun F' z => ⟨g1, g2, q1 F' ⟨z.up, fun x hx => z.fz x ?_, fun x hx => z.ow x ?_⟩, q2 F' ⟨z.up, fun x hx => z.fz x ?_, fun x hx => z.ow x ?_⟩, fun _ => rfl⟩⟩
    · have := l1 x; have := l2 x; have := e x; show g1 x + g2 x < _; omega
    · show 0 < g1 x + g2 x; omega
    · have := l1 x; have := l2 x; have := e x; show g1 x + g2 x < _; omega
    · show 0 < g1 x + g2 x; omega
  | [], _ :: _, _, h => h.elim
  | _ :: _, [], _, h => h.elim
theorem Own.down {F H : Hp} : ∀ (n m : Nat) {d : D} {v : V} {f : Fp}, m ≤ n → Own K F H n d v f → ∃ g, (∀ a, g a ≤ f a) ∧ ∀ F', Fz F F' H f g → Own K F' H m d v g
  | n, 0, _, _, f, _, h => ⟨fun _ => 0, fun _ => Nat.zero_le _, fun F' z => ⟨Own.fz z.up n (fun a ha => z.fz a ha) h, fun _ => rfl⟩⟩
  | 0, m + 1, _, _, _, h, _ => by omega
  | n + 1, m + 1, .list ds, v, f, hm, ⟨b, vs, f2, ev, hb, hn, q, hf⟩ => by
    obtain ⟨g2, l2, q2⟩ := OwnAll.down (Q := fun F' d v g => Own K F' H m d v g) (fun d v f h => Own.down n m (by omega) h) q
    refine ⟨fun a => (if a = b then 1 else 0) + g2 a, fun a => by have := l2 a; have := hf a; show (if a = b then 1 else 0) + g2 a ≤ _; omega, fun F' z => ⟨b, vs, g2, ev, hb, z.ow b (by simp; omega), q2 F' ⟨z.up, fun a ha => z.fz a ?_, fun a ha => z.ow a ?_⟩, fun _ => rfl⟩⟩
    · have := hf a; show (if a = b then 1 else 0) + g2 a < _; omega
    · show 0 < (if a = b then 1 else 0) + g2 a; omega
  | n + 1, m + 1, .dict ds, v, f, hm, ⟨b, o, vs, f2, ev, hb, hn, hk, q, hf⟩ => by
    obtain ⟨g2, l2, q2⟩ := OwnAll.down (Q := fun F' d v g => Own K F' H m d v g) (fun d v f h => Own.down n m (by omega) h) q
    refine ⟨fun a => (if a = b then 1 else 0) + g2 a, fun a => by have := l2 a; have := hf a; show (if a = b then 1 else 0) + g2 a ≤ _; omega, fun F' z => ⟨b, o, vs, g2, ev, hb, z.ow b (by simp; omega), hk, q2 F' ⟨z.up, fun a ha => z.fz a ?_, fun a ha => z.ow a ?_⟩, fun _ => rfl⟩⟩
    · have := hf a; show (if a = b then 1 else 0) + g2 a < _; omega
    · show 0 < (if a = b then 1 else 0) + g2 a; omega
  | _ + 1, _ + 1, .none, _, f, _, ⟨r, z⟩ | _ + 1, _ + 1, .bool _, _, f, _, ⟨r, z⟩ | _ + 1, _ + 1, .int _, _, f, _, ⟨r, z⟩ => ⟨f, fun _ => Nat.le_refl _, fun _ y => ⟨r.up y.up, z⟩⟩
  | 1, 1, .str _, _, f, _, ⟨r, z⟩ | 1, 1, .tuple _, _, f, _, ⟨r, z⟩ => ⟨f, fun _ => Nat.le_refl _, fun _ y => ⟨r.up y.up, z⟩⟩
  | _ + 2, _ + 1, .tuple _, _, f, _, h | _ + 2, _ + 1, .str _, _, f, _, h => h.elim
  | 1, _ + 2, _, _, f, hm, h => by omega

def Slots (K : PySem.W.Frag) (F H : Hp) : Ctx → St → List D → Fp → Prop
  | [], [], [], f => ∀ b, f b = 0
  | none :: Γ, _ :: σ, _ :: env, f => Slots K F H Γ σ env f
  | some n :: Γ, s :: σ, d :: env, f => ∃ v f1 f2, s = some v ∧ Own K F H n d v f1 ∧ Slots K F H Γ σ env f2 ∧ ∀ b, f b = f1 b + f2 b
  | _, _, _, _ => False
theorem Slots.mono {F F' H H' : Hp} (e : Same F F') : ∀ {Γ : Ctx} {σ : St} {env : List D} {f : Fp}, (∀ a, 0 < f a → F' a = F a ∧ H' a = H a) → Slots K F H Γ σ env f → Slots K F' H' Γ σ env f
  | [], [], [], _, _, h => h
  | none :: Γ, _ :: _, _ :: _, _, hk, h => Slots.mono (Γ := Γ) e hk h
  | some n :: _, _ :: _, _ :: _, f, hk, ⟨v, f1, f2, es, o, r, hf⟩ => ⟨v, f1, f2, es, o.mono e n (fun a ha => hk a (by have := hf a; omega)), Slots.mono e (fun a ha => hk a (by have := hf a; omega)) r, hf⟩
  | [], _ :: _, _, _, _, h | [], [], _ :: _, _, _, h | _ :: _, [], _, _, _, h | _ :: _, _ :: _, [], _, _, h => by simp [Slots] at h
theorem Slots.there {F H : Hp} : ∀ {Γ : Ctx} {σ : St} {env : List D} {f : Fp} {a : Addr}, Slots K F H Γ σ env f → 0 < f a → F a = none ∧ H a ≠ none ∧ (∀ xs, H a ≠ some (.tup xs)) ∧ ∀ o, H a = some o → NT o ∧ ∀ q, o ≠ LamX.CodeO a q
  | [], [], [], _, a, h, p => by have := h a; omega
  | none :: Γ, _ :: _, _ :: _, _, _, h, p => Slots.there (Γ := Γ) h p
  | some n :: _, _ :: _, _ :: _, f, a, ⟨v, f1, f2, es, o, r, hf⟩, p => by
    by_cases k : 0 < f1 a
    · exact o.there n k
    · exact Slots.there r (by have := hf a; omega)
  | [], _ :: _, _, _, _, h, _ | [], [], _ :: _, _, _, h, _ | _ :: _, [], _, _, _, h, _ | _ :: _, _ :: _, [], _, _, h, _ => by simp [Slots] at h
theorem Slots.len {F H : Hp} : ∀ {Γ : Ctx} {σ : St} {env : List D} {f : Fp}, Slots K F H Γ σ env f → σ.length = Γ.length ∧ env.length = Γ.length
  | [], [], [], _, h => ⟨rfl, rfl⟩
  | none :: Γ, _ :: _, _ :: _, _, h => by have := Slots.len (Γ := Γ) h; simp; omega
  | some n :: _, _ :: _, _ :: _, f, ⟨v, f1, f2, es, o, r, hf⟩ => by have := Slots.len r; simp; omega
  | [], _ :: _, _, _, h | [], [], _ :: _, _, h | _ :: _, [], _, _, h | _ :: _, _ :: _, [], _, h => by simp [Slots] at h
def Le1 : Option Nat → Option Nat → Bool
  | none, _ => true
  | some m, some n => decide (m ≤ n)
  | some _, none => false
def LeC : Ctx → Ctx → Bool
  | [], [] => true
  | a :: Γ, b :: Δ => Le1 a b && LeC Γ Δ
  | _, _ => false
theorem Slots.down {F H : Hp} : ∀ {Γ Δ : Ctx} {σ : St} {env : List D} {f : Fp}, LeC Δ Γ = true → Slots K F H Γ σ env f → ∃ g, (∀ a, g a ≤ f a) ∧ ∀ F', Fz F F' H f g → Slots K F' H Δ σ env g
  | [], [], [], [], f, _, h => ⟨f, fun _ => Nat.le_refl _, fun _ _ => h⟩
  | none :: Γ, none :: Δ, _ :: _, _ :: _, f, hl, h => Slots.down (Γ := Γ) (Δ := Δ) (by simpa [LeC, Le1] using hl) h
  | none :: _, some _ :: _, _ :: _, _ :: _, f, hl, h => by simp [LeC, Le1] at hl
  | some n :: Γ, none :: Δ, _ :: _, _ :: _, f, hl, ⟨v, f1, f2, es, o, r, hf⟩ => by
    obtain ⟨g2, l2, q2⟩ := Slots.down (Δ := Δ) (by simpa [LeC, Le1] using hl) r
    exact ⟨g2, fun a => by have := l2 a; have := hf a; omega, fun F' z => q2 F' ⟨z.up, fun a ha => z.fz a (by have := hf a; omega), z.ow⟩⟩
  | some n :: Γ, some m :: Δ, _ :: _, _ :: _, f, hl, ⟨v, f1, f2, es, o, r, hf⟩ => by
    simp only [LeC, Le1, Bool.and_eq_true, decide_eq_true_eq] at hl
    obtain ⟨g1, l1, q1⟩ := o.down n m hl.1
    obtain ⟨g2, l2, q2⟩ := Slots.down hl.2 r
    refine ⟨fun x => g1 x + g2 x, fun x => by have := l1 x; have := l2 x; have := hf x; show g1 x + g2 x ≤ _; omega, fun F' z => ⟨v, g1, g2, es, q1 F' ⟨z.up, fun x hx => z.fz x ?_, fun x hx => z.ow x ?_⟩, q2 F' ⟨z.up, fun x hx => z.fz x ?_, fun x hx => z.ow x ?_⟩, fun _ => rfl⟩⟩
    · have := l1 x; have := l2 x; have := hf x; show g1 x + g2 x < _; omega
    · show 0 < g1 x + g2 x; omega
    · have := l1 x; have := l2 x; have := hf x; show g1 x + g2 x < _; omega
    · show 0 < g1 x + g2 x; omega
  | [], _, _ :: _, _, _, _, h | [], _, [], _ :: _, _, _, h | _ :: _, _, [], _, _, _, h | _ :: _, _, _ :: _, [], _, _, h => by simp [Slots] at h
  | [], _ :: _, [], [], _, hl, _ => by simp [LeC] at hl
  | _ :: _, [], _ :: _, _ :: _, _, hl, _ => by simp [LeC] at hl
theorem Slots.focus {F H : Hp} : ∀ {Γ : Ctx} {σ : St} {env : List D} {f : Fp} {i n : Nat}, Slots K F H Γ σ env f → Γ[i]? = some (some n) → ∃ v d f1 f2, σ[i]? = some (some v) ∧ env[i]? = some d ∧ Own K F H n d v f1 ∧ (∀ b, f b = f1 b + f2 b) ∧
      (∀ F' H', Same F F' → (∀ a, 0 < f2 a → F' a = F a ∧ H' a = H a) → Slots K F' H' (Γ.set i none) σ env f2 ∧ ∀ v' d', Slots K F' H' (Γ.set i none) (σ.set i (some v')) (env.set i d') f2 ∧ ∀ n' f1', Own K F' H' n' d' v' f1' → Slots K F' H' (Γ.set i (some n')) (σ.set i (some v')) (env.set i d') (fun b => f1' b + f2 b))
  | [], [], [], _, _, _, _, hi => by simp at hi
  | none :: Γ, s :: σ, d :: env, f, 0, n, h, hi => by simp at hi
  | none :: Γ, s :: σ, d :: env, f, i + 1, n, h, hi => by
    obtain ⟨v, d', f1, f2, h1, h2, h3, h4, h5⟩ := Slots.focus (Γ := Γ) (i := i) h (by simpa using hi)
    exact ⟨v, d', f1, f2, by simpa using h1, by simpa using h2, h3, h4, fun F' H' e k => ⟨(h5 F' H' e k).1, fun v' d'' => ⟨((h5 F' H' e k).2 v' d'').1, fun n' f1' o => ((h5 F' H' e k).2 v' d'').2 n' f1' o⟩⟩⟩
  | some m :: Γ, s :: σ, d :: env, f, 0, n, ⟨v, f1, f2, es, o, r, hf⟩, hi => by
    simp at hi
    subst hi es
    exact ⟨v, d, f1, f2, rfl, rfl, o, hf, fun F' H' e k => ⟨r.mono e k, fun v' d'' => ⟨r.mono e k, fun n' f1' o' => ⟨v', f1', f2, rfl, o', r.mono e k, fun _ => rfl⟩⟩⟩⟩
  | some m :: Γ, s :: σ, d :: env, f, i + 1, n, ⟨v0, g1, g2, es, o, r, hf⟩, hi => by
    obtain ⟨v, d', f1, f2, h1, h2, h3, h4, h5⟩ := Slots.focus (i := i) r (by simpa using hi)
    refine ⟨v, d', f1, fun b => g1 b + f2 b, by simpa using h1, by simpa using h2, h3, fun b => by have := hf b; have := h4 b; show _ = f1 b + (g1 b + f2 b); omega, fun F' H' e k => ?_⟩
    have k2 : ∀ a, 0 < f2 a → F' a = F a ∧ H' a = H a := fun a ha => k a (by show 0 < g1 a + f2 a; omega)
    have ko := o.mono e m (H' := H') (fun a ha => k a (by show 0 < g1 a + f2 a; omega))
    obtain ⟨q0, q1⟩ := h5 F' H' e k2
    refine ⟨⟨v0, g1, f2, es, ko, q0, fun _ => rfl⟩, fun v' d'' => ?_⟩
    obtain ⟨q2, q3⟩ := q1 v' d''
    exact ⟨⟨v0, g1, f2, es, ko, q2, fun _ => rfl⟩, fun n' f1' o' => ⟨v0, g1, _, es, ko, q3 n' f1' o', fun b => by show f1' b + (g1 b + f2 b) = g1 b + (f1' b + f2 b); omega⟩⟩
  | [], _ :: _, _, _, _, _, h, _ | [], [], _ :: _, _, _, _, h, _ | _ :: _, [], _, _, _, _, h, _ | _ :: _, _ :: _, [], _, _, _, h, _ => by simp [Slots] at h
theorem Slots.put {F H : Hp} : ∀ {Γ : Ctx} {σ : St} {env : List D} {f : Fp} {i : Nat} {v : V} {d : D} {n : Nat} {ft : Fp}, Slots K F H Γ σ env f → i < Γ.length → Own K F H n d v ft →
      ∃ g, (∀ b, g b ≤ ft b + f b) ∧ Slots K F H (Γ.set i (some n)) (σ.set i (some v)) (env.set i d) g
  | [], [], [], _, _, _, _, _, _, _, hi, _ => by simp at hi
  | none :: Γ, s :: σ, _ :: env, f, 0, v, d, n, ft, h, hi, o => ⟨fun b => ft b + f b, fun _ => Nat.le_refl _, v, ft, f, rfl, o, h, fun _ => rfl⟩
  | some m :: Γ, s :: σ, _ :: env, f, 0, v, d, n, ft, ⟨v0, g1, g2, es, o', r, hf⟩, hi, o => ⟨fun b => ft b + g2 b, fun b => by have := hf b; show ft b + g2 b ≤ _; omega, v, ft, g2, rfl, o, r, fun _ => rfl⟩
  | none :: Γ, s :: σ, _ :: env, f, i + 1, v, d, n, ft, h, hi, o => by
    obtain ⟨g, l, q⟩ := Slots.put (Γ := Γ) (i := i) h (by simpa using hi) o
    exact ⟨g, l, q⟩
  | some m :: Γ, s :: σ, _ :: env, f, i + 1, v, d, n, ft, ⟨v0, g1, g2, es, o', r, hf⟩, hi, o => by
    obtain ⟨g, l, q⟩ := Slots.put (i := i) r (by simpa using hi) o
    exact ⟨fun b => g1 b + g b, fun b => by have := l b; have := hf b; show g1 b + g b ≤ _; omega, v0, g1, g, es, o', q, fun _ => rfl⟩
  | [], _ :: _, _, _, _, _, _, _, _, h, _, _ | [], [], _ :: _, _, _, _, _, _, _, h, _, _ | _ :: _, [], _, _, _, _, _, _, _, h, _, _ | _ :: _, _ :: _, [], _, _, _, _, _, _, h, _, _ => by simp [Slots] at h
end
end Pf

set_option Elab.async false
set_option linter.all false
set_option maxRecDepth 100000
set_option maxHeartbeats 4000000
namespace Pf
open PySem L2
structure Bs where
  H0 : Hp
  F0 : Hp
structure Ok (B : Bs) (F H : Hp) (f : Fp) : Prop where
  fh : Sub F H
  h0 : Same B.H0 H
  f0 : Same B.F0 F
  fn : ∀ a o, F a = some o → B.F0 a = some o ∨ B.H0 a = none ∨ (B.H0 a = some o ∧ ∃ xs, o = .tup xs) ∨ ∃ ps, B.H0 a = some (.tbl ps)
  one : ∀ a, f a ≤ 1
  fr : ∀ a, 0 < f a → B.H0 a = none
def Rel (K : PySem.W.Frag) (B : Bs) (Γ : Ctx) (σ : St) (env : List D) (F H : Hp) : Prop := ∃ f, Slots K F H Γ σ env f ∧ Ok B F H f
def RelT (K : PySem.W.Frag) (B : Bs) (Γ : Ctx) (σ : St) (env : List D) (F H : Hp) (n : Nat) (d : D) (v : V) : Prop :=
  ∃ f g, Slots K F H Γ σ env f ∧ Own K F H n d v g ∧ Ok B F H (fun a => g a + f a)
def Got (K : PySem.W.Frag) (F H F' H' : Hp) (n : Nat) (d : D) (v : V) : Prop := ∃ g, Own K F' H' n d v g ∧ Ok ⟨H, F⟩ F' H' g
def BwAll (P : D → V → Prop) : List D → List V → Prop
  | [], [] => True
  | d :: ds, v :: vs => P d v ∧ BwAll P ds vs
  | _, _ => False
def Bw (K : PySem.W.Frag) (F H : Hp) : Nat → D → V → Prop
  | 0, d, v => Rp K F v d
  | n + 1, .list ds, v => ∃ a vs, v = .ref a ∧ H a = some (.lst vs) ∧ BwAll (Bw K F H n) ds vs
  | n + 1, .dict kvs, v => ∃ a o vs, v = .ref a ∧ H a = some o ∧ DicO a o kvs vs ∧ BwAll (Bw K F H n) (kvs.map (·.2)) vs
  | _ + 1, .none, v => Rp K F v .none
  | _ + 1, .bool c, v => Rp K F v (.bool c)
  | _ + 1, .int i, v => Rp K F v (.int i)
  | 1, .str x, v => Rp K F v (.str x)
  | _ + 2, .str _, _ => False
  | 1, .tuple ds, v => Rp K F v (.tuple ds)
  | _ + 2, .tuple _, _ => False
section
variable {K : PySem.W.Frag} {F F' H H' : Hp} {B : Bs} {Γ Γ' : Ctx} {σ : St} {env : List D}
theorem BwAll.imp {P Q : D → V → Prop} (h : ∀ d v, P d v → Q d v) : ∀ {ds : List D} {vs : List V}, BwAll P ds vs → BwAll Q ds vs
  | [], [], _ => trivial
  | _ :: _, _ :: _, ⟨a, b⟩ => ⟨h _ _ a, b.imp h⟩
  | [], _ :: _, h => h.elim
  | _ :: _, [], h => h.elim
theorem BwAll.rp {P : D → V → Prop} (h : ∀ d v, P d v → Rp K H v d) : ∀ {ds : List D} {vs : List V}, BwAll P ds vs → RpAll K H vs ds
  | [], [], _ => .nil
  | _ :: _, _ :: _, ⟨a, b⟩ => .cons (h _ _ a) (b.rp h)
  | [], _ :: _, h => h.elim
  | _ :: _, [], h => h.elim
theorem bwAll_own {P : D → V → Fp → Prop} {Q : D → V → Prop} (h : ∀ d v f, P d v f → Q d v) : ∀ {ds : List D} {vs : List V} {f : Fp}, OwnAll P ds vs f → BwAll Q ds vs
  | [], [], _, _ => trivial
  | _ :: _, _ :: _, _, ⟨_, _, a, b, _⟩ => ⟨h _ _ _ a, bwAll_own h b⟩
  | [], _ :: _, _, h => h.elim
  | _ :: _, [], _, h => h.elim
theorem BwAll.len {P : D → V → Prop} : ∀ {ds : List D} {vs : List V}, BwAll P ds vs → vs.length = ds.length
  | [], [], _ => rfl
  | _ :: _, _ :: _, ⟨_, b⟩ => by simp [BwAll.len b]
  | [], _ :: _, h => h.elim
  | _ :: _, [], h => h.elim
theorem BwAll.get {P : D → V → Prop} : ∀ {ds : List D} {vs : List V} {i : Nat} {d : D}, BwAll P ds vs → ds[i]? = some d → ∃ v, vs[i]? = some v ∧ P d v
  | _ :: _, _ :: _, 0, _, ⟨a, _⟩, e => ⟨_, rfl, by simp at e; exact e ▸ a⟩
  | _ :: _, _ :: _, i + 1, _, ⟨_, b⟩, e => by
    obtain ⟨v, h1, h2⟩ := BwAll.get (i := i) b (by simpa using e)
    exact ⟨v, by simpa using h1, h2⟩
  | [], [], _, _, _, e => by simp at e
  | [], _ :: _, _, _, h, _ => h.elim
  | _ :: _, [], _, _, h, _ => h.elim
theorem Own.bw : ∀ (n : Nat) {d : D} {v : V} {f : Fp}, Own K F H n d v f → Bw K F H n d v
  | 0, _, _, _, ⟨r, _⟩ => r
  | n + 1, .list ds, v, f, ⟨b, vs, f2, ev, hb, hn, q, hf⟩ => ⟨b, vs, ev, hb, bwAll_own (fun d v f h => Own.bw n h) q⟩
  | n + 1, .dict kvs, v, f, ⟨b, o, ks, f2, ev, hb, hn, hk, q, hf⟩ => ⟨b, o, ks, ev, hb, hk, bwAll_own (fun d v f h => Own.bw n h) q⟩
  | _ + 1, .none, _, _, ⟨r, _⟩ | _ + 1, .bool _, _, _, ⟨r, _⟩ | _ + 1, .int _, _, _, ⟨r, _⟩ | 1, .str _, _, _, ⟨r, _⟩ | 1, .tuple _, _, _, ⟨r, _⟩ => r
  | _ + 2, .tuple _, _, _, h | _ + 2, .str _, _, _, h => h.elim
theorem Bw.mono (e : Same F F') (k : Same H H') : ∀ (n : Nat) {d : D} {v : V}, Bw K F H n d v → Bw K F' H' n d v
  | 0, _, _, r => Rp.up e r
  | n + 1, .list ds, v, ⟨a, vs, ev, h, q⟩ => ⟨a, vs, ev, k _ _ h, q.imp fun d v h => Bw.mono e k n h⟩
  | n + 1, .dict ds, v, ⟨a, o, vs, ev, h, hk, q⟩ => ⟨a, o, vs, ev, k _ _ h, hk, q.imp fun d v h => Bw.mono e k n h⟩
  | _ + 1, .none, _, r | _ + 1, .bool _, _, r | _ + 1, .int _, _, r | 1, .str _, _, r | 1, .tuple _, _, r => Rp.up e r
  | _ + 2, .tuple _, _, h | _ + 2, .str _, _, h => h.elim
theorem Bw.rp (e : Sub F H) : ∀ (n : Nat) {d : D} {v : V}, Bw K F H n d v → Rp K H v d
  | 0, _, _, r => Rp.up e r
  | n + 1, .list ds, v, ⟨a, vs, ev, h, q⟩ => by subst ev; exact .lst (SqL.of h) (q.rp fun d v h => Bw.rp e n h)
  | n + 1, .dict ds, v, ⟨a, o, vs, ev, h, hk, q⟩ => by subst ev; exact .dic h hk (q.rp fun d v h => Bw.rp e n h)
  | _ + 1, .none, _, r | _ + 1, .bool _, _, r | _ + 1, .int _, _, r | 1, .str _, _, r | 1, .tuple _, _, r => Rp.up e r
  | _ + 2, .tuple _, _, h | _ + 2, .str _, _, h => h.elim
theorem Ok.less {f g : Fp} (h : Ok B F H f) (l : ∀ a, g a ≤ f a) : Ok B F H g := ⟨h.fh, h.h0, h.f0, h.fn, fun a => Nat.le_trans (l a) (h.one a), fun a ha => h.fr a (by have := l a; omega)⟩
theorem Rel.fh (r : Rel K B Γ σ env F H) : Sub F H := r.elim fun _ h => h.2.fh
theorem RelT.rel {n : Nat} {d : D} {v : V} (r : RelT K B Γ σ env F H n d v) : Rel K B Γ σ env F H := by
  obtain ⟨f, g, s, o, k⟩ := r
  exact ⟨f, s, k.less fun a => by omega⟩
theorem RelT.bw {n : Nat} {d : D} {v : V} (r : RelT K B Γ σ env F H n d v) : Bw K F H n d v := by
  obtain ⟨f, g, s, o, k⟩ := r
  exact o.bw n
theorem Rel.t0 {d : D} {v : V} (r : Rel K B Γ σ env F H) (h : Rp K F v d) : RelT K B Γ σ env F H 0 d v := by
  obtain ⟨f, s, k⟩ := r
  exact ⟨f, fun _ => 0, s, ⟨h, fun _ => rfl⟩, k.less fun a => by show 0 + f a ≤ f a; omega⟩
theorem Rel.got {n : Nat} {d : D} {v : V} (r : Rel K B Γ σ env F H) (h : Got K F H F' H' n d v) : Same F F' ∧ Same H H' ∧ RelT K B Γ σ env F' H' n d v := by
  obtain ⟨f, s, k⟩ := r
  obtain ⟨g, o, q⟩ := h
  refine ⟨q.f0, q.h0, f, g, s.mono q.f0 (fun a ha => ?_), o, ⟨q.fh, k.h0.trans q.h0, k.f0.trans q.f0, fun a u hu => ?_, fun a => ?_, fun a ha => ?_⟩⟩
  · obtain ⟨n1, n2, n3, n4⟩ := s.there ha
    have e2 : H' a = H a := by
      cases e : H a with
      | none => exact absurd e n2
      | some u => exact q.h0.fn a u e (n4 u e).1
    refine ⟨?_, e2⟩
    cases e : F' a with
    | none => exact n1.symm
    | some u =>
      rcases q.fn a u e with z | z | ⟨z, xs, rfl⟩ | ⟨ps, z⟩
      · exact z.symm
      · exact absurd z n2
      · exact absurd z (n3 xs)
      · exact absurd rfl ((n4 _ z).1 ps)
  · rcases q.fn a u hu with z | z | ⟨z, xs, rfl⟩ | ⟨ps, z⟩
    · exact k.fn a u z
    · exact .inr (.inl (k.h0.dom a z))
    · cases e : B.H0 a with
      | none => exact .inr (.inl rfl)
      | some u2 =>
        by_cases n : NT u2
        · have z2 := (k.h0.fn a u2 e n).symm.trans z
          cases z2
          exact .inr (.inr (.inl ⟨rfl, xs, rfl⟩))
        · exact .inr (.inr (.inr (nt_not n)))
    · cases e : B.H0 a with
      | none => exact .inr (.inl rfl)
      | some u2 =>
        by_cases n : NT u2
        · have z2 := (k.h0.fn a u2 e n).symm.trans z
          exact absurd (Option.some.inj z2) (n ps)
        · exact .inr (.inr (.inr (nt_not n)))
  · have h1 := k.one a
    have h2 := q.one a
    by_cases c : 0 < g a
    · by_cases c2 : 0 < f a
      · exact absurd (q.fr a c) (s.there c2).2.1
      · show g a + f a ≤ 1; omega
    · show g a + f a ≤ 1; omega
  · by_cases c : 0 < f a
    · exact k.fr a c
    · have c3 : 0 < g a + f a := ha
      have c2 : 0 < g a := by omega
      exact k.h0.dom a (q.fr a c2)
theorem got_val {d : D} {v : V} (e : Sub F H) (h : Rp K F v d) : Got K F H F H 0 d v := ⟨fun _ => 0, ⟨h, fun _ => rfl⟩, ⟨e, Same.refl _, Same.refl _, fun _ _ q => .inl q, fun _ => Nat.zero_le _, fun _ q => absurd q (Nat.lt_irrefl _)⟩⟩
theorem same_upd {p : Addr} {o : HO} (h : H p = none) : Same H (upd H p o) := .of fun a u e => by rw [upd_ne (ne_of_none e h)]; exact e
theorem same_upd2 {p : Addr} {o : HO} (e : Sub F H) (h : H p = none) : Sub F (upd H p o) := e.up (same_upd h)
theorem none_of (e : Sub F H) {p : Addr} (h : H p = none) : F p = none := Same.free e h
theorem got_newL {p : Addr} {vs : List V} {ds : List D} (e : Sub F H) (h : H p = none) (r : RpAll K F vs ds) : Got K F H F (upd H p (.lst vs)) 1 (.list ds) (.ref p) := by
  refine ⟨fun a => if a = p then 1 else 0, ⟨p, vs, fun _ => 0, rfl, upd_same, none_of e h, ownAll_of (fun d v h => ⟨h, fun _ => rfl⟩) r, fun _ => rfl⟩, ⟨same_upd2 e h, same_upd h, Same.refl _, fun _ _ q => .inl q, fun a => ?_, fun a ha => ?_⟩⟩
  · show (if a = p then 1 else 0) ≤ 1; split <;> omega
  · have ha : 0 < (if a = p then 1 else 0) := ha
    by_cases c : a = p
    · rw [c]; exact h
    · rw [if_neg c] at ha; omega
theorem same_upd3 {p : Addr} {o : HO} (e : Sub F H) (h : H p = none) (n : NT o := by first | assumption | (intro ps z; cases z; done) | (intro ps z; unfold LamX.CodeO at z; cases z; done) | exact DicO.nt (by assumption) | exact DicO.nc (by assumption) | exact fun _ => dn_nc | (intro ps z; unfold DN at z; cases z; done) | fail) : Sub (upd F p o) (upd H p o) := ⟨⟨fun a u q m => by
  by_cases c : a = p
  · subst c; rw [upd_same] at q ⊢; exact q
  · rw [upd_ne c] at q ⊢; exact e.st a u q m, fun a q => by
  by_cases c : a = p
  · subst c; rw [upd_same] at q; cases q
  · rw [upd_ne c] at q ⊢; exact e.dom a q, fun _ => (same_upd h).tb e.th⟩, (same_upd h).tb e.th⟩
theorem got_newT {p : Addr} {vs : List V} {ds : List D} (e : Sub F H) (h : H p = none) (r : RpAll K F vs ds) : Got K F H (upd F p (.tup vs)) (upd H p (.tup vs)) 0 (.tuple ds) (.ref p) := by
  refine ⟨fun _ => 0, ⟨.tup upd_same (r.up (same_upd (none_of e h))), fun _ => rfl⟩, ⟨same_upd3 e h, same_upd h, same_upd (none_of e h), fun a u q => ?_, fun _ => Nat.zero_le _, fun _ q => absurd q (Nat.lt_irrefl _)⟩⟩
  by_cases c : a = p
  · subst c; exact .inr (.inl h)
  · rw [upd_ne c] at q; exact .inl q
theorem fz_mk {f g : Fp} (h1 : ∀ a, 0 < f a → F a = none) (l : ∀ a, g a ≤ f a) (o : ∀ a, f a ≤ 1) : Fz F (fun a => if g a < f a then H a else F a) H f g := by
  refine ⟨.of fun a u q => ?_, fun a ha => ?_, fun a ha => ?_⟩
  · show (if g a < f a then H a else F a) = _
    rw [if_neg]
    · exact q
    · intro c
      have := h1 a (by omega)
      rw [this] at q; cases q
  · show (if g a < f a then H a else F a) = _
    rw [if_pos ha]
  · show (if g a < f a then H a else F a) = _
    have := o a
    have := l a
    rw [if_neg (by omega)]
    exact h1 a (by omega)
theorem Ok.fz {f g : Fp} (k : Ok B F H f) (h1 : ∀ a, 0 < f a → F a = none) (l : ∀ a, g a ≤ f a) : Ok B (fun a => if g a < f a then H a else F a) H g := by
  have z := fz_mk (H := H) h1 l k.one
  refine ⟨⟨⟨fun a u q n => ?_, fun a q => ?_, fun _ => k.fh.th⟩, k.fh.th⟩, k.h0, k.f0.trans z.up, fun a u q => ?_, fun a => Nat.le_trans (l a) (k.one a), fun a ha => k.fr a (by have := l a; omega)⟩
  · have q : (if g a < f a then H a else F a) = some u := q
    split at q
    · exact q
    · exact k.fh.st a u q n
  · show (if g a < f a then H a else F a) = none
    split
    · exact q
    · exact k.fh.dom a q
  · have q : (if g a < f a then H a else F a) = some u := q
    split at q
    · rename_i c
      exact .inr (.inl (k.fr a (by omega)))
    · exact k.fn a u q
theorem Rel.down (r : Rel K B Γ σ env F H) (l : LeC Γ' Γ = true) : ∃ F', Same F F' ∧ Rel K B Γ' σ env F' H := by
  obtain ⟨f, s, k⟩ := r
  obtain ⟨g, lg, q⟩ := s.down l
  have h1 : ∀ a, 0 < f a → F a = none := fun a ha => (s.there ha).1
  have z := fz_mk (H := H) h1 lg k.one
  exact ⟨_, z.up, g, q _ z, k.fz h1 lg⟩
theorem RelT.down {n m : Nat} {d : D} {v : V} (r : RelT K B Γ σ env F H n d v) (l : LeC Γ' Γ = true) (hm : m ≤ n) : ∃ F', Same F F' ∧ RelT K B Γ' σ env F' H m d v := by
  obtain ⟨f, f2, s, o, k⟩ := r
  obtain ⟨g, lg, q⟩ := s.down l
  obtain ⟨g2, lg2, q2⟩ := o.down n m hm
  have h1 : ∀ a, 0 < f2 a + f a → F a = none := fun a ha => by
    by_cases c : 0 < f a
    · exact (s.there c).1
    · exact (o.there n (by omega)).1
  have lt : ∀ a, g2 a + g a ≤ f2 a + f a := fun a => by have := lg a; have := lg2 a; omega
  have z := fz_mk (f := fun a => f2 a + f a) (g := fun a => g2 a + g a) (H := H) h1 lt k.one
  refine ⟨_, z.up, g, g2, q _ ⟨z.up, fun a ha => z.fz a ?_, fun a ha => z.ow a ?_⟩, q2 _ ⟨z.up, fun a ha => z.fz a ?_, fun a ha => z.ow a ?_⟩, k.fz h1 lt⟩
  · have := lg a; have := lg2 a; show g2 a + g a < f2 a + f a; omega
  · show 0 < g2 a + g a; omega
  · have := lg a; have := lg2 a; show g2 a + g a < f2 a + f a; omega
  · show 0 < g2 a + g a; omega
theorem Got.down {n m : Nat} {d : D} {v : V} (h : Got K F H F' H' n d v) (hm : m ≤ n) : ∃ F2, Same F' F2 ∧ Got K F H F2 H' m d v := by
  obtain ⟨f, o, k⟩ := h
  obtain ⟨g, lg, q⟩ := o.down n m hm
  have h1 : ∀ a, 0 < f a → F' a = none := fun a ha => (o.there n ha).1
  have z := fz_mk (H := H') h1 lg k.one
  exact ⟨_, z.up, g, q _ z, k.fz h1 lg⟩
end

abbrev EF := List D → Option D
abbrev TF := List D → Option Bool
abbrev AF := List D → Option (List D)
def SE (X : Cx) (Γ : Ctx) (e : Expr) (f : EF) (n : Nat) (Γ' : Ctx) : Prop :=
  ∃ t : TE, PE X e t ∧ ∀ (B : Bs) (σ : St) (env : List D) (F H : Hp) (d : D) (Q : VK), Rel X.K B Γ σ env F H → f env = some d →
    (∀ v F' H', Same F F' → Same H H' → RelT X.K B Γ' σ env F' H' n d v → Q v H') → t σ H Q
def SB (X : Cx) (Γ : Ctx) (e : Expr) (f : EF) (n : Nat) (Γ' : Ctx) : Prop :=
  ∃ t : TE, PE X e t ∧ ∀ (B : Bs) (σ : St) (env : List D) (F H : Hp) (d : D) (Q : VK), Rel X.K B Γ σ env F H → f env = some d →
    (∀ v F' H', Same F F' → Same H H' → Rel X.K B Γ' σ env F' H' → Bw X.K F' H' n d v → Q v H') → t σ H Q
def STs (X : Cx) (Γ : Ctx) (e : Expr) (f : TF) (Γ' : Ctx) : Prop :=
  ∃ t : TT, PT X e t ∧ ∀ (B : Bs) (σ : St) (env : List D) (F H : Hp) (b : Bool) (Q : Bool → Hp → Prop), Rel X.K B Γ σ env F H → f env = some b →
    (∀ F' H', Same F F' → Same H H' → Rel X.K B Γ' σ env F' H' → Q b H') → t σ H Q
def STw (X : Cx) (Γ : Ctx) (e : Expr) (f : TF) (Γ' : Ctx) : Prop :=
  ∃ t : TT, PW X e t ∧ ∀ (B : Bs) (σ : St) (env : List D) (F H : Hp) (b : Bool) (Q : Bool → Hp → Prop), Rel X.K B Γ σ env F H → f env = some b →
    (∀ F' H', Same F F' → Same H H' → Rel X.K B Γ' σ env F' H' → Q b H') → t σ H Q
def BwL (K : PySem.W.Frag) (F H : Hp) : List Nat → List D → List V → Prop
  | [], [], [] => True
  | n :: ns, d :: ds, v :: vs => Bw K F H n d v ∧ BwL K F H ns ds vs
  | _, _, _ => False
def SA (X : Cx) (Γ : Ctx) (es : List Expr) (f : AF) (ns : List Nat) (Γ' : Ctx) : Prop :=
  ∃ t : TA, PA X es t ∧ ∀ (B : Bs) (σ : St) (env : List D) (F H : Hp) (ds : List D) (Q : List V → Hp → Prop), Rel X.K B Γ σ env F H → f env = some ds →
    (∀ vs F' H', Same F F' → Same H H' → Rel X.K B Γ' σ env F' H' → BwL X.K F' H' ns ds vs → Q vs H') → t σ H Q
section
variable {X : Cx} {Γ Γ1 Γ2 Γ' : Ctx} {K : PySem.W.Frag} {F F' H H' : Hp}
theorem BwL.mono (e : Same F F') (k : Same H H') : ∀ {ns : List Nat} {ds : List D} {vs : List V}, BwL K F H ns ds vs → BwL K F' H' ns ds vs
  | [], [], [], _ => trivial
  | n :: ns, d :: ds, v :: vs, ⟨a, b⟩ => ⟨a.mono e k n, b.mono e k⟩
  | [], [], _ :: _, h | [], _ :: _, _, h | _ :: _, [], _, h | _ :: _, _ :: _, [], h => by simp [BwL] at h
theorem BwL.rp0 : ∀ {ns : List Nat} {ds : List D} {vs : List V}, (ns.all (· == 0)) = true → BwL K F H ns ds vs → RpAll K F vs ds
  | [], [], [], _, _ => .nil
  | n :: ns, d :: ds, v :: vs, hn, ⟨a, b⟩ => by
    simp only [List.all_cons, Bool.and_eq_true, beq_iff_eq] at hn
    obtain ⟨rfl, hn⟩ := hn
    exact .cons a (BwL.rp0 hn b)
  | [], [], _ :: _, _, h | [], _ :: _, _, _, h | _ :: _, [], _, _, h | _ :: _, _ :: _, [], _, h => by simp [BwL] at h
theorem SE.sb {e : Expr} {f : EF} {n : Nat} (h : SE X Γ e f n Γ') : SB X Γ e f n Γ' := by
  obtain ⟨t, p, q⟩ := h
  exact ⟨t, p, fun B σ env F H d Q r e k => q B σ env F H d Q r e fun v F' H' s1 s2 w => k v F' H' s1 s2 w.rel w.bw⟩
theorem SB.se {e : Expr} {f : EF} (h : SB X Γ e f 0 Γ') : SE X Γ e f 0 Γ' := by
  obtain ⟨t, p, q⟩ := h
  exact ⟨t, p, fun B σ env F H d Q r e k => q B σ env F H d Q r e fun v F' H' s1 s2 w b => k v F' H' s1 s2 (w.t0 b)⟩
theorem SE.sub {e : Expr} {f : EF} {n m : Nat} (h : SE X Γ e f n Γ1) (l : LeC Γ' Γ1 = true) (hm : m ≤ n) : SE X Γ e f m Γ' := by
  obtain ⟨t, p, q⟩ := h
  refine ⟨t, p, fun B σ env F H d Q r e k => q B σ env F H d Q r e fun v F' H' s1 s2 w => ?_⟩
  obtain ⟨F2, u, w2⟩ := w.down l hm
  exact k v F2 H' (s1.trans u) s2 w2
theorem STs.sub {e : Expr} {f : TF} (h : STs X Γ e f Γ1) (l : LeC Γ' Γ1 = true) : STs X Γ e f Γ' := by
  obtain ⟨t, p, q⟩ := h
  refine ⟨t, p, fun B σ env F H d Q r e k => q B σ env F H d Q r e fun F' H' s1 s2 w => ?_⟩
  obtain ⟨F2, u, w2⟩ := w.down l
  exact k F2 H' (s1.trans u) s2 w2
theorem STw.ts {e : Expr} {f : TF} (h : STw X Γ e f Γ') : STs X Γ e f Γ' := by
  obtain ⟨t, p, q⟩ := h
  exact ⟨t, p.pt, q⟩

def eV (i : Nat) : EF := fun env => env[i]?
def eC (d : D) : EF := fun _ => some d
theorem Rel.slot {B : Bs} {σ : St} {env : List D} {i n : Nat} (r : Rel K B Γ σ env F H) (hi : Γ[i]? = some (some n)) : ∃ v d, σ[i]? = some (some v) ∧ env[i]? = some d ∧ Bw K F H n d v ∧ RelT K B (Γ.set i none) σ env F H n d v := by
  obtain ⟨f, s, k⟩ := r
  obtain ⟨v, d, f1, f2, h1, h2, h3, h4, h5⟩ := s.focus hi
  refine ⟨v, d, h1, h2, h3.bw n, f2, f1, (h5 F H (Same.refl _) (fun _ _ => ⟨rfl, rfl⟩)).1, h3, k.less fun a => by have := h4 a; show f1 a + f2 a ≤ _; omega⟩
theorem sb_var (i : Nat) {x : Str} {pos : Pos} {n : Nat} (hi : Γ[i]? = some (some n)) (hN : X.N[i]? = some x := by rfl) (hv : Vis X.env.scope x := by first | exact Or.inl rfl | exact Or.inr (Or.inl rfl) | exact Or.inr (Or.inr rfl)) (hd : (x == ("__debug__" : Str)) = false := by decide)
    (hcd : (x == ("__classdict__" : Str)) = false := by decide) : SB X Γ (.Name x pos) (eV i) n Γ := by
  refine ⟨_, pe_var hN hv hd hcd, fun B σ env F H d Q r e k => ?_⟩
  obtain ⟨v, d', h1, h2, h3, h4⟩ := r.slot hi
  rw [eV, h2] at e
  cases e
  exact ⟨v, h1, k v F H (Same.refl _) (Same.refl _) r h3⟩
theorem se_mv (i : Nat) {x : Str} {pos : Pos} {n : Nat} (hi : Γ[i]? = some (some n)) (hN : X.N[i]? = some x := by rfl) (hv : Vis X.env.scope x := by first | exact Or.inl rfl | exact Or.inr (Or.inl rfl) | exact Or.inr (Or.inr rfl)) (hd : (x == ("__debug__" : Str)) = false := by decide)
    (hcd : (x == ("__classdict__" : Str)) = false := by decide) : SE X Γ (.Name x pos) (eV i) n (Γ.set i none) := by
  refine ⟨_, pe_var hN hv hd hcd, fun B σ env F H d Q r e k => ?_⟩
  obtain ⟨v, d', h1, h2, h3, h4⟩ := r.slot hi
  rw [eV, h2] at e
  cases e
  exact ⟨v, h1, k v F H (Same.refl _) (Same.refl _) h4⟩
theorem leC_refl : ∀ Γ : Ctx, LeC Γ Γ = true
  | [] => rfl
  | none :: Γ => by simp [LeC, Le1, leC_refl Γ]
  | some n :: Γ => by simp [LeC, Le1, leC_refl Γ]
theorem se_c {e : Expr} {v : V} {d : D} (p : PE X e (tC v)) (h : ∀ K F, Rp K F v d) : SE X Γ e (eC d) 0 Γ :=
  ⟨_, p, fun B σ env F H d' Q r e k => by
    cases e
    exact k v F H (Same.refl _) (Same.refl _) (r.t0 (h _ _))⟩
theorem se_int {i : Int} {j pos} : SE X Γ (.Constant (.int i) j pos) (eC (.int i)) 0 Γ := se_c pe_int fun _ _ => .int i
theorem se_bl {b : Bool} {j pos} : SE X Γ (.Constant (.bool b) j pos) (eC (.bool b)) 0 Γ := se_c pe_bl fun _ _ => .bl b
theorem se_str {x : Str} {j pos} : SE X Γ (.Constant (.str x) j pos) (eC (.str x)) 0 Γ := se_c pe_str fun _ _ => .str x
theorem se_glob {x : Str} {v : V} {u : Value} {d : D} {pos : Pos} (hg : Gl X x) (hm : X.mg x = some u) (r : RelV v u) (h : ∀ F, Rp X.K F v d) (hd : (x == ("__debug__" : Str)) = false := by decide) : SE X Γ (.Name x pos) (eC d) 0 Γ :=
  ⟨_, pe_glob hg hm r hd, fun B σ env F H d' Q r e k => by
    cases e
    exact k v F H (Same.refl _) (Same.refl _) (r.t0 (h _))⟩

def S2 (K : PySem.W.Frag) (r : R2) (na nb n : Nat) (g : D → D → Option D) : Prop := ∀ (F H : Hp) (x y : V) (da db d : D) (Q : VK), Sub F H → Bw K F H na da x → Bw K F H nb db y → g da db = some d →
  (∀ v F' H', Got K F H F' H' n d v → Q v H') → r x y H Q
def S1 (K : PySem.W.Frag) (r : V → Hp → VK → Prop) (na n : Nat) (g : D → Option D) : Prop := ∀ (F H : Hp) (x : V) (da d : D) (Q : VK), Sub F H → Bw K F H na da x → g da = some d →
  (∀ v F' H', Got K F H F' H' n d v → Q v H') → r x H Q
def SL (K : PySem.W.Frag) (r : List V → Hp → VK → Prop) (ns : List Nat) (n : Nat) (g : List D → Option D) : Prop := ∀ (F H : Hp) (xs : List V) (ds : List D) (d : D) (Q : VK), Sub F H → BwL K F H ns ds xs → g ds = some d →
  (∀ v F' H', Got K F H F' H' n d v → Q v H') → r xs H Q
def e2 (g : D → D → Option D) (fa fb : EF) : EF := fun env => (fa env).bind fun x => (fb env).bind fun y => g x y
def e1 (g : D → Option D) (fa : EF) : EF := fun env => (fa env).bind g
def eL (g : List D → Option D) (fs : AF) : EF := fun env => (fs env).bind g
theorem bind2 {fa fb : EF} {g : D → D → Option D} {env : List D} {d : D} (h : e2 g fa fb env = some d) : ∃ x y, fa env = some x ∧ fb env = some y ∧ g x y = some d := by
  unfold e2 at h
  obtain ⟨x, hx, h⟩ := Option.bind_eq_some_iff.mp h
  obtain ⟨y, hy, h⟩ := Option.bind_eq_some_iff.mp h
  exact ⟨x, y, hx, hy, h⟩
theorem se_tOp {a b e : Expr} {fa fb : EF} {na nb n : Nat} {r : R2} {g : D → D → Option D} (hs : S2 X.K r na nb n g) (ha : SB X Γ a fa na Γ1) (hb : SB X Γ1 b fb nb Γ2) (hp : ∀ ta tb, PE X a ta → PE X b tb → PE X e (tOp r ta tb)) :
    SE X Γ e (e2 g fa fb) n Γ2 := by
  obtain ⟨ta, pa, qa⟩ := ha
  obtain ⟨tb, pb, qb⟩ := hb
  refine ⟨_, hp _ _ pa pb, fun B σ env F H d Q rr e k => ?_⟩
  obtain ⟨x, y, hx, hy, hg⟩ := bind2 e
  refine qa B σ env F H x _ rr hx fun v F1 H1 s1 t1 r1 b1 => ?_
  refine qb B σ env F1 H1 y _ r1 hy fun u F2 H2 s2 t2 r2 b2 => ?_
  refine hs F2 H2 v u x y d Q r2.fh (b1.mono s2 t2 na) b2 hg fun w F3 H3 got => ?_
  obtain ⟨s3, t3, r3⟩ := r2.got got
  exact k w F3 H3 ((s1.trans s2).trans s3) ((t1.trans t2).trans t3) r3
theorem se_op {a b : Expr} {op : Operator} {pos : Pos} {fa fb : EF} {na nb n : Nat} {r : R2} {g : D → D → Option D} (ho : OpR X (binaryOp op) r) (hs : S2 X.K r na nb n g) (ha : SB X Γ a fa na Γ1) (hb : SB X Γ1 b fb nb Γ2) :
    SE X Γ (.BinOp a op b pos) (e2 g fa fb) n Γ2 := se_tOp hs ha hb fun _ _ pa pb => pe_op ho pa pb
theorem se_cmp {a b : Expr} {op : CmpOp} {pos : Pos} {fa fb : EF} {na nb n : Nat} {r : R2} {g : D → D → Option D} (ho : OpR X (compareOp op) r) (hs : S2 X.K r na nb n g) (ha : SB X Γ a fa na Γ1) (hb : SB X Γ1 b fb nb Γ2) (hm : behindInMarks op b = false := by rfl) :
    SE X Γ (.Compare a [op] [b] pos) (e2 g fa fb) n Γ2 := se_tOp hs ha hb fun _ _ pa pb => pe_cmpR ho pa pb hm
theorem se_ix {a b : Expr} {pos : Pos} {fa fb : EF} {na nb n : Nat} {r : R2} {g : D → D → Option D} (ho : IxR X r) (hs : S2 X.K r na nb n g) (ha : SB X Γ a fa na Γ1) (hb : SB X Γ1 b fb nb Γ2) (hp : PlainIx b := by exact fun _ _ => rfl) :
    SE X Γ (.Subscript a b pos) (e2 g fa fb) n Γ2 := se_tOp hs ha hb fun _ _ pa pb => pe_ix ho pa pb hp
theorem se_un {a : Expr} {op : UnaryOp} {pos : Pos} {fa : EF} {na n : Nat} {r : V → Hp → VK → Prop} {g : D → Option D} (ho : UnR X (unaryOp op) r) (hs : S1 X.K r na n g) (ha : SB X Γ a fa na Γ1) : SE X Γ (.UnaryOp op a pos) (e1 g fa) n Γ1 := by
  obtain ⟨ta, pa, qa⟩ := ha
  refine ⟨_, pe_un ho pa, fun B σ env F H d Q rr e k => ?_⟩
  obtain ⟨x, hx, hg⟩ := Option.bind_eq_some_iff.mp e
  refine qa B σ env F H x _ rr hx fun v F1 H1 s1 t1 r1 b1 => ?_
  refine hs F1 H1 v x d Q r1.fh b1 hg fun w F3 H3 got => ?_
  obtain ⟨s3, t3, r3⟩ := r1.got got
  exact k w F3 H3 (s1.trans s3) (t1.trans t3) r3

def aN : AF := fun _ => some []
def aC (fa : EF) (fs : AF) : AF := fun env => (fa env).bind fun x => (fs env).bind fun xs => some (x :: xs)
theorem sa_nil : SA X Γ [] aN [] Γ := ⟨_, pa_nil, fun B σ env F H ds Q r e k => by
  cases e
  exact k [] F H (Same.refl _) (Same.refl _) r trivial⟩
theorem sa_cons {a : Expr} {es : List Expr} {fa : EF} {fs : AF} {n : Nat} {ns : List Nat} (ha : SB X Γ a fa n Γ1) (hs : SA X Γ1 es fs ns Γ2) (he : starEach (a :: es) X.env = (false, eval a X.env) :: starEach es X.env := by rfl) :
    SA X Γ (a :: es) (aC fa fs) (n :: ns) Γ2 := by
  obtain ⟨ta, pa, qa⟩ := ha
  obtain ⟨tb, pb, qb⟩ := hs
  refine ⟨_, pa_cons pa pb he, fun B σ env F H ds Q rr e k => ?_⟩
  obtain ⟨x, hx, e⟩ := Option.bind_eq_some_iff.mp e
  obtain ⟨xs, hxs, e⟩ := Option.bind_eq_some_iff.mp e
  cases e
  refine qa B σ env F H x _ rr hx fun v F1 H1 s1 t1 r1 b1 => ?_
  refine qb B σ env F1 H1 xs _ r1 hxs fun us F2 H2 s2 t2 r2 b2 => ?_
  exact k (v :: us) F2 H2 (s1.trans s2) (t1.trans t2) r2 ⟨b1.mono s2 t2 n, b2⟩
def eTup (fs : AF) : EF := fun env => (fs env).bind fun ds => if ds.length ≤ 16777216 then some (.tuple ds) else none
def eLst (fs : AF) : EF := fun env => (fs env).bind fun ds => if ds.length ≤ 16777216 then some (.list ds) else none
theorem szLine {n : Nat} (h : n ≤ 16777216) : n ≤ sizeLine := by rw [sizeLine_eq]; exact h
theorem se_tup {es : List Expr} {fs : AF} {ns : List Nat} {x1} {pos : Pos} (hs : SA X Γ es fs ns Γ1) (hn : (ns.all (· == 0)) = true := by rfl) : SE X Γ (.Tuple es x1 pos) (eTup fs) 0 Γ1 := by
  obtain ⟨ta, pa, qa⟩ := hs
  refine ⟨_, pe_tup pa, fun B σ env F H d Q rr e k => ?_⟩
  obtain ⟨ds, hx, e⟩ := Option.bind_eq_some_iff.mp e
  split at e
  · rename_i hz
    cases e
    refine qa B σ env F H ds _ rr hx fun vs F1 H1 s1 t1 r1 b1 => ?_
    have rp := b1.rp0 hn
    refine ⟨by rw [rp.length]; exact szLine hz, fun p hp => ?_⟩
    obtain ⟨s3, t3, r3⟩ := r1.got (got_newT r1.fh hp rp)
    exact k _ _ _ (s1.trans s3) (t1.trans t3) r3
  · cases e
theorem se_lst {es : List Expr} {fs : AF} {ns : List Nat} {pos : Pos} (hs : SA X Γ es fs ns Γ1) (hn : (ns.all (· == 0)) = true := by rfl) : SE X Γ (.List es pos) (eLst fs) 1 Γ1 := by
  obtain ⟨ta, pa, qa⟩ := hs
  refine ⟨_, pe_lst pa, fun B σ env F H d Q rr e k => ?_⟩
  obtain ⟨ds, hx, e⟩ := Option.bind_eq_some_iff.mp e
  split at e
  · rename_i hz
    cases e
    refine qa B σ env F H ds _ rr hx fun vs F1 H1 s1 t1 r1 b1 => ?_
    have rp := b1.rp0 hn
    refine ⟨by rw [rp.length]; exact szLine hz, fun p hp => ?_⟩
    obtain ⟨s3, t3, r3⟩ := r1.got (got_newL r1.fh hp rp)
    exact k _ _ _ (s1.trans s3) (t1.trans t3) r3
  · cases e
def Pure (K : PySem.W.Frag) (m n : Nat) (f : List D → Option D) : Sp := fun vs H Q _ => ∃ F ds d, Sub F H ∧ vs.length = m ∧ RpAll K F vs ds ∧ f ds = some d ∧ ∀ v F' H', Got K F H F' H' n d v → Q v H'
theorem se_call {k : Nat} {f : Addr} {fd : FuncData} {ps : List Str} {x : Str} {p pos : Pos} {e : Expr} {es : List Expr} {fs : AF} {ns : List Nat} {m n : Nat} {g : List D → Option D}
    (G : FnOk X.prog X.w X.K X.mg X.base CX0 k f fd ps (Pure X.K m n g)) (hr : Room k X.A) (hg : Gl X x) (hm : X.mg x = some (.ref f)) (hk : PySem.W.keepIn X.K (.ref f) = true) (hb : Binds X.K fd ps [])
    (ha : SA X Γ (e :: es) fs ns Γ1) (hn : (ns.all (· == 0)) = true := by rfl) (hl : ns.length = m := by rfl) (hdb : (x == ("__debug__" : Str)) = false := by decide) (he : starEach (e :: es) X.env = (false, eval e X.env) :: starEach es X.env := by rfl) (hpl : (backTo pos (starEach es X.env)).any (·.1) = false := by rfl) :
    SE X Γ (.Call (.Name x p) (e :: es) [] pos) (eL g fs) n Γ1 := by
  obtain ⟨ta, pa, qa⟩ := ha
  refine ⟨_, pe_call G hr hg hm hk hb .nil pass0 pa hdb he hpl, fun B σ env F H d Q rr e' k => ?_⟩
  obtain ⟨ds, hx, hgd⟩ := Option.bind_eq_some_iff.mp e'
  refine qa B σ env F H ds _ rr hx fun vs F1 H1 s1 t1 r1 b1 => ?_
  have len : ∀ {ns : List Nat} {ds : List D} {vs : List V}, BwL X.K F1 H1 ns ds vs → vs.length = ns.length := by
    intro ns
    induction ns with
    | nil => intro ds vs h; cases ds <;> cases vs <;> simp [BwL] at h ⊢
    | cons n ns ih => intro ds vs h; cases ds <;> cases vs <;> simp [BwL] at h ⊢; exact ih h.2
  refine ⟨F1, ds, d, r1.fh, by simpa using (len b1).trans hl, by simpa using b1.rp0 hn, hgd, fun v F2 H2 got => ?_⟩
  obtain ⟨s3, t3, r3⟩ := r1.got got
  exact k _ _ _ (s1.trans s3) (t1.trans t3) r3
theorem se_call0 {k : Nat} {f : Addr} {fd : FuncData} {ps : List Str} {x : Str} {p pos : Pos} {n : Nat} {g : List D → Option D}
    (G : FnOk X.prog X.w X.K X.mg X.base CX0 k f fd ps (Pure X.K 0 n g)) (hr : Room k X.A) (hg : Gl X x) (hm : X.mg x = some (.ref f)) (hk : PySem.W.keepIn X.K (.ref f) = true) (hb : Binds X.K fd ps []) (hdb : (x == ("__debug__" : Str)) = false := by decide) :
    SE X Γ (.Call (.Name x p) [] [] pos) (eL g aN) n Γ := by
  refine ⟨_, pe_call0 G hr hg hm hk hb .nil pass0 hdb, fun B σ env F H d Q rr e' k => ?_⟩
  obtain ⟨ds, hx, hgd⟩ := Option.bind_eq_some_iff.mp e'
  cases hx
  refine ⟨F, [], d, rr.fh, rfl, .nil, hgd, fun v F2 H2 got => ?_⟩
  obtain ⟨s3, t3, r3⟩ := rr.got got
  exact k _ _ _ s3 t3 r3
theorem se_tCB {e : Expr} {es : List Expr} {r : List V → Hp → VK → Prop} {fs : AF} {ns : List Nat} {n : Nat} {g : List D → Option D} (hs : SL X.K r ns n g) (ha : SA X Γ es fs ns Γ1) (hp : ∀ t, PA X es t → PE X e (tCB r t)) : SE X Γ e (eL g fs) n Γ1 := by
  obtain ⟨ta, pa, qa⟩ := ha
  refine ⟨_, hp _ pa, fun B σ env F H d Q rr e' k => ?_⟩
  obtain ⟨ds, hx, hgd⟩ := Option.bind_eq_some_iff.mp e'
  refine qa B σ env F H ds _ rr hx fun vs F1 H1 s1 t1 r1 b1 => ?_
  refine hs F1 H1 vs ds d Q r1.fh b1 hgd fun w F3 H3 got => ?_
  obtain ⟨s3, t3, r3⟩ := r1.got got
  exact k w F3 H3 (s1.trans s3) (t1.trans t3) r3
theorem se_callB {x : Str} {p pos : Pos} {e : Expr} {es : List Expr} {id : String} {r : List V → Hp → VK → Prop} {fs : AF} {ns : List Nat} {n : Nat} {g : List D → Option D} (hc : CallR X (.builtin id) r) (hs : SL X.K r ns n g) (hg : Gl X x) (hm : X.mg x = none) (hv : bootBuiltins x = some (.builtin id))
    (ha : SA X Γ (e :: es) fs ns Γ1) (hn : x ≠ "__name__" := by decide) (hdb : (x == ("__debug__" : Str)) = false := by decide) (he : starEach (e :: es) X.env = (false, eval e X.env) :: starEach es X.env := by rfl) (hpl : (backTo pos (starEach es X.env)).any (·.1) = false := by rfl) :
    SE X Γ (.Call (.Name x p) (e :: es) [] pos) (eL g fs) n Γ1 := se_tCB hs ha fun _ pa => pe_callB hc hg hm hv pa hn hdb he hpl
theorem se_callTy {x : Str} {p pos : Pos} {e : Expr} {es : List Expr} {T : String} {r : List V → Hp → VK → Prop} {fs : AF} {ns : List Nat} {n : Nat} {g : List D → Option D} (hc : CallR X (.type T) r) (hs : SL X.K r ns n g) (hg : Gl X x) (hm : X.mg x = none) (hv : bootBuiltins x = some (.type T))
    (ha : SA X Γ (e :: es) fs ns Γ1) (hn : x ≠ "__name__" := by decide) (hdb : (x == ("__debug__" : Str)) = false := by decide) (he : starEach (e :: es) X.env = (false, eval e X.env) :: starEach es X.env := by rfl) (hpl : (backTo pos (starEach es X.env)).any (·.1) = false := by rfl) :
    SE X Γ (.Call (.Name x p) (e :: es) [] pos) (eL g fs) n Γ1 := se_tCB hs ha fun _ pa => pe_callTy hc hg hm hv pa hn hdb he hpl

def bo : D → Option Bool
  | .bool b => some b
  | _ => none
def tV (f : EF) : TF := fun env => (f env).bind bo
theorem Bw.bo {n : Nat} {d : D} {v : V} {b : Bool} (h : Bw K F H n d v) (e : bo d = some b) : v = .bl b := by
  cases d with
  | bool c =>
    have e : c = b := by injection e
    subst e
    cases n with
    | zero => cases h; rfl
    | succ n =>
      have h : Rp K F v (.bool c) := h
      cases h
      rfl
  | _ => exact absurd e (by simp [Pf.bo])
theorem st_cmp {a b : Expr} {op : CmpOp} {pos : Pos} {fa fb : EF} {na nb n : Nat} {r : R2} {g : D → D → Option D} (ho : OpR X (compareOp op) r) (hs : S2 X.K r na nb n g) (ha : SB X Γ a fa na Γ1) (hb : SB X Γ1 b fb nb Γ2) (hm : behindInMarks op b = false := by rfl) :
    STs X Γ (.Compare a [op] [b] pos) (tV (e2 g fa fb)) Γ2 := by
  obtain ⟨ta, pa, qa⟩ := ha
  obtain ⟨tb, pb, qb⟩ := hb
  refine ⟨_, pt_cmpR ho pa pb hm, fun B σ env F H d Q rr e k => ?_⟩
  obtain ⟨d', e, hbo⟩ := Option.bind_eq_some_iff.mp e
  obtain ⟨x, y, hx, hy, hg⟩ := bind2 e
  refine qa B σ env F H x _ rr hx fun v F1 H1 s1 t1 r1 b1 => ?_
  refine qb B σ env F1 H1 y _ r1 hy fun u F2 H2 s2 t2 r2 b2 => ?_
  refine hs F2 H2 v u x y d' _ r2.fh (b1.mono s2 t2 na) b2 hg fun w F3 H3 got => ?_
  obtain ⟨s3, t3, r3⟩ := r2.got got
  exact ⟨d, r3.bw.bo hbo, k F3 H3 ((s1.trans s2).trans s3) ((t1.trans t2).trans t3) r3.rel⟩
def truth : D → Option Bool
  | .none => some false
  | .bool b => some b
  | .int i => some (i != 0)
  | .str x => if x.length ≤ 16777216 then some (x.length != 0) else none
  | .list xs => some (!xs.isEmpty)
  | .tuple xs => some (!xs.isEmpty)
  | .dict _ => none
theorem isEmpty_eq {α β : Type} {xs : List α} {ys : List β} (h : xs.length = ys.length) : xs.isEmpty = ys.isEmpty := by
  cases xs <;> cases ys <;> simp at h ⊢
theorem Rp.tru {v : V} {d : D} {b : Bool} (h : Rp K H v d) (e : truth d = some b) : TruV K v H b := by
  cases h with
  | non => simp [truth] at e; exact e ▸ rfl
  | bl c => simp [truth] at e; exact e ▸ rfl
  | int i => simp [truth] at e; subst e; rfl
  | str x =>
    simp only [truth] at e
    split at e
    · cases e
      refine ⟨szLine (by assumption), ?_⟩
      simp only [bne]
      congr 1
      rw [Bool.eq_iff_iff]
      simp
    · cases e
  | lst s r =>
    simp only [truth, Option.some.injEq] at e
    exact .inl ⟨_, s, by rw [← e, isEmpty_eq r.length]⟩
  | tup s r =>
    simp only [truth, Option.some.injEq] at e
    exact .inr (.inl ⟨_, SqT.of s, by rw [← e, isEmpty_eq r.length]⟩)
  | dic s q r => cases e
def tT (f : EF) : TF := fun env => (f env).bind truth
theorem st_truth {a : Expr} {fa : EF} {n : Nat} (ha : SB X Γ a fa n Γ1) (he : ∀ whole, isTrue a X.env whole = (do let v ← whole; standAt a.pos; holding [v] (truthy v)) := by intro _; rfl) : STs X Γ a (tT fa) Γ1 := by
  obtain ⟨ta, pa, qa⟩ := ha
  refine ⟨_, pt_truth pa he, fun B σ env F H b Q rr e k => ?_⟩
  obtain ⟨d, hx, e⟩ := Option.bind_eq_some_iff.mp e
  refine qa B σ env F H d _ rr hx fun v F1 H1 s1 t1 r1 b1 => ⟨b, (b1.rp r1.fh n).tru e, k F1 H1 s1 t1 r1⟩
def tNotF (c : TF) : TF := fun env => (c env).map (!·)
def tAndF (c d : TF) : TF := fun env => (c env).bind fun b => if b = true then d env else some false
def tOrF (c d : TF) : TF := fun env => (c env).bind fun b => if b = true then some true else d env
theorem st_not {a : Expr} {pos : Pos} {fa : TF} (ha : STs X Γ a fa Γ1) : STs X Γ (.UnaryOp .Not a pos) (tNotF fa) Γ1 := by
  obtain ⟨ta, pa, qa⟩ := ha
  refine ⟨_, pt_not pa, fun B σ env F H b Q rr e k => ?_⟩
  obtain ⟨c, hx, e⟩ := Option.map_eq_some_iff.mp e
  subst e
  exact qa B σ env F H c _ rr hx fun F1 H1 s1 t1 r1 => k F1 H1 s1 t1 r1
theorem sw_and1 {a : Expr} {pos : Pos} {fa : TF} (ha : STs X Γ a fa Γ1) : STw X Γ (.BoolOp .And [a] pos) fa Γ1 := by
  obtain ⟨ta, pa, qa⟩ := ha
  exact ⟨_, pw_and1 pa, qa⟩
theorem sw_or1 {a : Expr} {pos : Pos} {fa : TF} (ha : STs X Γ a fa Γ1) : STw X Γ (.BoolOp .Or [a] pos) fa Γ1 := by
  obtain ⟨ta, pa, qa⟩ := ha
  exact ⟨_, pw_or1 pa, qa⟩
theorem sw_and {a b : Expr} {rest : List Expr} {pos : Pos} {fa fb : TF} (ha : STs X Γ a fa Γ1) (hb : STw X Γ1 (.BoolOp .And (b :: rest) pos) fb Γ2) (l : LeC Γ2 Γ1 = true := by rfl) : STw X Γ (.BoolOp .And (a :: b :: rest) pos) (tAndF fa fb) Γ2 := by
  obtain ⟨ta, pa, qa⟩ := ha.sub (leC_refl _)
  obtain ⟨tb, pb, qb⟩ := hb
  refine ⟨_, pw_and pa pb, fun B σ env F H b Q rr e k => ?_⟩
  obtain ⟨c, hx, e⟩ := Option.bind_eq_some_iff.mp e
  refine qa B σ env F H c _ rr hx fun F1 H1 s1 t1 r1 => ?_
  cases c with
  | true => exact qb B σ env F1 H1 b Q r1 (by simpa using e) fun F2 H2 s2 t2 r2 => k F2 H2 (s1.trans s2) (t1.trans t2) r2
  | false =>
    simp at e
    subst e
    obtain ⟨F2, u, r2⟩ := r1.down l
    exact k F2 H1 (s1.trans u) t1 r2
theorem sw_or {a b : Expr} {rest : List Expr} {pos : Pos} {fa fb : TF} (ha : STs X Γ a fa Γ1) (hb : STw X Γ1 (.BoolOp .Or (b :: rest) pos) fb Γ2) (l : LeC Γ2 Γ1 = true := by rfl) : STw X Γ (.BoolOp .Or (a :: b :: rest) pos) (tOrF fa fb) Γ2 := by
  obtain ⟨ta, pa, qa⟩ := ha
  obtain ⟨tb, pb, qb⟩ := hb
  refine ⟨_, pw_or pa pb, fun B σ env F H b Q rr e k => ?_⟩
  obtain ⟨c, hx, e⟩ := Option.bind_eq_some_iff.mp e
  refine qa B σ env F H c _ rr hx fun F1 H1 s1 t1 r1 => ?_
  cases c with
  | false => exact qb B σ env F1 H1 b Q r1 (by simpa using e) fun F2 H2 s2 t2 r2 => k F2 H2 (s1.trans s2) (t1.trans t2) r2
  | true =>
    simp at e
    subst e
    obtain ⟨F2, u, r2⟩ := r1.down l
    exact k F2 H1 (s1.trans u) t1 r2
def eAnd (fa fb : EF) : EF := fun env => (fa env).bind fun x => match x with | .bool true => fb env | .bool false => some (.bool false) | _ => none
theorem Bw.vbl {n : Nat} {b : Bool} {v : V} (h : Bw K F H n (.bool b) v) : v = .bl b := h.bo rfl
theorem se_one {op} {a : Expr} {pos : Pos} {fa : EF} {n : Nat} (ha : SE X Γ a fa n Γ1) : SE X Γ (.BoolOp op [a] pos) fa n Γ1 := by
  obtain ⟨ta, pa, qa⟩ := ha
  exact ⟨_, pe_one pa, qa⟩
theorem se_and {a b : Expr} {rest : List Expr} {pos : Pos} {fa fb : EF} (ha : SE X Γ a fa 0 Γ1) (hb : SE X Γ1 (.BoolOp .And (b :: rest) pos) fb 0 Γ2) (l : LeC Γ2 Γ1 = true := by rfl) : SE X Γ (.BoolOp .And (a :: b :: rest) pos) (eAnd fa fb) 0 Γ2 := by
  obtain ⟨ta, pa, qa⟩ := ha
  obtain ⟨tb, pb, qb⟩ := hb
  refine ⟨_, pe_and pa pb, fun B σ env F H d Q rr e k => ?_⟩
  obtain ⟨c, hx, e⟩ := Option.bind_eq_some_iff.mp e
  refine qa B σ env F H c _ rr hx fun v F1 H1 s1 t1 r1 => ?_
  split at e
  · have ev := r1.bw.vbl
    exact ⟨true, ev, qb B σ env F1 H1 d Q r1.rel e fun v F2 H2 s2 t2 r2 => k v F2 H2 (s1.trans s2) (t1.trans t2) r2⟩
  · have ev := r1.bw.vbl
    cases e
    obtain ⟨F2, u, r2⟩ := r1.rel.down l
    exact ⟨false, ev, k _ F2 H1 (s1.trans u) t1 (r2.t0 (.bl false))⟩
  · cases e
end
end Pf

set_option Elab.async false
set_option linter.all false
set_option maxRecDepth 100000
set_option maxHeartbeats 4000000
namespace Pf
open PySem L2
inductive Out where
  | nx (env : List D) | rt (d : D) | bk (env : List D) | ct (env : List D)
structure Lp where
  ρ : Nat
  bk : Ctx
  ct : Ctx
  /-- slots that are not written -/
  pin : List Nat
  /-- what is wished of an exception -/
  wx : WX := fun _ _ _ _ => True
def mkX (x : D) : D := .dict [(.bool true, x)]
def ExIs (K : PySem.W.Frag) (F : Hp) (c : Value) (dd : Option Addr) (x : D) : Prop :=
  ∃ (nm : Str) (C : Addr) (ks : List Str) (fs : List D), x = .tuple [.str nm, .list (ks.map .str), .list fs] ∧ PySem.W.nsIn K mainGlobals nm = some (some (.ref C)) ∧ c = .ref C ∧
    ((dd = none ∧ ks = [] ∧ fs = []) ∨ ∃ (a : Addr) (xs : List (Str × V)), dd = some a ∧ F a = some (.xd xs) ∧ xs.map (·.1) = ks ∧ RpAll K F (xs.map (·.2)) fs)
theorem noX {K : PySem.W.Frag} {F : Hp} {v : V} {x : D} (h : Rp K F v (mkX x)) : False := by
  unfold mkX at h
  cases h with
  | dic h1 h2 h3 =>
    rcases h2 with ⟨l, _, e, _⟩ | ⟨l, r, _, e, _⟩ | ⟨l, r, _, e, _⟩ | ⟨C, dx, fs, r, _, e, _⟩
    · match l, e with
      | ((.inl i), v) :: l, e => simp [kD] at e
      | ((.inr i), v) :: l, e => simp [kD] at e
    · simp at e
    · simp [nEnc] at e
    · simp at e
theorem noXo {K : PySem.W.Frag} {F H : Hp} {n : Nat} {v : V} {x : D} {g : Fp} (h : Own K F H n (mkX x) v g) : False := by
  cases n with
  | zero => exact noX h.1
  | succ n =>
    obtain ⟨b, o, vs, f2, ev, hb, hn, hk, q, hf⟩ := h
    rcases hk with ⟨l, _, e, _⟩ | ⟨l, r, _, e, _⟩ | ⟨l, r, _, e, _⟩ | ⟨C, dx, fs, r, _, e, _⟩
    · match l, e with
      | ((.inl i), v) :: l, e => simp [kD] at e
      | ((.inr i), v) :: l, e => simp [kD] at e
    · simp at e
    · simp [nEnc] at e
    · simp at e
def Kp (L : Lp) (σ : St) (env : List D) (σ' : St) (env' : List D) : Prop := ∀ i ∈ L.pin, σ'[i]? = σ[i]? ∧ env'[i]? = env[i]?
theorem Kp.refl {L : Lp} {σ : St} {env : List D} : Kp L σ env σ env := fun _ _ => ⟨rfl, rfl⟩
theorem Kp.trans {L : Lp} {σ σ1 σ2 : St} {env e1 e2 : List D} (h : Kp L σ env σ1 e1) (k : Kp L σ1 e1 σ2 e2) : Kp L σ env σ2 e2 := fun i hi => ⟨(k i hi).1.trans (h i hi).1, (k i hi).2.trans (h i hi).2⟩
theorem set_other {α : Type} {xs : List α} {i j : Nat} {x : α} (h : j ≠ i) : (xs.set i x)[j]? = xs[j]? := List.getElem?_set_ne fun e => h e.symm
theorem Kp.set {L : Lp} {σ : St} {env : List D} {i : Nat} {x : Option V} {d : D} (hi : i ∉ L.pin) : Kp L σ env (σ.set i x) (env.set i d) := fun j hj => by
  have : j ≠ i := fun e => hi (e ▸ hj)
  exact ⟨set_other this, set_other this⟩
theorem Kp.setE {L : Lp} {σ : St} {env : List D} {i : Nat} {d : D} (hi : i ∉ L.pin) : Kp L σ env σ (env.set i d) := fun j hj => by
  have : j ≠ i := fun e => hi (e ▸ hj)
  exact ⟨rfl, set_other this⟩
def PostS (K : PySem.W.Frag) (B : Bs) (L : Lp) (Γ' : Ctx) (F : Hp) (σ0 : St) (env0 : List D) (E : Ends) : Out → Prop
  | .nx env => ∀ σ F' H', Same F F' → Rel K B Γ' σ env F' H' → Kp L σ0 env0 σ env → E.nx σ H'
  | .rt d => (∀ v F' H', Same F F' → (∃ g, Own K F' H' L.ρ d v g ∧ Ok B F' H' g) → E.rt v H') ∧
    ∀ x, d = mkX x → ∀ c dd σ' F' H', Same F F' → Ok B F' H' (fun _ => 0) → ExIs K F' c dd x → L.wx c dd σ' H'
  | .bk env => ∀ σ F' H', Same F F' → Rel K B L.bk σ env F' H' → Kp L σ0 env0 σ env → E.bk σ H'
  | .ct env => ∀ σ F' H', Same F F' → Rel K B L.ct σ env F' H' → Kp L σ0 env0 σ env → E.ct σ H'
abbrev SF := List D → Option Out
def SS (X : Cx) (L : Lp) (Γ : Ctx) (st : Stmt) (f : SF) (Γ' : Ctx) : Prop :=
  ∃ t : TS, PS X st t ∧ ∀ (B : Bs) (σ : St) (env : List D) (F H : Hp) (o : Out) (E : Ends), Rel X.K B Γ σ env F H → f env = some o → PostS X.K B L Γ' F σ env E o → t E σ H
def SSs (X : Cx) (L : Lp) (Γ : Ctx) (sts : List Stmt) (f : SF) (Γ' : Ctx) : Prop :=
  ∃ t : TS, PSs X sts t ∧ ∀ (B : Bs) (σ : St) (env : List D) (F H : Hp) (o : Out) (E : Ends), Rel X.K B Γ σ env F H → f env = some o → PostS X.K B L Γ' F σ env E o → t E σ H
section
variable {X : Cx} {L : Lp} {Γ Γ1 Γ2 Γ' : Ctx} {K : PySem.W.Frag} {F F' H H' : Hp} {B : Bs}
theorem PostS.up {σ : St} {env0 : List D} {E : Ends} {o : Out} (e : Same F F') (h : PostS K B L Γ F σ env0 E o) : PostS K B L Γ F' σ env0 E o := by
  cases o with
  | nx env => exact fun σ F2 H2 s r kp => h σ F2 H2 (e.trans s) r kp
  | rt d => exact ⟨fun v F2 H2 s r => h.1 v F2 H2 (e.trans s) r, fun x ex c dd σ' F2 H2 s r => h.2 x ex c dd σ' F2 H2 (e.trans s) r⟩
  | bk env => exact fun σ F2 H2 s r kp => h σ F2 H2 (e.trans s) r kp
  | ct env => exact fun σ F2 H2 s r kp => h σ F2 H2 (e.trans s) r kp
theorem PostS.down {σ : St} {env0 : List D} {E : Ends} {o : Out} (l : LeC Γ' Γ = true) (h : PostS K B L Γ' F σ env0 E o) : PostS K B L Γ F σ env0 E o := by
  cases o with
  | nx env =>
    intro σ F2 H2 s r kp
    obtain ⟨F3, u, r3⟩ := r.down l
    exact h σ F3 H2 (s.trans u) r3 kp
  | rt d => exact h
  | bk env => exact h
  | ct env => exact h
theorem PostS.on {σ σ1 : St} {env0 env1 : List D} {E : Ends} {o : Out} (k : Kp L σ env0 σ1 env1) (h : PostS K B L Γ F σ env0 E o) : PostS K B L Γ F σ1 env1 E o := by
  cases o with
  | nx env => exact fun σ F2 H2 s r kp => h σ F2 H2 s r (k.trans kp)
  | rt d => exact h
  | bk env => exact fun σ F2 H2 s r kp => h σ F2 H2 s r (k.trans kp)
  | ct env => exact fun σ F2 H2 s r kp => h σ F2 H2 s r (k.trans kp)
theorem SSs.sub {sts : List Stmt} {f : SF} (h : SSs X L Γ sts f Γ1) (l : LeC Γ' Γ1 = true) : SSs X L Γ sts f Γ' := by
  obtain ⟨t, p, q⟩ := h
  exact ⟨t, p, fun B σ env F H o E r e k => q B σ env F H o E r e (k.down l)⟩
theorem SS.sub {sts : Stmt} {f : SF} (h : SS X L Γ sts f Γ1) (l : LeC Γ' Γ1 = true) : SS X L Γ sts f Γ' := by
  obtain ⟨t, p, q⟩ := h
  exact ⟨t, p, fun B σ env F H o E r e k => q B σ env F H o E r e (k.down l)⟩
def sSkip : SF := fun env => some (.nx env)
def sSeq (f g : SF) : SF := fun env => (f env).bind fun o => match o with | .nx env' => g env' | .rt d => some (.rt d) | .bk e => some (.bk e) | .ct e => some (.ct e)
theorem ss_nil : SSs X L Γ [] sSkip Γ := ⟨_, pss_nil, fun B σ env F H o E r e k => by
  cases e
  exact k σ F H (Same.refl _) r .refl⟩
theorem ss_one {st : Stmt} {f : SF} (h : SS X L Γ st f Γ') : SSs X L Γ [st] f Γ' := by
  obtain ⟨t, p, q⟩ := h
  exact ⟨t, pss_one p, q⟩
theorem ss_cons {st : Stmt} {rest : List Stmt} {f g : SF} (h : SS X L Γ st f Γ1) (hr : SSs X L Γ1 rest g Γ') : SSs X L Γ (st :: rest) (sSeq f g) Γ' := by
  obtain ⟨t, p, q⟩ := h
  obtain ⟨t2, p2, q2⟩ := hr
  refine ⟨_, pss_cons p p2, fun B σ env F H o E r e k => ?_⟩
  obtain ⟨o1, h1, e⟩ := Option.bind_eq_some_iff.mp e
  refine q B σ env F H o1 _ r h1 ?_
  cases o1 with
  | nx env' => exact fun σ2 F2 H2 s r2 kp => q2 B σ2 env' F2 H2 o E r2 e ((k.up s).on kp)
  | rt d => cases e; exact k
  | bk e' => cases e; exact fun v F2 H2 s r2 => k v F2 H2 s r2
  | ct e' => cases e; exact fun v F2 H2 s r2 => k v F2 H2 s r2
def sRet (f : EF) : SF := fun env => (f env).bind fun d => some (.rt d)
theorem ss_ret {e : Expr} {f : EF} {n : Nat} {pos : Pos} (h : SE X Γ e f n Γ1) (hn : L.ρ ≤ n := by exact Nat.le_refl _) : SS X L Γ (.Return (some e) pos) (sRet f) Γ' := by
  obtain ⟨t, p, q⟩ := h.sub (leC_refl _) hn
  refine ⟨_, ps_ret p, fun B σ env F H o E r e k => ?_⟩
  obtain ⟨d, hd, e⟩ := Option.bind_eq_some_iff.mp e
  cases e
  refine q B σ env F H d _ r hd fun v F2 H2 s1 _ r2 => k.1 v F2 H2 s1 ?_
  obtain ⟨f, g, s, ow, ok⟩ := r2
  exact ⟨g, ow, ok.less fun a => by show g a ≤ g a + f a; omega⟩
def sIf (c : TF) (f g : SF) : SF := fun env => (c env).bind fun b => if b = true then f env else g env
theorem ss_if {c : Expr} {a b : List Stmt} {pos : Pos} {fc : TF} {f g : SF} (hc : STs X Γ c fc Γ1) (ha : SSs X L Γ1 a f Γ') (hb : SSs X L Γ1 b g Γ') : SS X L Γ (.If c a b pos) (sIf fc f g) Γ' := by
  obtain ⟨tc, pc, qc⟩ := hc
  obtain ⟨ta, pa, qa⟩ := ha
  obtain ⟨tb, pb, qb⟩ := hb
  refine ⟨_, ps_if pc pa pb, fun B σ env F H o E r e k => ?_⟩
  obtain ⟨b, hx, e⟩ := Option.bind_eq_some_iff.mp e
  refine qc B σ env F H b _ r hx fun F1 H1 s1 t1 r1 => ?_
  cases b with
  | true => exact qa B σ env F1 H1 o E r1 (by simpa using e) (k.up s1)
  | false => exact qb B σ env F1 H1 o E r1 (by simpa using e) (k.up s1)

theorem RelT.put {σ : St} {env : List D} {n i : Nat} {d : D} {v : V} (r : RelT K B Γ σ env F H n d v) (hi : i < Γ.length) : Rel K B (Γ.set i (some n)) (σ.set i (some v)) (env.set i d) F H := by
  obtain ⟨f, g, s, o, k⟩ := r
  obtain ⟨f2, l, q⟩ := s.put hi o
  exact ⟨f2, q, k.less l⟩
def sSet (i : Nat) (f : EF) : SF := fun env => (f env).bind fun d => some (.nx (env.set i d))
theorem ss_set (i : Nat) {x : Str} {e : Expr} {f : EF} {n : Nat} {pos pos' : Pos} (h : SE X Γ e f n Γ1) (hN : X.N.Nodup) (hpin : i ∉ L.pin := by first | decide | simp) (hl : i < Γ1.length := by decide) (hi : X.N[i]? = some x := by rfl) (hx : Loc X.env.scope x := by first | exact .inl rfl | exact .inr rfl) (hs : swapsWith e (some (.Name x pos')) pos.line X.env = pure false := by rfl)
    (hf : X.fn x = true ∨ X.env.scope.names.lookup x = some .local := by first | exact .inl rfl | exact .inr rfl) : SS X L Γ (.Assign [.Name x pos'] e pos) (sSet i f) (Γ1.set i (some n)) := by
  obtain ⟨t, p, q⟩ := h
  refine ⟨_, ps_set hN hi hx p hs hf, fun B σ env F H o E r e k => ?_⟩
  obtain ⟨d, hd, e⟩ := Option.bind_eq_some_iff.mp e
  cases e
  exact q B σ env F H d _ r hd fun v F2 H2 s1 _ r2 => k _ F2 H2 s1 (r2.put hl) (.set hpin)
def GOk (g : D → List D → Option (List D)) (ws : List Nat) : Prop := ∀ d env env', g d env = some env' → env'.length = env.length ∧ ∀ j, j ∉ ws → env'[j]? = env[j]?
def GsOk (g : List D → List D → Option (List D)) (ws : List Nat) : Prop := ∀ d env env', g d env = some env' → env'.length = env.length ∧ ∀ j, j ∉ ws → env'[j]? = env[j]?
def SG (X : Cx) (Γ : Ctx) (tg : Expr) (g : D → List D → Option (List D)) (ws : List Nat) (Γ' : Ctx) : Prop :=
  GOk g ws ∧ ∃ t : TG, PG X tg t ∧ ∀ (B : Bs) (σ : St) (env env' : List D) (F H : Hp) (d : D) (v : V) (Q : St → Hp → Prop), Rel X.K B Γ σ env F H → Rp X.K F v d → g d env = some env' →
    (∀ σ', Rel X.K B Γ' σ' env' F H → σ'.length = σ.length → (∀ j, j ∉ ws → σ'[j]? = σ[j]?) → Q σ' H) → t v σ H Q
def SGs (X : Cx) (Γ : Ctx) (tgs : List Expr) (g : List D → List D → Option (List D)) (ws : List Nat) (Γ' : Ctx) : Prop :=
  GsOk g ws ∧ ∃ t : TGs, PGs X tgs t ∧ ∀ (B : Bs) (σ : St) (env env' : List D) (F H : Hp) (ds : List D) (vs : List V) (Q : St → Hp → Prop), Rel X.K B Γ σ env F H → RpAll X.K F vs ds → g ds env = some env' →
    (∀ σ', Rel X.K B Γ' σ' env' F H → σ'.length = σ.length → (∀ j, j ∉ ws → σ'[j]? = σ[j]?) → Q σ' H) → t vs σ H Q
def gN (i : Nat) : D → List D → Option (List D) := fun d env => some (env.set i d)
theorem sg_name (i : Nat) {x : Str} {pos : Pos} (hN : X.N.Nodup) (hl : i < Γ.length := by decide) (hi : X.N[i]? = some x := by rfl) (hx : Loc X.env.scope x := by first | exact .inl rfl | exact .inr rfl)
    (hf : X.fn x = true ∨ X.env.scope.names.lookup x = some .local := by first | exact .inl rfl | exact .inr rfl) : SG X Γ (.Name x pos) (gN i) [i] (Γ.set i (some 0)) :=
  ⟨(fun d env env' e => by
    cases e
    refine ⟨by simp, fun j hj => ?_⟩
    rw [List.getElem?_set_ne]
    intro c
    exact hj (by simp [c])), _, pg_name hN hi hx hf, fun B σ env env' F H d v Q r h e k => by
    cases e
    refine k _ ((r.t0 h).put hl) (by simp) (fun j hj => ?_)
    rw [List.getElem?_set_ne]
    intro c
    exact hj (by simp [c])⟩
def gEmp : List D → List D → Option (List D) := fun ds env => match ds with | [] => some env | _ => none
def gMore (g : D → List D → Option (List D)) (gs : List D → List D → Option (List D)) : List D → List D → Option (List D) := fun ds env => match ds with | d :: ds => (g d env).bind fun env' => gs ds env' | [] => none
def gTpl (gs : List D → List D → Option (List D)) (n : Nat) : D → List D → Option (List D) := fun d env => match d with | .tuple ds => if ds.length = n then gs ds env else none | _ => none
theorem sgs_nil : SGs X Γ [] gEmp [] Γ := ⟨(fun d env env' e => by
    cases d with
    | nil => cases e; exact ⟨rfl, fun _ _ => rfl⟩
    | cons _ _ => cases e), _, pgs_nil, fun B σ env env' F H ds vs Q r h e k => by
  cases h with
  | nil => cases e; exact ⟨rfl, k _ r rfl fun _ _ => rfl⟩
  | cons a b => cases e⟩
theorem sgs_cons {e : Expr} {es : List Expr} {g : D → List D → Option (List D)} {gs : List D → List D → Option (List D)} {ws vs : List Nat} (h1 : SG X Γ e g ws Γ1) (h2 : SGs X Γ1 es gs vs Γ2) (hs : (assignEach (e :: es) X.env).map (·.2) = assign e X.env :: (assignEach es X.env).map (·.2) := by rfl) : SGs X Γ (e :: es) (gMore g gs) (ws ++ vs) Γ2 := by
  obtain ⟨ok1, t, p, q⟩ := h1
  obtain ⟨ok2, t2, p2, q2⟩ := h2
  refine ⟨fun d env env' e => ?_, _, pgs_cons p p2 hs, fun B σ env env' F H ds us Q r h e k => ?_⟩
  · cases d with
    | nil => cases e
    | cons d ds =>
      obtain ⟨env1, h1, e⟩ := Option.bind_eq_some_iff.mp e
      obtain ⟨a1, a2⟩ := ok1 _ _ _ h1
      obtain ⟨b1, b2⟩ := ok2 _ _ _ e
      exact ⟨b1.trans a1, fun j hj => (b2 j fun c => hj (List.mem_append_right _ c)).trans (a2 j fun c => hj (List.mem_append_left _ c))⟩
  cases h with
  | nil => cases e
  | cons a b =>
    obtain ⟨env1, h1, e⟩ := Option.bind_eq_some_iff.mp e
    exact ⟨_, _, rfl, q B σ env env1 F H _ _ _ r a h1 fun σ1 r1 l1 j1 => q2 B σ1 env1 env' F H _ _ _ r1 b e fun σ2 r2 l2 j2 => k σ2 r2 (l2.trans l1) fun j hj => (j2 j fun c => hj (List.mem_append_right _ c)).trans (j1 j fun c => hj (List.mem_append_left _ c))⟩
theorem sg_tup {es : List Expr} {k : Nat} {pos : Pos} {gs : List D → List D → Option (List D)} {n : Nat} {ws : List Nat} (hc : X.calm = true) (h : SGs X Γ es gs ws Γ') (hn : (assignEach es X.env).length = n := by rfl) (hst : (assignEach es X.env).findIdx? (·.1) = none := by rfl) : SG X Γ (.Tuple es k pos) (gTpl gs n) ws Γ' := by
  obtain ⟨okg, t, p, q⟩ := h
  refine ⟨fun d env env' e => ?_, _, pg_tup hc p hn hst, fun B σ env env' F H d v Q r h e k => ?_⟩
  · cases d with
    | tuple ds =>
      simp only [gTpl] at e
      split at e
      · exact okg _ _ _ e
      · cases e
    | _ => cases e
  cases h with
  | tup s ra =>
    simp only [gTpl] at e
    split at e
    · rename_i c
      exact ⟨_, _, rfl, SqT.of (r.fh _ _ s), ra.length.trans c, q B σ env env' F H _ _ _ r ra e k⟩
    · cases e
  | _ => cases e
def sAsg (g : D → List D → Option (List D)) (f : EF) : SF := fun env => (f env).bind fun d => (g d env).bind fun env' => some (.nx env')
theorem ss_asg {tg e : Expr} {g : D → List D → Option (List D)} {f : EF} {pos : Pos} {ws : List Nat} (h : SE X Γ e f 0 Γ1) (hg : SG X Γ1 tg g ws Γ') (hpin : ∀ j ∈ L.pin, j ∉ ws := by first | decide | simp) (hs : swapsWithSole [tg] e pos.line X.env = pure false := by rfl) (hw : swappedStores [tg] e X.env = pure none := by rfl) (h1 : (assignEach [tg] X.env).map (·.2) = [assign tg X.env] := by rfl) : SS X L Γ (.Assign [tg] e pos) (sAsg g f) Γ' := by
  obtain ⟨t, p, q⟩ := h
  obtain ⟨gk, t2, p2, q2⟩ := hg
  refine ⟨_, ps_asg p p2 hs hw h1, fun B σ env F H o E r e k => ?_⟩
  obtain ⟨d, hd, e⟩ := Option.bind_eq_some_iff.mp e
  obtain ⟨env', he, e⟩ := Option.bind_eq_some_iff.mp e
  cases e
  refine q B σ env F H d _ r hd fun v F2 H2 s1 _ r2 => ?_
  exact q2 B σ env env' F2 H2 d v _ r2.rel r2.bw he fun σ' r3 _ hj => k σ' F2 H2 s1 r3 fun j hp => ⟨hj j (hpin j hp), (gk _ _ _ he).2 j (hpin j hp)⟩

theorem BwAll.app {P : D → V → Prop} {d : D} {v : V} (h : P d v) : ∀ {ds : List D} {vs : List V}, BwAll P ds vs → BwAll P (ds ++ [d]) (vs ++ [v])
  | [], [], _ => ⟨h, trivial⟩
  | _ :: _, _ :: _, ⟨a, b⟩ => ⟨a, b.app h⟩
  | [], _ :: _, h => h.elim
  | _ :: _, [], h => h.elim
theorem OwnAll.app {P : D → V → Fp → Prop} {d : D} {v : V} {g : Fp} (h : P d v g) : ∀ {ds : List D} {vs : List V} {f : Fp}, OwnAll P ds vs f → OwnAll P (ds ++ [d]) (vs ++ [v]) (fun a => f a + g a)
  | [], [], f, q => ⟨g, fun _ => 0, h, fun _ => rfl, fun a => by have := q a; show f a + g a = g a + 0; omega⟩
  | _ :: _, _ :: _, f, ⟨f1, f2, a, b, e⟩ => ⟨f1, _, a, b.app h, fun x => by have := e x; show f x + g x = f1 x + (f2 x + g x); omega⟩
  | [], _ :: _, _, h => h.elim
  | _ :: _, [], _, h => h.elim
theorem own_list {n : Nat} {d : D} {v : V} {f : Fp} {ds : List D} (h : Own K F H (n + 1) d v f) (e : d = .list ds) : ∃ a vs f2, v = .ref a ∧ H a = some (.lst vs) ∧ F a = none ∧ OwnAll (Own K F H n) ds vs f2 ∧ ∀ b, f b = (if b = a then 1 else 0) + f2 b := by
  subst e
  exact h
def sApp (i : Nat) (f : EF) : SF := fun env => (f env).bind fun d => (env[i]?).bind fun x => match x with | .list ds => if ds.length < 16777216 then some (.nx (env.set i (.list (ds ++ [d])))) else none | _ => none
theorem szLt {n : Nat} (h : n < 16777216) : n < sizeLine := by rw [sizeLine_eq]; exact h
theorem Ok.write {f : Fp} {a : Addr} {o u : HO} (k : Ok B F H f) (ha : 0 < f a) (hF : F a = none) (hu : H a = some u := by assumption) (n1 : NT u := by first | assumption | (intro ps z; cases z; done) | (intro ps z; unfold LamX.CodeO at z; cases z; done) | exact DicO.nt (by assumption) | exact DicO.nc (by assumption) | exact fun _ => dn_nc | (intro ps z; unfold DN at z; cases z; done) | fail) (n2 : ∀ q, u ≠ LamX.CodeO a q := by first | assumption | (intro ps z; cases z; done) | (intro ps z; unfold LamX.CodeO at z; cases z; done) | exact DicO.nt (by assumption) | exact DicO.nc (by assumption) | exact fun _ => dn_nc | (intro ps z; unfold DN at z; cases z; done) | fail) : Ok B F (upd H a o) f :=
  ⟨⟨k.fh.toSame.put hF hu n1 n2, tb_put k.fh.th hu n1 n2⟩, k.h0.put (k.fr a ha) hu n1 n2, k.f0, k.fn, k.one, k.fr⟩
theorem ss_append (i : Nat) {x : Str} {xpos apos cpos pos : Pos} {e : Expr} {f : EF} {n m : Nat} (hi : Γ1[i]? = some (some (n + 1))) (h : SE X Γ e f m Γ1) (hm : n ≤ m := by exact Nat.le_refl _) (hx : PE X (.Name x xpos) (tVar i)) (hi0 : Γ[i]? = some (some (n + 1)))
        (hp : ∀ ta, PA X [e] ta → PE X (.Call (.Attribute (.Name x xpos) "append" apos) [e] [] cpos) (tBM X.K "list" rAppend (tVar i) ta)) (he : starEach [e] X.env = (false, eval e X.env) :: starEach [] X.env := by rfl)
    (hs : swapsWith (.Call (.Attribute (.Name x xpos) "append" apos) [e] [] cpos) none pos.line X.env = pure false := by rfl) (hpin : i ∉ L.pin := by first | decide | simp) :
    SS X L Γ (.Expr (.Call (.Attribute (.Name x xpos) "append" apos) [e] [] cpos) pos) (sApp i f) Γ1 := by
  obtain ⟨te, p, q⟩ := h.sub (leC_refl _) hm
  refine ⟨_, ps_expr (hp _ (pa_cons p pa_nil he)) hs, fun B σ env F H o E r e k => ?_⟩
  obtain ⟨d, hd, e⟩ := Option.bind_eq_some_iff.mp e
  obtain ⟨x', hx', e⟩ := Option.bind_eq_some_iff.mp e
  cases x' with
  | list ds =>
    simp only at e
    split at e
    · rename_i hz
      cases e
      obtain ⟨v0, d0, s1, e1, b1, _⟩ := r.slot hi0
      rw [hx'] at e1
      cases e1
      obtain ⟨a0, vs0, rfl, ha0, _⟩ := (show ∃ a vs, v0 = .ref a ∧ H a = some (.lst vs) ∧ BwAll (Bw X.K F H n) ds vs from b1)
      refine ⟨_, s1, .inl ⟨rfl, _, .inl (.inl ha0)⟩, ?_⟩
      refine q B σ env F H d _ r hd fun v F2 H2 s2 t2 r2 => ?_
      obtain ⟨f2, g, sl, ow, ok⟩ := r2
      obtain ⟨v1, d1, f3, f4, h1, h2, h3, h4, h5⟩ := sl.focus hi
      rw [hx'] at h2
      cases h2
      rw [s1] at h1
      cases h1
      obtain ⟨a, vs, f6, ea, hl, hF, oa, hf⟩ := own_list h3 rfl
      cases ea
      have hlen : vs.length = ds.length := oa.length
      refine ⟨a0, vs, v, rfl, rfl, hl, by rw [hlen]; exact szLt hz, ?_⟩
      have ha : f3 a0 = 1 + f6 a0 := by have := hf a0; simpa using this
      have one := ok.one a0
      have one' : g a0 + f2 a0 ≤ 1 := one
      have z4 := h4 a0
      have zg : g a0 = 0 := by omega
      have z4' : f4 a0 = 0 := by omega
      have z6 : f6 a0 = 0 := by omega
      have hF2 : F2 a0 = none := hF
      have up : ∀ (b : Addr), b ≠ a0 → upd H2 a0 (.lst (vs ++ [v])) b = H2 b := fun b hb => upd_ne hb
      have ow' : Own X.K F2 (upd H2 a0 (.lst (vs ++ [v]))) n d v g := ow.mono (Same.refl _) n fun b hb => ⟨rfl, up b fun c => by subst c; omega⟩
      have oa' : OwnAll (Own X.K F2 (upd H2 a0 (.lst (vs ++ [v]))) n) ds vs f6 := OwnAll.imp f6 (fun d v f hf6 o => o.mono (Same.refl _) n fun b hb => ⟨rfl, up b fun c => by subst c; have := hf6 b; omega⟩) (fun _ => Nat.le_refl _) oa
      have new : Own X.K F2 (upd H2 a0 (.lst (vs ++ [v]))) (n + 1) (.list (ds ++ [d])) (.ref a0) (fun b => f3 b + g b) := ⟨a0, vs ++ [v], fun b => f6 b + g b, rfl, upd_same, hF, oa'.app ow', fun b => by have := hf b; show f3 b + g b = _ + (f6 b + g b); omega⟩
      have sl' := ((h5 F2 (upd H2 a0 (.lst (vs ++ [v]))) (Same.refl _) (fun b hb => ⟨rfl, up b fun c => by subst c; omega⟩)).2 (.ref a0) (.list (ds ++ [d]))).2 (n + 1) _ new
      have eσ : σ.set i (some (.ref a0)) = σ := by
        apply List.ext_getElem?
        intro j
        by_cases c : i = j
        · subst c
          rw [List.getElem?_set_self (List.getElem?_eq_some_iff.mp s1).1, s1]
        · rw [List.getElem?_set_ne c]
      have eΓ : Γ1.set i (some (n + 1)) = Γ1 := by
        apply List.ext_getElem?
        intro j
        by_cases c : i = j
        · subst c
          rw [List.getElem?_set_self (List.getElem?_eq_some_iff.mp hi).1, hi]
        · rw [List.getElem?_set_ne c]
      rw [eσ, eΓ] at sl'
      refine k σ F2 _ s2 ⟨_, sl', ?_⟩ (.setE hpin)
      have okw : Ok B F2 (upd H2 a0 (.lst (vs ++ [v]))) (fun a => g a + f2 a) := ok.write (show 0 < g a0 + f2 a0 by omega) hF
      exact okw.less fun b => by have := h4 b; show f3 b + g b + f4 b ≤ g b + f2 b; omega
    · cases e
  | none => cases e
  | bool _ => cases e
  | int _ => cases e
  | str _ => cases e
  | tuple _ => cases e
  | dict _ => cases e

structure ItOk (K : PySem.W.Frag) (F : Hp) (J : It) (ds : List D) : Prop where
  go : ∀ i F1 H, Same F F1 → Sub F1 H → i < ds.length → J.go i H
  yld : ∀ i F1 H x H', Same F F1 → Sub F1 H → J.yld i H x H' → ∀ d, ds[i]? = some d → ∃ F2, Got K F1 H F2 H' 0 d x
  stop : ∀ i F1 H, Same F F1 → Sub F1 H → ds.length ≤ i → J.stop i H
def SI (X : Cx) (Γ : Ctx) (tg iter : Expr) (f : AF) (Γ' : Ctx) : Prop :=
  ∃ wi : TI, PI X tg iter wi ∧ ∀ (B : Bs) (σ : St) (env : List D) (F H : Hp) (ds : List D) (R : It → Hp → Prop), Rel X.K B Γ σ env F H → f env = some ds →
    (∀ J F' H', Same F F' → Same H H' → Rel X.K B Γ' σ env F' H' → ItOk X.K F' J ds → R J H') → wi σ H R
def sFor (g : D → List D → Option (List D)) (body : SF) : List D → SF
  | [] => fun env => some (.nx env)
  | d :: ds => fun env => (g d env).bind fun env1 => (body env1).bind fun o => match o with
    | .nx e => sFor g body ds e
    | .ct e => sFor g body ds e
    | .bk e => some (.nx e)
    | .rt d => some (.rt d)
def sForE (f : AF) (g : D → List D → Option (List D)) (body : SF) : SF := fun env => (f env).bind fun ds => sFor g body ds env
theorem drop_get {α : Type} {xs : List α} {i : Nat} {x : α} (h : xs[i]? = some x) : xs.drop i = x :: xs.drop (i + 1) := by
  obtain ⟨h1, h2⟩ := List.getElem?_eq_some_iff.mp h
  rw [List.drop_eq_getElem_cons h1, h2]
theorem ss_for (Γl : Ctx) {tg iter : Expr} {body : List Stmt} {pos : Pos} {f : AF} {g : D → List D → Option (List D)} {b : SF} {ws : List Nat} (hp : PassesOwn (model X.prog X.w) X.A X.env X.xe) (hc : X.calm = true) (hi : SI X Γ tg iter f Γ1) (l : LeC Γl Γ1 = true) (hg : SG X Γl tg g ws Γ2)
    (hb : SSs X ⟨L.ρ, Γl, Γl, L.pin, L.wx⟩ Γ2 body b Γl) (hpin : ∀ j ∈ L.pin, j ∉ ws := by first | decide | simp) (hs : ∀ x, foldedSetIterable iter X.env x = pure x := by intro _; rfl) : SS X L Γ (.For tg iter body [] pos) (sForE f g b) Γl := by
  obtain ⟨wi, pi, qi⟩ := hi
  obtain ⟨gk, tg', pg, qg⟩ := hg
  obtain ⟨tb, pb, qb⟩ := hb
  refine ⟨_, ps_for hp hc pi pg pb hs, fun B σ env F H o E r e k => ?_⟩
  obtain ⟨ds, hds, e⟩ := Option.bind_eq_some_iff.mp e
  refine qi B σ env F H ds _ r hds fun J F1 H1 s1 t1 r1 it => ?_
  obtain ⟨F2, u, r2⟩ := r1.down l
  refine ⟨fun i m σ' H => m = ds.length - i ∧ i ≤ ds.length ∧ ∃ env' F3, Same F1 F3 ∧ Rel X.K B Γl σ' env' F3 H ∧ Kp L σ env σ' env' ∧ sFor g b (ds.drop i) env' = some o, ⟨_, rfl, Nat.zero_le _, env, F2, u, r2, .refl, by simpa using e⟩, ?_⟩
  rintro i m σ3 H3 ⟨rfl, hi, env3, F3, u3, r3, kp3, e3⟩
  by_cases hlt : i < ds.length
  · refine .inr ⟨it.go i F3 H3 u3 r3.fh hlt, fun σ' H' => i + 1 ≤ ds.length ∧ ∃ env' F3, Same F1 F3 ∧ Rel X.K B Γl σ' env' F3 H' ∧ Kp L σ env σ' env' ∧ sFor g b (ds.drop (i + 1)) env' = some o, fun σ' H' ⟨h1, h2⟩ => ⟨_, by omega, rfl, h1, h2⟩, fun x H4 hy => ?_⟩
    have hd : ds[i]? = some ds[i] := List.getElem?_eq_getElem hlt
    obtain ⟨F4, got⟩ := it.yld i F3 H3 x H4 u3 r3.fh hy _ hd
    obtain ⟨s4, t4, r4⟩ := r3.got got
    rw [drop_get hd] at e3
    obtain ⟨env1, he1, e3⟩ := Option.bind_eq_some_iff.mp e3
    obtain ⟨o1, ho1, e3⟩ := Option.bind_eq_some_iff.mp e3
    refine qg B σ3 env3 env1 F4 H4 _ x _ r4.rel r4.bw he1 fun σ5 r5 _ hj => ?_
    have kp5 : Kp L σ env σ5 env1 := kp3.trans fun j hp => ⟨hj j (hpin j hp), (gk _ _ _ he1).2 j (hpin j hp)⟩
    refine qb B σ5 env1 F4 H4 o1 _ r5 ho1 ?_
    cases o1 with
    | nx e' => exact fun σ6 F6 H6 s6 r6 kp6 => ⟨hlt, e', F6, (u3.trans s4).trans s6, r6, kp5.trans kp6, e3⟩
    | ct e' => exact fun σ6 F6 H6 s6 r6 kp6 => ⟨hlt, e', F6, (u3.trans s4).trans s6, r6, kp5.trans kp6, e3⟩
    | bk e' => cases e3; exact fun σ6 F6 H6 s6 r6 kp6 => k σ6 F6 H6 (((s1.trans u3).trans s4).trans s6) r6 (kp5.trans kp6)
    | rt d => cases e3; exact ⟨fun v F6 H6 s6 r6 => k.1 v F6 H6 (((s1.trans u3).trans s4).trans s6) r6, fun x ex c dd σ' F6 H6 s6 r6 => k.2 x ex c dd σ' F6 H6 (((s1.trans u3).trans s4).trans s6) r6⟩
  · have : i = ds.length := by omega
    subst this
    refine .inl ⟨it.stop _ F3 H3 u3 r3.fh (Nat.le_refl _), ?_⟩
    rw [List.drop_length] at e3
    cases e3
    exact k σ3 F3 H3 (s1.trans u3) r3 kp3
def sWh (c : TF) (body : SF) : Nat → SF
  | 0 => fun _ => none
  | n + 1 => fun env => (c env).bind fun b => if b = true then (body env).bind fun o => match o with
      | .nx e => sWh c body n e
      | .ct e => sWh c body n e
      | .bk e => some (.nx e)
      | .rt d => some (.rt d)
    else some (.nx env)
open Classical in
noncomputable def sWhile (c : TF) (body : SF) : SF := fun env => if h : ∃ o n, sWh c body n env = some o then some h.choose else none
theorem sWh_more {c : TF} {body : SF} : ∀ (n : Nat) {env : List D} {o : Out}, sWh c body n env = some o → ∀ m, n ≤ m → sWh c body m env = some o
  | n + 1, env, o, h, m + 1, hm => by
    simp only [sWh] at h ⊢
    obtain ⟨b, hb, h⟩ := Option.bind_eq_some_iff.mp h
    rw [hb]
    simp only [Option.bind_some] at h ⊢
    split at h
    · rename_i c1
      rw [if_pos c1]
      obtain ⟨o1, ho, h⟩ := Option.bind_eq_some_iff.mp h
      rw [ho]
      simp only [Option.bind_some]
      cases o1 with
      | nx e => exact sWh_more n h m (by omega)
      | ct e => exact sWh_more n h m (by omega)
      | bk e => exact h
      | rt d => exact h
    · rename_i c1
      rw [if_neg c1]
      exact h
  | _ + 1, _, _, _, 0, hm => by omega
theorem sWhile_eq {c : TF} {body : SF} {n : Nat} {env : List D} {o : Out} (h : sWh c body n env = some o) : sWhile c body env = some o := by
  have ex : ∃ o n, sWh c body n env = some o := ⟨o, n, h⟩
  unfold sWhile
  rw [dif_pos ex]
  obtain ⟨m, hm⟩ := ex.choose_spec
  have h1 := sWh_more m hm (max m n) (by omega)
  have h2 := sWh_more n h (max m n) (by omega)
  rw [h1] at h2
  exact h2
theorem sWhile_run {c : TF} {body : SF} {env : List D} {o : Out} (h : sWhile c body env = some o) : ∃ n, sWh c body n env = some o := by
  unfold sWhile at h
  split at h
  · rename_i ex
    cases h
    exact ex.choose_spec
  · cases h
theorem ss_while (Γl : Ctx) {c : Expr} {body : List Stmt} {pos : Pos} {fc : TF} {b : SF} (hp : PassesOwn (model X.prog X.w) X.A X.env X.xe) (l : LeC Γl Γ = true) (hc : STs X Γl c fc Γ2) (hb : SSs X ⟨L.ρ, Γ', Γl, L.pin, L.wx⟩ Γ2 body b Γl) (l2 : LeC Γ' Γ2 = true) : SS X L Γ (.While c body [] pos) (sWhile fc b) Γ' := by
  obtain ⟨tc, pc, qc⟩ := hc
  obtain ⟨tb, pb, qb⟩ := hb
  refine ⟨_, ps_while hp pc pb, fun B σ env F H o E r e k => ?_⟩
  obtain ⟨n, e⟩ := sWhile_run e
  obtain ⟨F2, u, r2⟩ := r.down l
  refine ⟨fun m σ' H => ∃ env' F3, Same F F3 ∧ Rel X.K B Γl σ' env' F3 H ∧ Kp L σ env σ' env' ∧ sWh fc b m env' = some o, ⟨n, env, F2, u, r2, .refl, e⟩, ?_⟩
  rintro m σ3 H3 ⟨env3, F3, u3, r3, kp3, e3⟩
  cases m with
  | zero => cases e3
  | succ m =>
    obtain ⟨bb, hb, e3⟩ := Option.bind_eq_some_iff.mp e3
    refine qc B σ3 env3 F3 H3 bb _ r3 hb fun F4 H4 s4 t4 r4 => ?_
    cases bb with
    | true =>
      rw [if_pos rfl] at e3 ⊢
      obtain ⟨o1, ho1, e3⟩ := Option.bind_eq_some_iff.mp e3
      refine ⟨fun σ' H => ∃ env' F3, Same F F3 ∧ Rel X.K B Γl σ' env' F3 H ∧ Kp L σ env σ' env' ∧ sWh fc b m env' = some o, fun σ' H' h => ⟨m, Nat.lt_succ_self _, h⟩, ?_⟩
      refine qb B σ3 env3 F4 H4 o1 _ r4 ho1 ?_
      cases o1 with
      | nx e' => exact fun σ6 F6 H6 s6 r6 kp6 => ⟨e', F6, (u3.trans s4).trans s6, r6, kp3.trans kp6, e3⟩
      | ct e' => exact fun σ6 F6 H6 s6 r6 kp6 => ⟨e', F6, (u3.trans s4).trans s6, r6, kp3.trans kp6, e3⟩
      | bk e' => cases e3; exact fun σ6 F6 H6 s6 r6 kp6 => k σ6 F6 H6 ((u3.trans s4).trans s6) r6 (kp3.trans kp6)
      | rt d => cases e3; exact ⟨fun v F6 H6 s6 r6 => k.1 v F6 H6 ((u3.trans s4).trans s6) r6, fun x ex c dd σ' F6 H6 s6 r6 => k.2 x ex c dd σ' F6 H6 ((u3.trans s4).trans s6) r6⟩
    | false =>
      rw [if_neg (by decide)] at e3 ⊢
      cases e3
      obtain ⟨F5, u5, r5⟩ := r4.down l2
      exact k σ3 F5 H4 ((u3.trans s4).trans u5) r5 kp3

def runF (ρ m N : Nat) (b : SF) : List D → Option D := fun ds => if ds.length = m then (b (ds ++ List.replicate (N - m) .none)).bind fun o => match o with | .rt d => some d | .nx _ => if ρ = 0 then some .none else none | _ => none else none
def ctx0 (m N : Nat) : Ctx := List.replicate m (some 0) ++ List.replicate (N - m) none
theorem slots0 : ∀ (n : Nat), Slots K F H (List.replicate n none) (List.replicate n none) (List.replicate n .none) (fun _ => 0)
  | 0 => fun _ => rfl
  | n + 1 => slots0 n
theorem slots_start (n : Nat) : ∀ {vs : List V} {ds : List D}, RpAll K F vs ds → Slots K F H (List.replicate ds.length (some 0) ++ List.replicate n none) (vs.map some ++ List.replicate n none) (ds ++ List.replicate n .none) (fun _ => 0)
  | _, _, .nil => slots0 n
  | _, _, .cons a b => ⟨_, fun _ => 0, fun _ => 0, rfl, ⟨a, fun _ => rfl⟩, slots_start n b, fun _ => rfl⟩
theorem fn_pure {P : Program} {w : World} {mg : Str → Option Value} {base : Heap} {x qual : Str} {st : Stmt} {f : Addr} {fd : FuncData} {N ps : List Str} {k ρ m : Nat} {b : SF} {Γ' : Ctx}
    (G : Fun K x qual st f fd) (S : FnScope N ps (defScope st)) (hm : ps.length = m := by rfl)
    (hb : ∀ (cdv : Value) (A : Around) (outer : List Env) (s : Shared) (H : Hp) (E : XK), Room k (A.deeper (PyProof.Rows.envOfC qual (defScope st) s.heap.objs.size f cdv)) →
      SSs (cxOf CX0 P w K mg base N qual (defScope st) f cdv A outer s H E).nox ⟨ρ, [], [], [], fun _ _ _ _ => True⟩ (ctx0 m N.length) (defBody st) b Γ') :
    FnOk P w K mg base CX0 (k + 1) f fd ps (Pure K m ρ (runF ρ m N.length b)) := by
  refine G.ok S (fun vs H Q E h => ?_) (fun cdv A outer s H vs Q E hr h => ?_)
  · obtain ⟨F, ds, d, _, h1, _⟩ := h
    omega
  obtain ⟨F, ds, d, sf, h1, h2, h3, h4⟩ := h
  obtain ⟨t, p, q⟩ := hb cdv A outer s H E hr
  refine ⟨t, p, ?_⟩
  have hl : ds.length = m := h2.length.symm.trans h1
  unfold runF at h3
  rw [if_pos hl] at h3
  obtain ⟨o, ho, h3⟩ := Option.bind_eq_some_iff.mp h3
  refine q ⟨H, F⟩ _ _ F H o _ ?_ ho ?_
  · refine ⟨fun _ => 0, ?_, ⟨sf, Same.refl _, Same.refl _, fun _ _ q => .inl q, fun _ => Nat.zero_le _, fun _ q => absurd q (Nat.lt_irrefl _)⟩⟩
    have z := slots_start (H := H) (N.length - m) h2
    unfold ctx0
    rw [hl] at z
    unfold L2.start
    rw [h1]
    exact z
  · cases o with
    | rt d' => cases h3; exact ⟨fun v F' H' s1 ⟨g, ow, ok⟩ => h4 v F' H' ⟨g, ow, ok⟩, fun _ _ _ _ _ _ _ _ _ _ => trivial⟩
    | nx env =>
      simp only at h3
      split at h3
      · rename_i c
        cases h3
        subst c
        intro σ' F' H' s1 r1 _
        obtain ⟨f1, sl, ok⟩ := r1
        exact h4 .non F' H' ⟨fun _ => 0, ⟨.non, fun _ => rfl⟩, ok.less fun a => Nat.zero_le _⟩
      · cases h3
    | bk e => cases h3
    | ct e => cases h3
end
end Pf

set_option Elab.async false
set_option linter.all false
set_option maxRecDepth 100000
set_option maxHeartbeats 4000000
namespace Pf
open PySem L2
section
variable {X : Cx} {L : Lp} {Γ Γ1 Γ2 Γ' : Ctx} {K : PySem.W.Frag} {F F' H H' : Hp} {B : Bs}
theorem Rp.vint {v : V} {i : Int} (h : Rp K F v (.int i)) : v = .int i := by cases h; rfl
theorem Rp.vbl {v : V} {i : Bool} (h : Rp K F v (.bool i)) : v = .bl i := by cases h; rfl
theorem Rp.vstr {v : V} {i : Str} (h : Rp K F v (.str i)) : v = .str i := by cases h; rfl
theorem Rp.vlst {v : V} {ds : List D} (h : Rp K F v (.list ds)) : ∃ a xs, v = .ref a ∧ SqL K F a xs ∧ RpAll K F xs ds := by cases h with | lst s r => exact ⟨_, _, rfl, s, r⟩
theorem Rp.vtup {v : V} {ds : List D} (h : Rp K F v (.tuple ds)) : ∃ a xs, v = .ref a ∧ F a = some (.tup xs) ∧ RpAll K F xs ds := by cases h with | tup s r => exact ⟨_, _, rfl, s, r⟩
theorem Rp.vdic {v : V} {kvs : List (D × D)} (h : Rp K F v (.dict kvs)) : ∃ a o vs, v = .ref a ∧ F a = some o ∧ DicO a o kvs vs ∧ RpAll K F vs (kvs.map (·.2)) := by cases h with | dic s q r => exact ⟨_, _, _, rfl, s, q, r⟩
theorem Bw.tup {n : Nat} {v : V} {ds : List D} (h : Bw K F H n (.tuple ds) v) : ∃ a xs, v = .ref a ∧ F a = some (.tup xs) ∧ RpAll K F xs ds := by
  cases n with
  | zero => exact Rp.vtup h
  | succ n =>
    cases n with
    | zero => exact Rp.vtup h
    | succ n => exact h.elim
theorem Bw.lst {n : Nat} {v : V} {ds : List D} (e : Sub F H) (hn : n ≤ 1) (h : Bw K F H n (.list ds) v) : ∃ a xs, v = .ref a ∧ SqL K H a xs ∧ RpAll K F xs ds := by
  match n, hn, h with
  | 0, _, h =>
    obtain ⟨a, xs, e1, s, r⟩ := Rp.vlst h
    exact ⟨a, xs, e1, sqL_up e s, r⟩
  | 1, _, ⟨a, xs, e1, s, r⟩ => exact ⟨a, xs, e1, SqL.of s, r.rp fun d v h => h⟩
theorem Bw.lst1 {v : V} {ds : List D} (h : Bw K F H 1 (.list ds) v) : ∃ a xs, v = .ref a ∧ H a = some (.lst xs) ∧ RpAll K F xs ds := by
  obtain ⟨a, xs, e1, s, r⟩ := h
  exact ⟨a, xs, e1, s, r.rp fun d v h => h⟩
theorem BwL.one {n : Nat} {ds : List D} {vs : List V} (h : BwL K F H [n] ds vs) : ∃ d v, ds = [d] ∧ vs = [v] ∧ Bw K F H n d v := by
  match ds, vs, h with
  | [d], [v], h => exact ⟨d, v, rfl, rfl, h.1⟩
  | [], _, h | _ :: _ :: _, _ :: _, h => simp [BwL] at h
  | [_], [], h | [_], _ :: _ :: _, h => simp [BwL] at h
theorem BwL.two {n m : Nat} {ds : List D} {vs : List V} (h : BwL K F H [n, m] ds vs) : ∃ d v d2 v2, ds = [d, d2] ∧ vs = [v, v2] ∧ Bw K F H n d v ∧ Bw K F H m d2 v2 := by
  match ds, vs, h with
  | [d, d2], [v, v2], h => exact ⟨d, v, d2, v2, rfl, rfl, h.1, h.2.1⟩
  | [], [], h | [], _ :: _, h | [_], [], h | [_], _ :: _, h | _ :: _ :: _ :: _, [], h | _ :: _ :: _ :: _, [_], h | _ :: _ :: _ :: _, [_, _], h | _ :: _ :: _ :: _, _ :: _ :: _ :: _, h => simp [BwL] at h
  | [_, _], [], h | [_, _], [_], h | [_, _], _ :: _ :: _ :: _, h => simp [BwL] at h

def iOp (C : Int → Int → Prop) [∀ i j, Decidable (C i j)] (f : Int → Int → D) : D → D → Option D
  | .int i, .int j => if C i j then some (f i j) else none
  | _, _ => none
def iOp0 (f : Int → Int → D) : D → D → Option D
  | .int i, .int j => some (f i j)
  | _, _ => none
theorem Bw.vint {n : Nat} {v : V} {i : Int} (e : Sub F H) (h : Bw K F H n (.int i) v) : v = .int i := (h.rp e n).vint
theorem s2_I {C : Int → Int → Prop} [∀ i j, Decidable (C i j)] {f : Int → Int → D} {g : Int → Int → V} {na nb : Nat} (h : ∀ K F i j, Rp K F (g i j) (f i j)) : S2 K (rI C g) na nb 0 (iOp C f) := by
  intro F H x y da db d Q s a b e k
  match da, db, a, b, e with
  | .int i, .int j, a, b, e =>
    simp only [iOp] at e
    split at e
    · rename_i c
      cases e
      exact ⟨i, j, a.vint s, b.vint s, c, k _ F H (got_val s (h _ _ _ _))⟩
    · cases e
theorem s2_I0 {f : Int → Int → D} {g : Int → Int → V} {na nb : Nat} (h : ∀ K F i j, Rp K F (g i j) (f i j)) : S2 K (rI0 g) na nb 0 (iOp0 f) := by
  intro F H x y da db d Q s a b e k
  match da, db, a, b, e with
  | .int i, .int j, a, b, e =>
    cases e
    exact ⟨i, j, a.vint s, b.vint s, k _ F H (got_val s (h _ _ _ _))⟩
instance : ∀ i j, Decidable (CMulW i j) := fun i j => by unfold CMulW; infer_instance
instance : ∀ i j, Decidable (CDivW i j) := fun i j => by unfold CDivW; infer_instance
instance : ∀ i j, Decidable (CPow i j) := fun i j => by unfold CPow; infer_instance
def pSub := iOp0 fun i j => .int (i - j)
def pDiv := iOp CDivW fun i j => .int (i / j)
def pMod := iOp (fun _ j => 0 < j) fun i j => .int (i % j)
def pPow := iOp CPow fun i j => .int (i ^ j.toNat)
theorem se_sub {a b : Expr} {pos : Pos} {fa fb : EF} {na nb : Nat} (ha : SB X Γ a fa na Γ1) (hb : SB X Γ1 b fb nb Γ2) : SE X Γ (.BinOp a .Sub b pos) (e2 pSub fa fb) 0 Γ2 := se_op op_sub (s2_I0 fun _ _ _ _ => .int _) ha hb
theorem se_div {a b : Expr} {pos : Pos} {fa fb : EF} {na nb : Nat} (ha : SB X Γ a fa na Γ1) (hb : SB X Γ1 b fb nb Γ2) : SE X Γ (.BinOp a .FloorDiv b pos) (e2 pDiv fa fb) 0 Γ2 := se_op op_fdivW (s2_I fun _ _ _ _ => .int _) ha hb
theorem se_mod {a b : Expr} {pos : Pos} {fa fb : EF} {na nb : Nat} (ha : SB X Γ a fa na Γ1) (hb : SB X Γ1 b fb nb Γ2) : SE X Γ (.BinOp a .Mod b pos) (e2 pMod fa fb) 0 Γ2 := se_op op_mod (s2_I fun _ _ _ _ => .int _) ha hb
theorem se_pow {a b : Expr} {pos : Pos} {fa fb : EF} {na nb : Nat} (ha : SB X Γ a fa na Γ1) (hb : SB X Γ1 b fb nb Γ2) : SE X Γ (.BinOp a .Pow b pos) (e2 pPow fa fb) 0 Γ2 := se_op op_pow (s2_I fun _ _ _ _ => .int _) ha hb
def pNeg : D → Option D
  | .int i => some (.int (-i))
  | _ => none
theorem se_neg {a : Expr} {pos : Pos} {fa : EF} {na : Nat} (ha : SB X Γ a fa na Γ1) : SE X Γ (.UnaryOp .USub a pos) (e1 pNeg fa) 0 Γ1 := by
  refine se_un un_neg (fun F H x da d Q s a e k => ?_) ha
  match da, a, e with
  | .int i, a, e => cases e; exact ⟨i, a.vint s, k _ F H (got_val s (.int _))⟩
def pAdd : D → D → Option D
  | .int i, .int j => some (.int (i + j))
  | .str x, .str y => if x.length + y.length ≤ 16777216 then some (.str (x ++ y)) else none
  | .tuple xs, .tuple ys => if xs.length + ys.length ≤ 16777216 then some (.tuple (xs ++ ys)) else none
  | _, _ => none
def rAddA (K : PySem.W.Frag) : R2 := fun x y H Q => rI0 (fun i j => .int (i + j)) x y H Q ∨ (∃ i j, x = .str i ∧ y = .str j ∧ i.length + j.length ≤ sizeLine ∧ Q (.str (i ++ j)) H) ∨ rCatA K x y H Q
theorem op_addA : OpR X (binaryOp .Add) (rAddA X.K) := op_add.or (op_add_str.or op_catA)
theorem s2_add {na nb : Nat} : S2 K (rAddA K) na nb 0 pAdd := by
  intro F H x y da db d Q s a b e k
  match da, db, a, b, e with
  | .int i, .int j, a, b, e => cases e; exact .inl ⟨i, j, a.vint s, b.vint s, k _ F H (got_val s (.int _))⟩
  | .str i, .str j, a, b, e =>
    simp only [pAdd] at e
    split at e
    · rename_i c
      cases e
      exact .inr (.inl ⟨i, j, (a.rp s na).vstr, (b.rp s nb).vstr, szLine c, k _ F H (got_val s (.str _))⟩)
    · cases e
  | .tuple ds, .tuple es, a, b, e =>
    simp only [pAdd] at e
    split at e
    · rename_i c
      cases e
      obtain ⟨p, xs, rfl, s1, r1⟩ := a.tup
      obtain ⟨q, ys, rfl, s2, r2⟩ := b.tup
      refine .inr (.inr ⟨p, q, xs, ys, rfl, rfl, SqT.of (s _ _ s1), SqT.of (s _ _ s2), by rw [r1.length, r2.length]; exact szLine c, fun h => ?_, fun h h2 => ?_, fun h h2 z hz => ?_⟩)
      · subst h
        cases r1
        exact k _ F H (got_val s (.tup s2 r2))
      · subst h2
        cases r2
        have k' : ∀ v F' H', Got K F H F' H' 0 (.tuple ds) v → Q v H' := by simpa using k
        exact k' _ F H (got_val s (.tup s1 r1))
      · exact k _ _ _ (got_newT s hz (r1.append r2))
    · cases e
theorem se_add {a b : Expr} {pos : Pos} {fa fb : EF} {na nb : Nat} (ha : SB X Γ a fa na Γ1) (hb : SB X Γ1 b fb nb Γ2) : SE X Γ (.BinOp a .Add b pos) (e2 pAdd fa fb) 0 Γ2 := se_op op_addA s2_add ha hb
def pCat : D → D → Option D
  | .list xs, .list ys => if xs.length + ys.length ≤ 16777216 then some (.list (xs ++ ys)) else none
  | _, _ => none
theorem se_cat {a b : Expr} {pos : Pos} {fa fb : EF} (ha : SB X Γ a fa 1 Γ1) (hb : SB X Γ1 b fb 1 Γ2) : SE X Γ (.BinOp a .Add b pos) (e2 pCat fa fb) 1 Γ2 := by
  refine se_op op_cat (fun F H x y da db d Q s a b e k => ?_) ha hb
  match da, db, a, b, e with
  | .list ds, .list es, a, b, e =>
    simp only [pCat] at e
    split at e
    · rename_i c
      cases e
      obtain ⟨p, xs, rfl, s1, r1⟩ := a.lst1
      obtain ⟨q, ys, rfl, s2, r2⟩ := b.lst1
      exact ⟨p, q, xs, ys, rfl, rfl, s1, s2, by rw [r1.length, r2.length]; exact szLine c, fun z hz => k _ _ _ (got_newL s hz (r1.append r2))⟩
    · cases e
def pMul := iOp CMulW fun i j => .int (i * j)
theorem se_mul {a b : Expr} {pos : Pos} {fa fb : EF} {na nb : Nat} (ha : SB X Γ a fa na Γ1) (hb : SB X Γ1 b fb nb Γ2) : SE X Γ (.BinOp a .Mult b pos) (e2 pMul fa fb) 0 Γ2 := se_op op_mulW (s2_I fun _ _ _ _ => .int _) ha hb
def pLt := iOp0 fun i j => .bool (decide (i < j))
def pLe := iOp0 fun i j => .bool (decide (i ≤ j))
def pGt := iOp0 fun i j => .bool (decide (j < i))
def pGe := iOp0 fun i j => .bool (decide (j ≤ i))
section
variable {a b : Expr} {pos : Pos} {fa fb : EF} {na nb : Nat}
theorem st_lt (ha : SB X Γ a fa na Γ1) (hb : SB X Γ1 b fb nb Γ2) : STs X Γ (.Compare a [.Lt] [b] pos) (tV (e2 pLt fa fb)) Γ2 := st_cmp op_lt (s2_I0 fun _ _ _ _ => .bl _) ha hb (nomark _)
theorem st_le (ha : SB X Γ a fa na Γ1) (hb : SB X Γ1 b fb nb Γ2) : STs X Γ (.Compare a [.LtE] [b] pos) (tV (e2 pLe fa fb)) Γ2 := st_cmp op_le (s2_I0 fun _ _ _ _ => .bl _) ha hb (nomark _)
theorem st_gt (ha : SB X Γ a fa na Γ1) (hb : SB X Γ1 b fb nb Γ2) : STs X Γ (.Compare a [.Gt] [b] pos) (tV (e2 pGt fa fb)) Γ2 := st_cmp op_gt (s2_I0 fun _ _ _ _ => .bl _) ha hb (nomark _)
theorem st_ge (ha : SB X Γ a fa na Γ1) (hb : SB X Γ1 b fb nb Γ2) : STs X Γ (.Compare a [.GtE] [b] pos) (tV (e2 pGe fa fb)) Γ2 := st_cmp op_ge (s2_I0 fun _ _ _ _ => .bl _) ha hb (nomark _)
end
def scalD : D → D → Bool
  | .none, .none => true | .none, .int _ => true | .int _, .none => true | .none, .bool _ => true | .bool _, .none => true | .none, .str _ => true | .str _, .none => true
  | .int _, .int _ => true | .bool _, .bool _ => true | .str _, .str _ => true
  | .int _, .str _ => true | .str _, .int _ => true | .bool _, .str _ => true | .str _, .bool _ => true
  | _, _ => false
def eqD (x y : D) : Option Bool := if scalD x y then some (PyData.eqv x y) else if nd x && nd y && SeqAt.shaped x && SeqAt.shaped y then some (PyData.eqv x y) else none
def pEq : D → D → Option D := fun x y => (eqD x y).map .bool
def pNe : D → D → Option D := fun x y => (eqD x y).map fun b => .bool (!b)
theorem scal_of {v u : V} {d e : D} (h : Rp K F v d) (k : Rp K F u e) (c : scalD d e = true) : scal v u = true ∧ decide (v = u) = PyData.eqv d e := by
  cases h <;> cases k <;> simp [scalD] at c <;> simp [scal, PyData.eqv, Bool.beq_eq_decide_eq]
def rEqA (K : PySem.W.Frag) : R2 := fun x y H Q => rEq x y H Q ∨ rEqD K x y H Q
def rNeA (K : PySem.W.Frag) : R2 := fun x y H Q => rNe x y H Q ∨ rNeD K x y H Q
theorem op_eqA (hu : X.A.units + 64 < cLine) : OpR X (compareOp .Eq) (rEqA X.K) := op_eq.or (op_eqD hu)
theorem op_neA (hu : X.A.units + 64 < cLine) : OpR X (compareOp .NotEq) (rNeA X.K) := op_ne.or (op_neD hu)
theorem s2_eq {na nb : Nat} : S2 K (rEqA K) na nb 0 pEq := by
  intro F H x y da db d Q s a b e k
  obtain ⟨bb, hb, e⟩ := Option.map_eq_some_iff.mp e
  subst e
  unfold eqD at hb
  split at hb
  · rename_i c
    cases hb
    obtain ⟨h1, h2⟩ := scal_of (a.rp s na) (b.rp s nb) c
    exact .inl ⟨h1, by rw [h2]; exact k _ F H (got_val s (.bl _))⟩
  · split at hb
    · rename_i c
      simp only [Bool.and_eq_true] at c
      cases hb
      exact .inr ⟨da, db, (a.rp s na).dp c.1.1.1, (b.rp s nb).dp c.1.1.2, c.1.2, c.2, k _ F H (got_val s (.bl _))⟩
    · cases hb
theorem s2_ne {na nb : Nat} : S2 K (rNeA K) na nb 0 pNe := by
  intro F H x y da db d Q s a b e k
  obtain ⟨bb, hb, e⟩ := Option.map_eq_some_iff.mp e
  subst e
  unfold eqD at hb
  split at hb
  · rename_i c
    cases hb
    obtain ⟨h1, h2⟩ := scal_of (a.rp s na) (b.rp s nb) c
    exact .inl ⟨h1, by rw [h2]; exact k _ F H (got_val s (.bl _))⟩
  · split at hb
    · rename_i c
      simp only [Bool.and_eq_true] at c
      cases hb
      exact .inr ⟨da, db, (a.rp s na).dp c.1.1.1, (b.rp s nb).dp c.1.1.2, c.1.2, c.2, k _ F H (got_val s (.bl _))⟩
    · cases hb
section
variable {a b : Expr} {pos : Pos} {fa fb : EF} {na nb : Nat}
theorem se_eq (hu : X.A.units + 64 < cLine) (ha : SB X Γ a fa na Γ1) (hb : SB X Γ1 b fb nb Γ2) : SE X Γ (.Compare a [.Eq] [b] pos) (e2 pEq fa fb) 0 Γ2 := se_cmp (op_eqA hu) s2_eq ha hb (nomark _)
theorem st_eq (hu : X.A.units + 64 < cLine) (ha : SB X Γ a fa na Γ1) (hb : SB X Γ1 b fb nb Γ2) : STs X Γ (.Compare a [.Eq] [b] pos) (tV (e2 pEq fa fb)) Γ2 := st_cmp (op_eqA hu) s2_eq ha hb (nomark _)
theorem st_ne (hu : X.A.units + 64 < cLine) (ha : SB X Γ a fa na Γ1) (hb : SB X Γ1 b fb nb Γ2) : STs X Γ (.Compare a [.NotEq] [b] pos) (tV (e2 pNe fa fb)) Γ2 := st_cmp (op_neA hu) s2_ne ha hb (nomark _)
end
def flatD : D → Bool
  | .none => true
  | .bool _ => true
  | .int _ => true
  | .str _ => true
  | _ => false
def inD (x : D) : D → Option Bool
  | .list ds => if flatD x && ds.all flatD then some (ds.any fun z => PyData.eqv z x) else if nd x && ndAll ds && SeqAt.shaped x && SeqAt.shaped (.list ds) then some (ds.any fun z => PyData.eqv z x) else none
  | .tuple ds => if flatD x && ds.all flatD then some (ds.any fun z => PyData.eqv z x) else none
  | .str y => match x with | .str i => some (!(Builtin.Str.occurrences y i 0 y.length 1).isEmpty) | _ => none
  | _ => none
def pIn : D → D → Option D := fun x y => (inD x y).map .bool
def pNotIn : D → D → Option D := fun x y => (inD x y).map fun b => .bool (!b)
def rInA (K : PySem.W.Frag) : R2 := fun x y H Q => rInD K x y H Q ∨ rIn K false x y H Q ∨ (∃ i j, x = .str i ∧ y = .str j ∧ Q (.bl (!(Builtin.Str.occurrences j i 0 j.length 1).isEmpty)) H)
def rNotInA (K : PySem.W.Frag) : R2 := fun x y H Q => rNotInD K x y H Q ∨ rIn K true x y H Q ∨ (∃ i j, x = .str i ∧ y = .str j ∧ Q (.bl (!(!(Builtin.Str.occurrences j i 0 j.length 1).isEmpty))) H)
theorem op_inA (hu : X.A.units + 65 < cLine) : OpR X (compareOp .In) (rInA X.K) := (op_inD hu).or (op_in_seq.or op_in_str)
theorem op_notInA (hu : X.A.units + 65 < cLine) : OpR X (compareOp .NotIn) (rNotInA X.K) := (op_notInD hu).or (op_notIn_seq.or op_notin_str)
theorem Rp.flat {v : V} {d : D} (h : Rp K F v d) (e : flatD d = true) : flatV v = true := by cases h <;> simp_all [flatD, flatV]
theorem RpAll.flat : ∀ {vs : List V} {ds : List D}, RpAll K F vs ds → ds.all flatD = true → vs.all flatV = true
  | _, _, .nil, _ => rfl
  | _, _, .cons a b, e => by
    simp only [List.all_cons, Bool.and_eq_true] at e ⊢
    exact ⟨a.flat e.1, RpAll.flat b e.2⟩
theorem eqV_eqv {v u : V} {d e : D} (h : Rp K F v d) (k : Rp K F u e) (f : flatD d = true) (g : flatD e = true) : eqV v u = PyData.eqv d e := by
  cases h <;> simp [flatD] at f <;> cases k <;> simp [flatD] at g <;> simp [eqV, PyData.eqv]
theorem inV_any {u : V} {e : D} (k : Rp K F u e) (g : flatD e = true) : ∀ {vs : List V} {ds : List D}, RpAll K F vs ds → ds.all flatD = true → inV u vs = ds.any fun z => PyData.eqv z e
  | _, _, .nil, _ => rfl
  | _, _, .cons a b, f => by
    simp only [List.all_cons, Bool.and_eq_true] at f
    have := inV_any k g b f.2
    simp only [inV, List.any_cons] at this ⊢
    rw [this, eqV_eqv a k f.1 g]
theorem in_cases {da db : D} {b : Bool} {x y : V} {na nb : Nat} (s : Sub F H) (hx : Bw K F H na da x) (hy : Bw K F H nb db y) (e : inD da db = some b) :
    (∃ d ds, Dp K H x d ∧ Dp K H y (.list ds) ∧ SeqAt.shaped d = true ∧ SeqAt.shaped (.list ds) = true ∧ b = ds.any fun z => PyData.eqv z d) ∨
    (∃ p xs, y = .ref p ∧ (SqL K H p xs ∨ SqT K H p xs) ∧ flatV x = true ∧ xs.all flatV = true ∧ b = inV x xs) ∨
    ∃ i j, x = .str i ∧ y = .str j ∧ b = !(Builtin.Str.occurrences j i 0 j.length 1).isEmpty := by
  match db, hy, e with
  | .list ds, hy, e =>
    simp only [inD] at e
    split at e
    · rename_i c
      simp only [Bool.and_eq_true] at c
      have hy' := hy.rp s nb
      obtain ⟨a, xs, e1, s1, r1⟩ := hy'.vlst
      have hx' := hx.rp s na
      exact .inr (.inl ⟨a, xs, e1, .inl s1, hx'.flat c.1, r1.flat c.2, by rw [inV_any hx' c.1 r1 c.2]; exact (Option.some.inj e).symm⟩)
    split at e
    · rename_i c
      simp only [Bool.and_eq_true] at c
      exact .inl ⟨da, ds, (hx.rp s na).dp c.1.1.1, (hy.rp s nb).dp (by simpa [nd] using c.1.1.2), c.1.2, c.2, (Option.some.inj e).symm⟩
    · cases e
  | .tuple ds, hy, e =>
    simp only [inD] at e
    split at e
    · rename_i c
      simp only [Bool.and_eq_true] at c
      have hy' := hy.rp s nb
      obtain ⟨a, xs, e1, s1, r1⟩ := hy'.vtup
      have hx' := hx.rp s na
      exact .inr (.inl ⟨a, xs, e1, .inr (SqT.of s1), hx'.flat c.1, r1.flat c.2, by rw [inV_any hx' c.1 r1 c.2]; exact (Option.some.inj e).symm⟩)
    · cases e
  | .str j, hy, e =>
    match da, hx, e with
    | .str i, hx, e => exact .inr (.inr ⟨i, j, (hx.rp s na).vstr, (hy.rp s nb).vstr, (Option.some.inj e).symm⟩)
    | .none, _, e | .bool _, _, e | .int _, _, e | .list _, _, e | .tuple _, _, e | .dict _, _, e => cases e
theorem s2_in {na nb : Nat} : S2 K (rInA K) na nb 0 pIn := by
  intro F H x y da db d Q s a b e k
  obtain ⟨bb, hb, e⟩ := Option.map_eq_some_iff.mp e
  subst e
  have q := k _ F H (got_val s (.bl bb))
  rcases in_cases s a b hb with ⟨d, ds, h1, h2, h3, h4, rfl⟩ | ⟨p, xs, h1, h2, h3, h4, rfl⟩ | ⟨i, j, h1, h2, rfl⟩
  · exact .inl ⟨d, ds, h1, h2, h3, h4, q⟩
  · exact .inr (.inl ⟨p, xs, h1, h2, h3, h4, q⟩)
  · exact .inr (.inr ⟨i, j, h1, h2, q⟩)
theorem s2_notIn {na nb : Nat} : S2 K (rNotInA K) na nb 0 pNotIn := by
  intro F H x y da db d Q s a b e k
  obtain ⟨bb, hb, e⟩ := Option.map_eq_some_iff.mp e
  subst e
  have q := k _ F H (got_val s (.bl (!bb)))
  rcases in_cases s a b hb with ⟨d, ds, h1, h2, h3, h4, rfl⟩ | ⟨p, xs, h1, h2, h3, h4, rfl⟩ | ⟨i, j, h1, h2, rfl⟩
  · exact .inl ⟨d, ds, h1, h2, h3, h4, q⟩
  · exact .inr (.inl ⟨p, xs, h1, h2, h3, h4, q⟩)
  · exact .inr (.inr ⟨i, j, h1, h2, q⟩)
section
variable {a b : Expr} {pos : Pos} {fa fb : EF} {na nb : Nat}
theorem st_in (hu : X.A.units + 65 < cLine) (ha : SB X Γ a fa na Γ1) (hb : SB X Γ1 b fb nb Γ2) (hm : behindInMarks .In b = false := by rfl) : STs X Γ (.Compare a [.In] [b] pos) (tV (e2 pIn fa fb)) Γ2 := st_cmp (op_inA hu) s2_in ha hb hm
theorem st_notIn (hu : X.A.units + 65 < cLine) (ha : SB X Γ a fa na Γ1) (hb : SB X Γ1 b fb nb Γ2) (hm : behindInMarks .NotIn b = false := by rfl) : STs X Γ (.Compare a [.NotIn] [b] pos) (tV (e2 pNotIn fa fb)) Γ2 := st_cmp (op_notInA hu) s2_notIn ha hb hm
end

def pIx : D → D → Option D
  | .list ds, .int i => atI ds i
  | .tuple ds, .int i => atI ds i
  | .str z, .int i => if z.length ≤ 16777216 then (atI z.cps.toList i).map fun c => .str ⟨#[c]⟩ else none
  | _, _ => none
theorem atI_rp {vs : List V} {ds : List D} {i : Int} {d : D} (r : RpAll K F vs ds) (h : atI ds i = some d) : ∃ v, atI vs i = some v ∧ Rp K F v d := by
  unfold atI at h ⊢
  rw [r.length]
  obtain ⟨j, hj, h⟩ := Option.bind_eq_some_iff.mp h
  rw [hj]
  exact r.get h
theorem s2_ix {na nb : Nat} (hn : na ≤ 1) : S2 K (rIx K) na nb 0 pIx := by
  intro F H x y da db d Q s a b e k
  match da, db, a, b, e with
  | .list ds, .int i, a, b, e =>
    obtain ⟨p, xs, rfl, s1, r1⟩ := a.lst s hn
    obtain ⟨v, h1, h2⟩ := atI_rp r1 e
    exact .inl ⟨p, xs, i, v, rfl, b.vint s, s1, h1, k _ F H (got_val s h2)⟩
  | .tuple ds, .int i, a, b, e =>
    obtain ⟨p, xs, rfl, s1, r1⟩ := a.tup
    obtain ⟨v, h1, h2⟩ := atI_rp r1 e
    exact .inr (.inl ⟨p, xs, i, v, rfl, b.vint s, SqT.of (s _ _ s1), h1, k _ F H (got_val s h2)⟩)
  | .str z, .int i, a, b, e =>
    simp only [pIx] at e
    split at e
    · rename_i c
      obtain ⟨c', h1, rfl⟩ := Option.map_eq_some_iff.mp e
      exact .inr (.inr ⟨z, i, c', (a.rp s na).vstr, b.vint s, szLine c, h1, k _ F H (got_val s (.str _))⟩)
    · cases e
theorem se_ixA {a b : Expr} {pos : Pos} {fa fb : EF} {na nb : Nat} (ha : SB X Γ a fa na Γ1) (hb : SB X Γ1 b fb nb Γ2) (hn : na ≤ 1 := by decide) (hp : PlainIx b := by exact fun _ _ => rfl) : SE X Γ (.Subscript a b pos) (e2 pIx fa fb) 0 Γ2 := se_ix ix_seq (s2_ix hn) ha hb hp

def oN : List D → Option (Option Int) := fun _ => some none
def oS (f : EF) : List D → Option (Option Int) := fun env => (f env).bind fun d => match d with | .int i => some (some i) | _ => none
def SO (X : Cx) (Γ : Ctx) (e : Option Expr) (f : List D → Option (Option Int)) (Γ' : Ctx) : Prop :=
  ∃ t : TO, PO X e t ∧ ∀ (B : Bs) (σ : St) (env : List D) (F H : Hp) (o : Option Int) (Q : Option Int → Hp → Prop), Rel X.K B Γ σ env F H → f env = some o →
    (∀ F' H', Same F F' → Same H H' → Rel X.K B Γ' σ env F' H' → Q o H') → t σ H Q
theorem so_none : SO X Γ none oN Γ := ⟨_, po_none, fun B σ env F H o Q r e k => by cases e; exact k F H (Same.refl _) (Same.refl _) r⟩
theorem so_some {e : Expr} {f : EF} {n : Nat} (h : SB X Γ e f n Γ') : SO X Γ (some e) (oS f) Γ' := by
  obtain ⟨t, p, q⟩ := h
  refine ⟨_, po_some p, fun B σ env F H o Q r e k => ?_⟩
  obtain ⟨d, hd, e⟩ := Option.bind_eq_some_iff.mp e
  refine q B σ env F H d _ r hd fun v F' H' s1 s2 w b => ?_
  cases d with
  | int i => cases e; exact ⟨i, b.vint w.fh, k F' H' s1 s2 w⟩
  | _ => cases e
def eSl (g : D → Option Int → Option Int → Option D) (fa : EF) (fl fh : List D → Option (Option Int)) : EF := fun env => (fa env).bind fun x => (fl env).bind fun l => (fh env).bind fun h => g x l h
theorem se_sl {a : Expr} {lo hi : Option Expr} {p2 pos : Pos} {fa : EF} {fl fh : List D → Option (Option Int)} {na n : Nat} {r : V → Option Int → Option Int → Hp → VK → Prop} {g : D → Option Int → Option Int → Option D} {Γ3 : Ctx}
    (hs : SlR X r) (hr : ∀ (F H : Hp) (x : V) (da d : D) (l h : Option Int) (Q : VK), Sub F H → Bw X.K F H na da x → g da l h = some d → (∀ v F' H', Got X.K F H F' H' n d v → Q v H') → r x l h H Q)
    (ha : SB X Γ a fa na Γ1) (hl : SO X Γ1 lo fl Γ2) (hh : SO X Γ2 hi fh Γ3) : SE X Γ (.Subscript a (.Slice lo hi none p2) pos) (eSl g fa fl fh) n Γ3 := by
  obtain ⟨ta, pa, qa⟩ := ha
  obtain ⟨tl, pl, ql⟩ := hl
  obtain ⟨th, ph, qh⟩ := hh
  refine ⟨_, pe_slice hs pa pl ph, fun B σ env F H d Q r e k => ?_⟩
  obtain ⟨x, hx, e⟩ := Option.bind_eq_some_iff.mp e
  obtain ⟨l, hl, e⟩ := Option.bind_eq_some_iff.mp e
  obtain ⟨h, hh, e⟩ := Option.bind_eq_some_iff.mp e
  refine qa B σ env F H x _ r hx fun v F1 H1 s1 t1 r1 b1 => ?_
  refine ql B σ env F1 H1 l _ r1 hl fun F2 H2 s2 t2 r2 => ?_
  refine qh B σ env F2 H2 h _ r2 hh fun F3 H3 s3 t3 r3 => ?_
  refine hr F3 H3 v x d l h Q r3.fh (b1.mono (s2.trans s3) (t2.trans t3) na) e fun w F4 H4 got => ?_
  obtain ⟨s4, t4, r4⟩ := r3.got got
  exact k w F4 H4 (((s1.trans s2).trans s3).trans s4) (((t1.trans t2).trans t3).trans t4) r4
mutual
inductive NIs (H : Hp) : NestedKey → V → Prop
  | non : NIs H .none .non
  | bl (b : Bool) : NIs H (.num (if b = true then 1 else 0)) (.bl b)
  | int (i : Int) : NIs H (.num i) (.int i)
  | tup {a : Addr} {xs : List V} {ks : List NestedKey} : H a = some (.tup xs) → NAll H ks xs → NIs H (.tup ks) (.ref a)
inductive NAll (H : Hp) : List NestedKey → List V → Prop
  | nil : NAll H [] []
  | cons {k : NestedKey} {v : V} {ks : List NestedKey} {vs : List V} : NIs H k v → NAll H ks vs → NAll H (k :: ks) (v :: vs)
end
mutual
theorem NIs.up {F H : Hp} (s : Sub F H) : ∀ {k : NestedKey} {v : V}, NIs F k v → NIs H k v
  | _, _, .non => .non
  | _, _, .bl b => .bl b
  | _, _, .int i => .int i
  | _, _, .tup h r => .tup (s _ _ h) (NAll.up s r)
theorem NAll.up {F H : Hp} (s : Sub F H) : ∀ {ks : List NestedKey} {vs : List V}, NAll F ks vs → NAll H ks vs
  | _, _, .nil => .nil
  | _, _, .cons a b => .cons (NIs.up s a) (NAll.up s b)
end
mutual
theorem Rp.nis {K : PySem.W.Frag} {F : Hp} : ∀ {v : V} {d : D} {k : NestedKey}, Rp K F v d → keyN d = some k → NIs F k v
  | _, _, _, .non, e => by simp only [keyN, Option.some.injEq] at e; subst e; exact .non
  | _, _, _, .bl b, e => by simp only [keyN, Option.some.injEq] at e; subst e; exact .bl b
  | _, _, _, .int i, e => by simp only [keyN, Option.some.injEq] at e; subst e; exact .int i
  | _, _, _, .tup h r, e => by
    simp only [keyN] at e
    obtain ⟨ks, h1, rfl⟩ := Option.map_eq_some_iff.mp e
    exact .tup h (RpAll.nis r h1)
  | _, _, _, .str _, e => by simp [keyN] at e
  | _, _, _, .lst _ _, e => by simp [keyN] at e
  | _, _, _, .dic _ _ _, e => by simp [keyN] at e
theorem RpAll.nis {K : PySem.W.Frag} {F : Hp} : ∀ {vs : List V} {ds : List D} {ks : List NestedKey}, RpAll K F vs ds → keyNs ds = some ks → NAll F ks vs
  | _, _, _, .nil, e => by simp only [keyNs, Option.some.injEq] at e; subst e; exact .nil
  | _, _, _, .cons a b, e => by
    simp only [keyNs] at e
    obtain ⟨k, h1, e⟩ := Option.bind_eq_some_iff.mp e
    obtain ⟨ks, h2, rfl⟩ := Option.map_eq_some_iff.mp e
    exact .cons (Rp.nis a h1) (RpAll.nis b h2)
end
theorem Rp.nisT {K : PySem.W.Frag} {F : Hp} {v : V} {d : D} {k : NestedKey} (h : Rp K F v d) (e : keyT d = some k) : NIs F k v ∧ k.depth ≤ 8 ∧ ∃ b, v = .ref b := by
  cases h with
  | tup h r =>
    simp only [keyT] at e
    obtain ⟨ks, h1, e⟩ := Option.bind_eq_some_iff.mp e
    split at e
    · rename_i c
      cases e
      exact ⟨.tup h (r.nis h1), c, _, rfl⟩
    · cases e
  | _ => simp [keyT] at e
mutual
theorem NIs.heap {P : Program} {w : World} {H : Hp} {h : Heap} (ok : HOk P w H h) : ∀ {k : NestedKey} {v : V} {u : Value}, NIs H k v → RelV v u → NestedIs h k u
  | _, _, _, .non, r => by cases (show _ = Value.none from r); exact .none
  | _, _, _, .bl b, r => by cases (show _ = Value.bool b from r); exact .bool rfl
  | _, _, _, .int i, r => by obtain ⟨t, q⟩ := (show ∃ t, _ = Value.int i t from r); subst q; exact .int _ _
  | _, _, _, .tup (a := a) (xs := xs) e x, r => by
    cases (show _ = Value.ref a from r)
    obtain ⟨_, its, rv, o, h1, h2, n, h3⟩ := (show ObjOk P w H h a (.tup xs) from ok a _ e)
    exact .tup h1 h2 h3 (by simpa using NAll.heap ok x rv)
theorem NAll.heap {P : Program} {w : World} {H : Hp} {h : Heap} (ok : HOk P w H h) : ∀ {ks : List NestedKey} {vs : List V} {us : List Value}, NAll H ks vs → Vals vs us → NestedAll h ks us
  | _, _, _, .nil, r => by cases r; exact .nil
  | _, _, _, .cons a b, r => by
    cases r with
    | cons r1 r2 => exact .cons (NIs.heap ok a r1) (NAll.heap ok b r2)
end
mutual
theorem NIs.hash {H : Hp} (w w' : World) : ∀ {k : NestedKey} {v : V}, NIs H k v → k.hash w = k.hash w'
  | _, _, .non => rfl
  | _, _, .bl b => rfl
  | _, _, .int i => rfl
  | _, _, .tup h r => by simp only [NestedKey.hash]; rw [NAll.hash w w' r]
theorem NAll.hash {H : Hp} (w w' : World) : ∀ {ks : List NestedKey} {vs : List V}, NAll H ks vs → NestedKey.hashes w ks = NestedKey.hashes w' ks
  | _, _, .nil => rfl
  | _, _, .cons a b => by simp only [NestedKey.hashes]; rw [NIs.hash w w' a, NAll.hash w w' b]
end
def KeysN (H : Hp) (l : NL) : Prop := ∀ p ∈ l, NIs H p.1 (.ref p.2.1) ∧ p.1.depth ≤ 8
theorem KeysN.up {F H : Hp} (s : Sub F H) {l : NL} (h : KeysN F l) : KeysN H l := fun p hp => ⟨(h p hp).1.up s, (h p hp).2⟩
theorem nrel_mem : ∀ {l : NL} {xs : List (NestedKey × Addr × Value)}, NRel l xs → ∀ x ∈ xs, ∃ p ∈ l, p.1 = x.1 ∧ p.2.1 = x.2.1 := by
  intro l xs r
  unfold NRel at r
  induction r with
  | nil => intro x hx; cases hx
  | cons e t ih =>
    intro x hx
    rcases List.mem_cons.mp hx with rfl | hx
    · exact ⟨_, List.mem_cons_self, e.1, e.2.1⟩
    · obtain ⟨p, hp, e⟩ := ih x hx
      exact ⟨p, List.mem_cons_of_mem _ hp, e⟩
theorem dn_of {P : Program} {w : World} {H : Hp} {h : Heap} {a : Addr} {l : NL} (ok : HOk P w H h) (e : H a = some (DN a l)) (hk : KeysN H l) : l.length ≤ sizeLine ∧ (a == sysModules) = false ∧ ∃ xs, NRel l xs ∧ h.DictOfH (nestedKind P w) a xs := by
  obtain ⟨⟨z, hd, w', xs, o, es, ep, r, h1, h2, h3, h4, h5⟩, _⟩ := (show ObjOk P w H h a (.ext (DNp a l)) from ok a _ e)
  have at_ : ∀ x ∈ xs, NIs H x.1 (.ref x.2.1) ∧ x.1.depth ≤ 8 := fun x hx => by
    obtain ⟨p, hp, e1, e2⟩ := nrel_mem r x hx
    have := hk p hp
    rw [e1, e2] at this
    exact this
  refine ⟨z, hd, xs, r, o, es, ep, h1, h2, h3, ?_, fun x hx => ⟨(at_ x hx).1.heap ok rfl, (at_ x hx).2⟩, h5⟩
  rw [h4]
  exact List.map_congr_left fun x hx => by unfold entryOfKey; rw [(at_ x hx).1.hash w' w]; rfl
inductive RpN (K : PySem.W.Frag) (F : Hp) : List (D × D) → NL → Prop
  | nil : RpN K F [] []
  | cons {kd vd : D} {k : NestedKey} {b : Addr} {v : V} {r : List (D × D)} {l : NL} : keyT kd = some k → Rp K F (.ref b) kd → Rp K F v vd → RpN K F r l → RpN K F ((kd, vd) :: r) ((k, b, v) :: l)
theorem rpN_of {K : PySem.W.Frag} {F : Hp} : ∀ {r : List (D × D)} {l : NL}, r.map (fun p => keyT p.1) = l.map (fun p => some p.1) → RpAll K F (flV l) ((flN r).map (·.2)) → RpN K F r l
  | [], [], _, _ => .nil
  | (kd, vd) :: r, (k, b, v) :: l, h, q => by
    simp only [List.map_cons, List.cons.injEq] at h
    simp only [flN, flV, List.map_cons] at q
    cases q with
    | cons q1 q => cases q with
      | cons q2 q => exact .cons h.1 q1 q2 (rpN_of h.2 q)
  | [], _ :: _, h, _ => by simp at h
  | _ :: _, [], h, _ => by simp at h
theorem RpN.keys {K : PySem.W.Frag} {F : Hp} {r : List (D × D)} {l : NL} (h : RpN K F r l) : r.map (fun p => keyT p.1) = l.map (fun p => some p.1) := by
  induction h with
  | nil => rfl
  | cons h1 _ _ _ ih => simp only [List.map_cons]; rw [h1, ih]
theorem RpN.all {K : PySem.W.Frag} {F : Hp} {r : List (D × D)} {l : NL} (h : RpN K F r l) : RpAll K F (flV l) ((flN r).map (·.2)) := by
  induction h with
  | nil => exact .nil
  | cons _ h2 h3 _ ih => exact .cons h2 (.cons h3 ih)
theorem RpN.len {K : PySem.W.Frag} {F : Hp} {r : List (D × D)} {l : NL} (h : RpN K F r l) : l.length = r.length := by
  have := congrArg List.length h.keys
  simpa using this.symm
theorem RpN.keysN {K : PySem.W.Frag} {F : Hp} {r : List (D × D)} {l : NL} (h : RpN K F r l) : KeysN F l := by
  induction h with
  | nil => intro p hp; cases hp
  | cons h1 h2 _ _ ih =>
    intro p hp
    rcases List.mem_cons.mp hp with rfl | hp
    · exact ⟨(h2.nisT h1).1, (h2.nisT h1).2.1⟩
    · exact ih p hp
theorem RpN.up {K : PySem.W.Frag} {F F' : Hp} (s : Same F F') {r : List (D × D)} {l : NL} (h : RpN K F r l) : RpN K F' r l := by
  induction h with
  | nil => exact .nil
  | cons h1 h2 h3 _ ih => exact .cons h1 (h2.up s) (h3.up s) ih
theorem flN_len : ∀ r : List (D × D), (flN r).length = 2 * r.length
  | [] => rfl
  | _ :: r => by simp only [flN, List.length_cons, flN_len r]; omega
def rLenN : List V → Hp → VK → Prop := fun xs H Q => ∃ (p : Addr) (l : NL), xs = [.ref p] ∧ H p = some (DN p l) ∧ KeysN H l ∧ Q (.int ((l.length : Nat) : Int)) H
theorem call_len_dN {X : Cx} : CallR X (.builtin "len") rLenN := by
  intro pins s σ H xs us Q I r h
  obtain ⟨p, l, rfl, hp, hk, q⟩ := h
  obtain ⟨u, rfl, rx⟩ := vals1 r
  obtain rfl : u = .ref p := rx
  obtain ⟨z, hd, ys, rel, dd⟩ := dn_of I.hok hp hk
  have hl : l.length = ys.length := Paired.length rel
  refine call_len_dictH hd dd (by rw [← hl]; rw [sizeLine_eq] at z; omega) ?_
  rw [← hl]
  exact ⟨.int ((l.length : Nat) : Int), H, I.tok _, ⟨_, rfl⟩, q⟩
def dLen : List (D × D) → Nat
  | (.none, .bool _) :: r => r.length / 2
  | (.none, _) :: r => r.length
  | r => r.length
def recD : List (D × D) → Bool
  | (.none, .int _) :: _ => true
  | _ => false
def lenD : List D → Option D
  | [.list ds] => some (.int ds.length)
  | [.tuple ds] => some (.int ds.length)
  | [.dict ds] => if recD ds = true then none else some (.int (dLen ds))
  | [.str x] => if x.length ≤ 16777216 then some (.int x.length) else none
  | _ => none
def rLenA (K : PySem.W.Frag) : List V → Hp → VK → Prop := fun xs H Q => (∃ x n, xs = [x] ∧ LenV K x H n ∧ Q (.int n) H) ∨ (∃ d kvs, xs = [.ref d] ∧ H d = some (.dK kvs) ∧ Q (.int kvs.length) H) ∨ rLenT xs H Q ∨ rLenN xs H Q
theorem sl_len {n : Nat} : SL K (rLenA K) [n] 0 lenD := by
  intro F H xs ds d Q s b e k
  obtain ⟨da, v, e1, e2, b0⟩ := b.one
  subst e1 e2
  have b' := b0.rp s n
  match da, b', e with
  | .list ds, b', e =>
    cases e
    obtain ⟨a, xs, rfl, s1, r1⟩ := b'.vlst
    exact .inl ⟨_, xs.length, rfl, .inl ⟨xs, s1, rfl⟩, by rw [r1.length]; exact k _ F H (got_val s (.int _))⟩
  | .tuple ds, b', e =>
    cases e
    obtain ⟨a, xs, rfl, s1, r1⟩ := b'.vtup
    exact .inl ⟨_, xs.length, rfl, .inr ⟨xs, SqT.of s1, rfl⟩, by rw [r1.length]; exact k _ F H (got_val s (.int _))⟩
  | .dict ds, b', e =>
    have e : (if recD ds = true then none else some (PyData.int (dLen ds))) = some d := e
    split at e
    · cases e
    rename_i cR
    cases e
    obtain ⟨a, o, vs, rfl, s1, q1, r1⟩ := b'.vdic
    rcases q1 with ⟨l, rfl, h1, rfl⟩ | ⟨l, r, rfl, rfl, h1, rfl⟩ | ⟨l, r, rfl, rfl, h1, rfl⟩ | ⟨C, dx, fs, r, rfl, rfl, h1, rfl⟩
    · have hl := congrArg List.length h1
      simp only [List.length_map] at hl
      have hd : dLen ds = ds.length := by
        cases ds with
        | nil => rfl
        | cons p ds =>
          cases l with
          | nil => simp at hl
          | cons q l =>
            obtain ⟨k, v⟩ := p
            simp only [List.map_cons, List.cons.injEq] at h1
            have h1 := h1.1
            cases hk : q.1 <;> rw [hk] at h1 <;> simp only [kD] at h1 <;> subst h1 <;> rfl
      exact .inr (.inl ⟨_, l, rfl, s1, by rw [hd, hl] at k; exact k _ F H (got_val s (.int _))⟩)
    · have hl := congrArg List.length h1
      simp only [List.length_map] at hl
      exact .inr (.inr (.inl ⟨_, l, rfl, s1, by rw [show dLen ((.none, .none) :: r) = l.length from hl] at k; exact k _ F H (got_val s (.int _))⟩))
    · have rn : RpN K H r l := rpN_of h1 (by simp only [nEnc, List.map_cons] at r1; cases r1 with | cons _ q => exact q)
      have hd : dLen (nEnc r) = l.length := by
        show (flN r).length / 2 = l.length
        rw [flN_len, rn.len]; omega
      rw [hd] at k
      exact .inr (.inr (.inr ⟨_, l, rfl, s1, rn.keysN, k _ F H (got_val s (.int _))⟩))
    · exact absurd rfl cR
  | .str x, b', e =>
    simp only [lenD] at e
    split at e
    · rename_i c
      cases e
      rw [b'.vstr]
      exact .inl ⟨_, x.length, rfl, ⟨szLine c, rfl⟩, k _ F H (got_val s (.int _))⟩
    · cases e
theorem se_len {p pos : Pos} {e : Expr} {fa : EF} {n : Nat} (hg : Gl X "len") (hm : X.mg "len" = none) (ha : SB X Γ e fa n Γ1) (he : starEach (e :: []) X.env = (false, eval e X.env) :: starEach [] X.env := by rfl) (hpl : (backTo pos (starEach [] X.env)).any (·.1) = false := by rfl) :
    SE X Γ (.Call (.Name "len" p) [e] [] pos) (eL lenD (aC fa aN)) 0 Γ1 := se_callB (call_len.or (call_lenD.or (call_len_dT.or call_len_dN))) sl_len hg hm PySem.boot_len (sa_cons ha sa_nil he) (by decide) (by decide) he hpl
def minD : List D → Option D
  | [.int i, .int j] => some (.int (if j < i then j else i))
  | _ => none
theorem sl_min {n m : Nat} : SL K (fun xs H Q => ∃ i j, xs = [.int i, .int j] ∧ Q (.int (if j < i then j else i)) H) [n, m] 0 minD := by
  intro F H xs ds d Q s b e k
  obtain ⟨d1, v1, d2, v2, rfl, rfl, b1, b2⟩ := b.two
  match d1, d2, b1, b2, e with
  | .int i, .int j, b1, b2, e =>
    cases e
    rw [b1.vint s, b2.vint s]
    exact ⟨i, j, rfl, k _ F H (got_val s (.int _))⟩
theorem boot_min' : bootBuiltins "min" = some (.builtin "min") := by decide +kernel
theorem se_min2 {p pos : Pos} {e : Expr} {es : List Expr} {fs : AF} {n m : Nat} (hc : X.calm = true) (hg : Gl X "min") (hm : X.mg "min" = none) (ha : SA X Γ (e :: es) fs [n, m] Γ1) (he : starEach (e :: es) X.env = (false, eval e X.env) :: starEach es X.env := by rfl) (hpl : (backTo pos (starEach es X.env)).any (·.1) = false := by rfl) :
    SE X Γ (.Call (.Name "min" p) (e :: es) [] pos) (eL minD fs) 0 Γ1 := se_callB (call_min2 hc) sl_min hg hm boot_min' ha (by decide) (by decide) he hpl
def tyD : D → String
  | .none => "NoneType"
  | .bool _ => "bool"
  | .int _ => "int"
  | .str _ => "str"
  | .list _ => "list"
  | .tuple _ => "tuple"
  | .dict _ => "dict"
def TyY (K : PySem.W.Frag) (H : Hp) (v : V) (t : Value) : Prop := TyX K H v t ∨ ∃ a l, v = .ref a ∧ H a = some (DN a l) ∧ t = .type "dict"
def rIsiY (K : PySem.W.Frag) : List V → Hp → VK → Prop := fun xs H Q => ∃ (x c : V) (t u : Value) (b : Bool), xs = [x, c] ∧ ClsV c u ∧ TyY K H x t ∧ PySem.W.kitOne K t u = some b ∧ Q (.bl b) H
theorem call_isiY {X : Cx} : CallR X (.builtin "isinstance") (rIsiY X.K) := by
  intro pins s σ H xs us Q I r h
  obtain ⟨x, c, t, u, b, e0, k, ty, e, q⟩ := h
  rcases ty with ty | ⟨a, l, rfl, hl, rfl⟩
  · exact call_isi pins s σ H xs us Q I r ⟨x, c, t, u, b, e0, k, ty, e, q⟩
  · subst e0
    obtain ⟨u1, u2, rfl, r1, r2⟩ := vals2 r
    have e2 := k.eq r2
    subst e2
    cases (show u1 = Value.ref a from r1)
    obtain ⟨⟨_, _, _, _, o, _, _, _, h1, h2, _⟩, _⟩ := (show ObjOk X.prog X.w H s.heap a (.ext (DNp a l)) from I.hok a _ hl)
    exact PySem.W.kia_one PySem.W.kitx_dict I.kIn ⟨o, h1, h2.1⟩ e (fun z => nomatch z) fun tk => ⟨.bl b, H, I.tok tk, rfl, q⟩
@[simp] def isR : D → Bool
  | .dict ds => recD ds
  | _ => false
theorem Rp.ty {v : V} {d : D} (h : Rp K H v d) (hr : isR d = false) : TyY K H v (.type (tyD d)) := by
  cases h with
  | non => exact .inl (.base .non)
  | bl b => exact .inl (.base (.bl b))
  | int i => exact .inl (.base (.int i))
  | str x => exact .inl (.base (.str x))
  | lst s r =>
    rcases s with (s | ⟨o, s⟩) | ⟨o, its, n, h1, h2, _⟩
    · exact .inl (.base (.lst s))
    · exact .inl (.base (.frz s))
    · exact .inl (.kList h1 h2)
  | tup s r => exact .inl (.base (.tup s))
  | dic s q r =>
    rcases q with ⟨l, rfl, _⟩ | ⟨l, r, rfl, _⟩ | ⟨l, r, rfl, _⟩ | ⟨C, dx, fs, r, rfl, rfl, _⟩
    · exact .inl (.base (.dK s))
    · exact .inl (.base (.dT s))
    · exact .inr ⟨_, l, rfl, s, rfl⟩
    · simp [isR, recD] at hr
def isiD (T : String) : D → Bool
  | .none => T == "NoneType"
  | .bool _ => T == "bool" || T == "int"
  | .int _ => T == "int"
  | .str _ => T == "str"
  | .list _ => T == "list"
  | .tuple _ => T == "tuple"
  | .dict _ => T == "dict"
def KitOk (T : String) : Prop := kitB "NoneType" T = some (T == "NoneType") ∧ kitB "bool" T = some (T == "bool" || T == "int") ∧ kitB "int" T = some (T == "int") ∧ kitB "str" T = some (T == "str") ∧ kitB "list" T = some (T == "list") ∧ kitB "tuple" T = some (T == "tuple") ∧ kitB "dict" T = some (T == "dict")
theorem KitOk.at {T : String} (h : KitOk T) (d : D) : kitB (tyD d) T = some (isiD T d) := by
  obtain ⟨h1, h2, h3, h4, h5, h6, h7⟩ := h
  cases d <;> assumption
theorem kitOk_bool : KitOk "bool" := by unfold KitOk; decide +kernel
theorem kitOk_list : KitOk "list" := by unfold KitOk; decide +kernel
theorem kitOk_tuple : KitOk "tuple" := by unfold KitOk; decide +kernel
theorem boot_isinstance : bootBuiltins "isinstance" = some (.builtin "isinstance") := by decide +kernel
def eIsi (T : String) (f : EF) : EF := fun env => (f env).bind fun d => if isR d = true then none else some (.bool (isiD T d))
theorem eIsi_inv {T : String} {f : EF} {env : List D} {d : D} (e : eIsi T f env = some d) : ∃ x, f env = some x ∧ isR x = false ∧ d = .bool (isiD T x) := by
  obtain ⟨x, hx, e⟩ := Option.bind_eq_some_iff.mp e
  split at e
  · cases e
  · rename_i c
    exact ⟨x, hx, by simpa using c, (Option.some.inj e).symm⟩
theorem se_isi {T : String} {x : Str} {p px pos : Pos} {e : Expr} {fa : EF} {n : Nat} (hk : KitOk T) (hg : Gl X "isinstance") (hm : X.mg "isinstance" = none) (hgT : Gl X x) (hmT : X.mg x = none) (hvT : bootBuiltins x = some (.type T)) (ha : SB X Γ e fa n Γ1)
    (he : starEach (e :: [.Name x px]) X.env = (false, eval e X.env) :: starEach [.Name x px] X.env := by rfl) (he2 : starEach [.Name x px] X.env = (false, eval (.Name x px) X.env) :: starEach [] X.env := by rfl) (hpl : (backTo pos (starEach [.Name x px] X.env)).any (·.1) = false := by rfl) (hn : x ≠ "__name__" := by decide) (hd : (x == ("__debug__" : Str)) = false := by decide) :
    SE X Γ (.Call (.Name "isinstance" p) [e, .Name x px] [] pos) (eIsi T fa) 0 Γ1 := by
  obtain ⟨t, pe, q⟩ := ha
  refine ⟨_, pe_callB call_isiY hg hm boot_isinstance (pa_cons pe (pa_cons (pe_bltn (v := .ty T) hgT hmT hvT rfl hn hd) pa_nil he2) he) (by decide) (by decide) he hpl, fun B σ env F H d Q r e k => ?_⟩
  obtain ⟨d', hd, hr, e⟩ := eIsi_inv e
  refine q B σ env F H d' _ r hd fun v F' H' s1 s2 w b => ?_
  subst e
  exact ⟨v, .ty T, .type (tyD d'), .type T, isiD T d', rfl, .ty T, (b.rp w.fh n).ty hr, kit_ty (hk.at d'), k _ F' H' s1 s2 (w.t0 (.bl _))⟩

def aSeq (f : EF) : AF := fun env => (f env).bind fun d => match d with | .list ds => some ds | .tuple ds => some ds | _ => none
theorem itOk_list {a : Addr} {xs : List V} {ds : List D} (s : SqL K F a xs) (r : RpAll K F xs ds) : ItOk K F (Itl K a) ds where
  go := fun i F1 H e e2 hi => by
    have hx : i < xs.length := by rw [r.length]; exact hi
    exact ⟨xs, xs[i], sqL_up (e.trans e2) s, List.getElem?_eq_getElem hx⟩
  yld := fun i F1 H x H' e e2 ⟨hH, hx⟩ d hd => by
    subst hH
    obtain ⟨v, h1, h2⟩ := r.get hd
    have h3 := hx xs (sqL_up (e.trans e2) s)
    rw [h1] at h3
    cases h3
    exact ⟨F1, got_val e2 (h2.up e)⟩
  stop := fun i F1 H e e2 hi => ⟨xs, sqL_up (e.trans e2) s, by rw [r.length]; exact hi⟩
theorem itOk_tup {a : Addr} {xs : List V} {ds : List D} (s : F a = some (.tup xs)) (r : RpAll K F xs ds) : ItOk K F (Itt K a) ds where
  go := fun i F1 H e e2 hi => by
    have hx : i < xs.length := by rw [r.length]; exact hi
    exact ⟨xs, xs[i], SqT.of (e2 _ _ (e _ _ s)), List.getElem?_eq_getElem hx⟩
  yld := fun i F1 H x H' e e2 ⟨hH, hx⟩ d hd => by
    subst hH
    obtain ⟨v, h1, h2⟩ := r.get hd
    have h3 := hx xs (SqT.of (e2 _ _ (e _ _ s)))
    rw [h1] at h3
    cases h3
    exact ⟨F1, got_val e2 (h2.up e)⟩
  stop := fun i F1 H e e2 hi => ⟨xs, SqT.of (e2 _ _ (e _ _ s)), by rw [r.length]; exact hi⟩
theorem PI.or {tg iter : Expr} {w w' : TI} (h : PI X tg iter w) (h' : PI X tg iter w') : PI X tg iter (fun σ H R => w σ H R ∨ w' σ H R) :=
  ⟨fun pins s σ H R I q => q.elim (h.run pins s σ H R I) (h'.run pins s σ H R I)⟩
theorem si_seq {tg e : Expr} {f : EF} (h : SE X Γ e f 0 Γ') : SI X Γ tg e (aSeq f) Γ' := by
  obtain ⟨t, p, q⟩ := h
  refine ⟨_, PI.or (pi_list p) (pi_tup p), fun B σ env F H ds R r e k => ?_⟩
  obtain ⟨d, hd, e⟩ := Option.bind_eq_some_iff.mp e
  cases d with
  | list ds' =>
    cases e
    refine .inl (q B σ env F H _ _ r hd fun v F' H' s1 s2 w => ?_)
    obtain ⟨a, xs, rfl, s3, r3⟩ := Rp.vlst w.bw
    exact ⟨a, rfl, ⟨xs, sqL_up w.rel.fh s3⟩, k _ F' H' s1 s2 w.rel (itOk_list s3 r3)⟩
  | tuple ds' =>
    cases e
    refine .inr (q B σ env F H _ _ r hd fun v F' H' s1 s2 w => ?_)
    obtain ⟨a, xs, rfl, s3, r3⟩ := Rp.vtup w.bw
    exact ⟨a, rfl, ⟨xs, SqT.of (w.rel.fh _ _ s3)⟩, k _ F' H' s1 s2 w.rel (itOk_tup s3 r3)⟩
  | _ => cases e
def rngD (lo : Int) (n : Nat) : List D := (List.range n).map fun i => .int (lo + (i : Nat))
theorem itOk_rng (lo : Int) (n : Nat) : ItOk K F (Itr lo n) (rngD lo n) where
  go := fun i F1 H e e2 hi => by
    have : i < n := by simpa [rngD] using hi
    exact this
  yld := fun i F1 H x H' e e2 ⟨hH, hx⟩ d hd => by
    subst hH hx
    simp only [rngD, List.getElem?_map, Option.map_eq_some_iff] at hd
    obtain ⟨j, hj, rfl⟩ := hd
    obtain ⟨h1, h2⟩ := List.getElem?_eq_some_iff.mp hj
    simp at h2
    subst h2
    exact ⟨F1, got_val e2 (.int _)⟩
  stop := fun i F1 H e e2 hi => by
    have : n ≤ i := by simpa [rngD] using hi
    exact this
def aRng1 (fs : AF) : AF := fun env => (fs env).bind fun ds => match ds with | [.int n] => if -(2 ^ 62) ≤ n ∧ n < 2 ^ 62 then some (rngD 0 n.toNat) else none | _ => none
def aRng2 (fs : AF) : AF := fun env => (fs env).bind fun ds => match ds with | [.int a, .int b] => if -(2 ^ 62) ≤ a ∧ a < 2 ^ 62 ∧ -(2 ^ 62) ≤ b ∧ b < 2 ^ 62 then some (rngD a (b - a).toNat) else none | _ => none
theorem si_range1 {tg a : Expr} {fa : EF} {n : Nat} {p pos : Pos} (hg : Gl X "range") (hm : X.mg "range" = none) (ha : SB X Γ a fa n Γ') (hs : starEach [a] X.env = [(false, eval a X.env)] := by rfl) : SI X Γ tg (.Call (.Name "range" p) [a] [] pos) (aRng1 (aC fa aN)) Γ' := by
  obtain ⟨t, pa, q⟩ := sa_cons ha sa_nil hs
  refine ⟨_, pi_range1 hg hm pa hs, fun B σ env F H ds R r e k => ?_⟩
  obtain ⟨d, hd, e⟩ := Option.bind_eq_some_iff.mp e
  refine q B σ env F H d _ r hd fun v F' H' s1 s2 w b => ?_
  obtain ⟨d', v', e1, e2, b0⟩ := b.one
  subst e1 e2
  clear b
  have b := b0
  clear b0
  cases d' with
  | int m =>
    simp only at e
    split at e
    · rename_i c
      cases e
      rw [b.vint w.fh]
      exact ⟨m, rfl, c.1, c.2, k _ F' H' s1 s2 w (itOk_rng 0 _)⟩
    · cases e
  | _ => cases e
theorem si_range2 {tg a b : Expr} {fa fb : EF} {n m : Nat} {p pos : Pos} (hg : Gl X "range") (hm : X.mg "range" = none) (ha : SB X Γ a fa n Γ1) (hb : SB X Γ1 b fb m Γ') (hs : starEach [a, b] X.env = [(false, eval a X.env), (false, eval b X.env)] := by rfl) (hs2 : starEach [b] X.env = [(false, eval b X.env)] := by rfl) :
    SI X Γ tg (.Call (.Name "range" p) [a, b] [] pos) (aRng2 (aC fa (aC fb aN))) Γ' := by
  obtain ⟨t, pa, q⟩ := sa_cons ha (sa_cons hb sa_nil hs2) (by rw [hs, hs2])
  refine ⟨_, pi_range2 hg hm pa hs hs2, fun B σ env F H ds R r e k => ?_⟩
  obtain ⟨d, hd, e⟩ := Option.bind_eq_some_iff.mp e
  refine q B σ env F H d _ r hd fun v F' H' s1 s2 w b => ?_
  obtain ⟨d1, v1, d2, v2, rfl, rfl, b1, b2⟩ := b.two
  cases d1 with
  | int i =>
    cases d2 with
    | int j =>
      simp only at e
      split at e
      · rename_i c
        cases e
        rw [b1.vint w.fh, b2.vint w.fh]
        exact ⟨i, j, rfl, c, k _ F' H' s1 s2 w (itOk_rng i _)⟩
      · cases e
    | _ => cases e
  | _ => cases e
end
end Pf

set_option Elab.async false
set_option linter.all false
set_option maxRecDepth 100000
set_option maxHeartbeats 4000000
namespace Pf
open PySem L2
section
variable {X : Cx} {L : Lp} {Γ Γ0 Γ1 Γ2 Γ3 Γ' : Ctx} {K : PySem.W.Frag} {F F' H H' : Hp} {B : Bs}
theorem Slots.wipe1 : ∀ {Γ : Ctx} {σ : St} {env : List D} {f : Fp} {i : Nat}, Slots K F H Γ σ env f → Γ[i]? = some none → Slots K F H Γ (σ.set i none) env f
  | none :: Γ, s :: σ, d :: env, f, 0, h, _ => h
  | none :: Γ, s :: σ, d :: env, f, i + 1, h, e => Slots.wipe1 (Γ := Γ) (i := i) h (by simpa using e)
  | some n :: Γ, s :: σ, d :: env, f, 0, h, e => by simp at e
  | some n :: Γ, s :: σ, d :: env, f, i + 1, ⟨v, f1, f2, es, o, r, hf⟩, e => ⟨v, f1, f2, es, o, Slots.wipe1 (i := i) r (by simpa using e), hf⟩
  | [], _, _, _, _, _, e => by simp at e
  | _ :: _, [], _, _, _, h, _ | _ :: _, _ :: _, [], _, _, h, _ => by simp [Slots] at h
def ext (B : Bs) (F H : Hp) (g : Fp) : Bs := ⟨fun a => if 0 < g a then H a else B.H0 a, F⟩
structure ItOkG (K : PySem.W.Frag) (F Hb : Hp) (J : It) (ds : List D) : Prop where
  go : ∀ i F1 H, Same F F1 → Sub F1 H → Same Hb H → i < ds.length → J.go i H
  yld : ∀ i F1 H x H', Same F F1 → Sub F1 H → Same Hb H → J.yld i H x H' → ∀ d, ds[i]? = some d → ∃ F2, Got K F1 H F2 H' 0 d x
  stop : ∀ i F1 H, Same F F1 → Sub F1 H → Same Hb H → ds.length ≤ i → J.stop i H
def SIg (X : Cx) (Γ : Ctx) (tg iter : Expr) (f : AF) (Γ' : Ctx) : Prop :=
  ∃ wi : TI, PI X tg iter wi ∧ ∀ (B : Bs) (σ : St) (env : List D) (F H : Hp) (ds : List D) (R : It → Hp → Prop), Rel X.K B Γ σ env F H → f env = some ds →
    (∀ J F' H', Same F F' → Same H H' → Rel X.K B Γ' σ env F' H' → ItOkG X.K F' H' J ds → R J H') → wi σ H R
theorem SI.g {tg iter : Expr} {f : AF} (h : SI X Γ tg iter f Γ') : SIg X Γ tg iter f Γ' := by
  obtain ⟨wi, p, q⟩ := h
  exact ⟨wi, p, fun B σ env F H ds R r e k => q B σ env F H ds R r e fun J F' H' s1 s2 r' it => k J F' H' s1 s2 r' ⟨fun i F1 H a b _ => it.go i F1 H a b, fun i F1 H x H' a b _ => it.yld i F1 H x H' a b, fun i F1 H a b _ => it.stop i F1 H a b⟩⟩
theorem Slots.agree : ∀ {Γ : Ctx} {σ σ' : St} {env env' : List D} {f : Fp}, Slots K F H Γ σ env f → σ'.length = σ.length → env'.length = env.length → (∀ j : Nat, Γ[j]? = some none ∨ (σ'[j]? = σ[j]? ∧ env'[j]? = env[j]?)) → Slots K F H Γ σ' env' f
  | [], [], [], [], [], f, h, _, _, _ => h
  | none :: Γ, _ :: σ, _ :: σ', _ :: env, _ :: env', f, h, l1, l2, k => Slots.agree (Γ := Γ) h (by simpa using l1) (by simpa using l2) fun j => by simpa using k (j + 1)
  | some n :: Γ, s :: σ, s' :: σ', d :: env, d' :: env', f, ⟨v, f1, f2, es, o, r, hf⟩, l1, l2, k => by
    have k0 := k 0
    simp at k0
    obtain ⟨rfl, rfl⟩ := k0
    exact ⟨v, f1, f2, es, o, Slots.agree r (by simpa using l1) (by simpa using l2) fun j => by simpa using k (j + 1), hf⟩
  | [], [], _ :: _, _, _, _, _, h, _, _ => by simp at h
  | [], [], [], [], _ :: _, _, _, _, h, _ => by simp at h
  | _ :: _, _ :: _, [], _, _, _, _, h, _, _ => by simp at h
  | _ :: _, _ :: _, _ :: _, _ :: _, [], _, _, _, h, _ => by simp at h
  | [], _ :: _, _, _, _, _, h, _, _, _ | [], [], [], _ :: _, _, _, h, _, _, _ | _ :: _, [], _, _, _, _, h, _, _, _ | _ :: _, _ :: _, _ :: _, [], _, _, h, _, _, _ => by simp [Slots] at h
end
end Pf

set_option Elab.async false
set_option linter.all false
set_option maxRecDepth 100000
set_option maxHeartbeats 4000000
namespace Pf
open PySem L2
theorem hu64 {k : Nat} {A : Around} (hr : Room k A) : A.units + 64 < cLine := hr.units
theorem hu65 {k : Nat} {A : Around} (hr : Room k A) : A.units + 65 < cLine := by have z := hr.un; omega
theorem app_pe {X : Cx} {x : Str} {xpos apos cpos : Pos} {e : Expr} {i : Nat} (hx : PE X (.Name x xpos) (tVar i) := by exact pv _) (h3 : (apos.endLine == cpos.line) = true := by rfl) (h4 : starEach (e :: []) X.env = (false, eval e X.env) :: starEach [] X.env := by rfl) (h5 : (backTo cpos (starEach [] X.env)).any (·.1) = false := by rfl)
    (h1 : attributeBase (.Name x xpos) "append" X.env (eval (.Name x xpos) X.env) = eval (.Name x xpos) X.env := by rfl)
    (h2 : (((backTo cpos (starEach (e :: []) X.env)).all (fun x => !x.1)) && ((backToKw cpos (keywordEach [] X.env)).all (fun x => x.1.isSome)) && decide (((e :: []).length + ([] : List Keyword).length + (if ([] : List Keyword).isEmpty then 0 else 1)) < 30)) = true := by rfl) :
    ∀ ta, PA X [e] ta → PE X (.Call (.Attribute (.Name x xpos) "append" apos) [e] [] cpos) (tBM X.K "list" rAppend (tVar i) ta) := fun ta p =>
  pe_bm PySem.F.plainAttrs_list PySem.F.slot_list_append PySem.F.type_list_append (fun a b c d e f g h i j k => mt_append a b c d e f g h i j k) hx p h1 h2 h3 h4 h5
section
variable {X : Cx} {Γ Γ1 Γ2 Γ' : Ctx}
end
theorem rp_ints {K : PySem.W.Frag} {F : Hp} : ∀ ns : List Int, RpAll K F (ns.map V.int) (ns.map PyData.int)
  | [] => .nil
  | n :: ns => .cons (.int n) (rp_ints ns)
theorem pure_law {K : PySem.W.Frag} {H : Hp} {a : Addr} {ns : List Int} {f : List D → Option D} {E : XK} (h : f [.list (ns.map .int)] = some (.bool true)) (hS : SqL K H a (ns.map V.int)) (ht : TB H := by exact tb_nil) : Pure K 1 0 f [V.ref a] H (fun v _ => v = V.bl true) E :=
  ⟨H, _, _, ⟨Same.refl _, ht⟩, rfl, .cons (.lst hS (rp_ints ns)) .nil, h, fun v F' H' ⟨g, o, _⟩ => (Own.bw 0 o).vbl⟩
end Pf

set_option Elab.async false
set_option linter.all false
set_option maxRecDepth 100000
set_option maxHeartbeats 4000000
namespace Pf
open PySem L2
theorem pEq_str (a b : Str) : pEq (.str a) (.str b) = some (.bool (a == b)) := by simp [pEq, eqD, scalD, PyData.eqv]
theorem pEq_int (a b : Int) : pEq (.int a) (.int b) = some (.bool (a == b)) := by simp [pEq, eqD, scalD, PyData.eqv]
theorem pNe_str (a b : Str) : pNe (.str a) (.str b) = some (.bool (!(a == b))) := by simp [pNe, eqD, scalD, PyData.eqv]
theorem pNe_int (a b : Int) : pNe (.int a) (.int b) = some (.bool (!(a == b))) := by simp [pNe, eqD, scalD, PyData.eqv]
theorem seq_nx {f g : SF} {env e1 : List D} (h : f env = some (.nx e1)) : sSeq f g env = g e1 := by unfold sSeq; rw [h]; rfl
theorem set_nx {i : Nat} {f : EF} {env : List D} {d : D} (h : f env = some d) : sSet i f env = some (.nx (env.set i d)) := by unfold sSet; rw [h]; rfl
theorem if_tt {c : TF} {f g : SF} {env : List D} (h : c env = some true) : sIf c f g env = f env := by unfold sIf; rw [h]; rfl
theorem if_ff {c : TF} {f g : SF} {env : List D} (h : c env = some false) : sIf c f g env = g env := by unfold sIf; rw [h]; rfl
theorem ret_rt {f : EF} {env : List D} {d : D} (h : f env = some d) : sRet f env = some (.rt d) := by unfold sRet; rw [h]; rfl
theorem for_run {fs : AF} {g : D → List D → Option (List D)} {b : SF} {env : List D} {ds : List D} (h : fs env = some ds) : sForE fs g b env = sFor g b ds env := by unfold sForE; rw [h]; rfl
theorem e2_ok {g : D → D → Option D} {fa fb : EF} {env : List D} {x y d : D} (h : fa env = some x) (k : fb env = some y) (q : g x y = some d) : e2 g fa fb env = some d := by unfold e2; rw [h, Option.bind_some, k, Option.bind_some, q]
theorem eL_ok {g : List D → Option D} {fs : AF} {env : List D} {x : List D} {d : D} (h : fs env = some x) (q : g x = some d) : eL g fs env = some d := by unfold eL; rw [h, Option.bind_some, q]
theorem tT_ok {f : EF} {env : List D} {d : D} {b : Bool} (h : f env = some d) (k : truth d = some b) : tT f env = some b := by unfold tT; rw [h, Option.bind_some, k]
theorem tup_ok {fs : AF} {env ds : List D} (h : fs env = some ds) (hl : ds.length ≤ 16777216) : eTup fs env = some (.tuple ds) := by unfold eTup; rw [h, Option.bind_some, if_pos hl]
theorem tV_ok {f : EF} {env : List D} {b : Bool} (h : f env = some (.bool b)) : tV f env = some b := by unfold tV; rw [h]; rfl
theorem aC_ok {f : EF} {fs : AF} {env : List D} {d : D} {ds : List D} (h : f env = some d) (k : fs env = some ds) : aC f fs env = some (d :: ds) := by unfold aC; rw [h, Option.bind_some, k]; rfl
theorem runF_rt {ρ m N : Nat} {b : SF} {ds : List D} {d : D} (hl : ds.length = m) (h : b (ds ++ List.replicate (N - m) .none) = some (.rt d)) : runF ρ m N b ds = some d := by unfold runF; rw [if_pos hl, h]; rfl
theorem atI_of {α : Type} {xs : List α} {i : Int} {x : α} (h0 : 0 ≤ i) (h : xs[i.toNat]? = some x) : atI xs i = some x := by
  have hl := (List.getElem?_eq_some_iff.mp h).1
  have e : ixN xs.length i = some i.toNat := by unfold ixN; rw [if_pos h0, if_pos (by omega)]
  unfold atI
  rw [e]
  exact h
theorem atI_lit {α : Type} (xs : List α) (n : Nat) {x : α} (h : xs[n]? = some x) : atI xs (n : Int) = some x := atI_of (by omega) (by simpa using h)
theorem cdiv_ok {i j : Int} (h0 : 0 < j) (h : j < 2 ^ 100) : CDivW i j := by
  refine ⟨h0, Nat.lt_of_lt_of_le (PySem.Flt.log2_lt_of (k := 100) (by decide) ?_) (by decide)⟩
  omega
theorem cmul_ok {i j : Int} (h1 : -(2 ^ 1000) < i) (h2 : i < 2 ^ 1000) (h3 : -(2 ^ 1000) < j) (h4 : j < 2 ^ 1000) : CMulW i j :=
  wide_mul (a := 1000) (b := 1000) (by omega) (by omega) (by decide) (by decide) (by decide)
theorem pDiv_ok {i j : Int} (h0 : 0 < j) (h : j < 2 ^ 100) : pDiv (.int i) (.int j) = some (.int (i / j)) := by
  simp only [pDiv, iOp, if_pos (cdiv_ok (i := i) h0 h)]
theorem pMod_ok {i j : Int} (h0 : 0 < j) : pMod (.int i) (.int j) = some (.int (i % j)) := by
  simp only [pMod, iOp, if_pos h0]
theorem pMul_ok {i j : Int} (h1 : -(2 ^ 1000) < i) (h2 : i < 2 ^ 1000) (h3 : -(2 ^ 1000) < j) (h4 : j < 2 ^ 1000) : pMul (.int i) (.int j) = some (.int (i * j)) := by
  simp only [pMul, iOp, if_pos (cmul_ok h1 h2 h3 h4)]
theorem aRng1_int {fs : AF} {env : List D} {n : Int} (h : fs env = some [.int n]) (c : -(2 ^ 62) ≤ n ∧ n < 2 ^ 62) : aRng1 fs env = some (rngD 0 n.toNat) := by
  unfold aRng1
  rw [h]
  show (if -(2 ^ 62) ≤ n ∧ n < 2 ^ 62 then some (rngD 0 n.toNat) else none) = some (rngD 0 n.toNat)
  rw [if_pos c]
theorem aRng1_ok {fs : AF} {env : List D} {n : Nat} (h : fs env = some [.int (n : Int)]) (hn : n < 1000000000) : aRng1 fs env = some (rngD 0 n) := aRng1_int h (by omega)
theorem aRng2_ok {fs : AF} {env : List D} {a b : Int} (h : fs env = some [.int a, .int b]) (h1 : -1000000000000 < a) (h2 : a < 1000000000000) (h3 : -1000000000000 < b) (h4 : b < 1000000000000) : aRng2 fs env = some (rngD a (b - a).toNat) := by
  have c : -(2 ^ 62) ≤ a ∧ a < 2 ^ 62 ∧ -(2 ^ 62) ≤ b ∧ b < 2 ^ 62 := by omega
  unfold aRng2
  rw [h]
  show (if -(2 ^ 62) ≤ a ∧ a < 2 ^ 62 ∧ -(2 ^ 62) ≤ b ∧ b < 2 ^ 62 then some (rngD a (b - a).toNat) else none) = _
  rw [if_pos c]
end Pf

set_option Elab.async false
set_option linter.all false
set_option maxRecDepth 100000
set_option maxHeartbeats 4000000
namespace Pf
open PySem L2
section
variable {X : Cx} {L : Lp} {Γ Γ1 Γ2 Γ3 Γ' : Ctx} {K : PySem.W.Frag} {F F' H H' : Hp} {B : Bs}
theorem boot_str' : bootBuiltins "str" = some (.type "str") := by decide +kernel
def strD : List D → Option D
  | [.int i] => if i.natAbs.log2 < 1920 then some (.str (Str.ofString (toString i))) else none
  | _ => none
theorem sl_strI {n : Nat} : SL K (fun xs H Q => ∃ i, xs = [V.int i] ∧ i.natAbs.log2 < 1920 ∧ Q (V.str (Str.ofString (toString i))) H) [n] 0 strD := by
  intro F H xs ds d Q s b e k
  obtain ⟨da, v, rfl, rfl, b0⟩ := b.one
  match da, b0, e with
  | .int i, b0, e =>
    simp only [strD] at e
    split at e
    · rename_i c
      cases e
      exact ⟨i, by rw [b0.vint s], c, k _ F H (got_val s (.str _))⟩
    · cases e
theorem se_strOf {p pos : Pos} {e : Expr} {fa : EF} {n : Nat} (hg : Gl X "str") (hm : X.mg "str" = none) (ha : SB X Γ e fa n Γ1) (he : starEach (e :: []) X.env = (false, eval e X.env) :: starEach [] X.env := by rfl) (hpl : (backTo pos (starEach [] X.env)).any (·.1) = false := by rfl) :
    SE X Γ (.Call (.Name "str" p) [e] [] pos) (eL strD (aC fa aN)) 0 Γ1 := se_callTy call_str_int sl_strI hg hm boot_str' (sa_cons ha sa_nil he) (by decide) (by decide) he hpl
section
variable {a b : Expr} {pos : Pos} {fa fb : EF} {na nb : Nat}
end
theorem ss_aug {x : Str} {i n m : Nat} {op : Operator} {e : Expr} {fe : EF} {pos pos' : Pos} {f : Int → Int → Int} (ho : PIp X op (ipI f)) (hN : X.N.Nodup) (hi0 : Γ[i]? = some (some n)) (he : SE X Γ e fe m Γ1) (hpin : i ∉ L.pin := by first | decide | simp) (hl : i < Γ1.length := by decide) (hi : X.N[i]? = some x := by rfl) (hx : Loc X.env.scope x := by first | exact .inl rfl | exact .inr rfl)
    (hf : X.fn x = true ∨ X.env.scope.names.lookup x = some .local := by first | exact .inl rfl | exact .inr rfl) : SS X L Γ (.AugAssign (.Name x pos') op e pos) (sSet i (e2 (iOp0 fun a b => .int (f a b)) (eV i) fe)) (Γ1.set i (some 0)) := by
  obtain ⟨t, p, q⟩ := he
  refine ⟨_, ps_aug hN hi hx p ho hf, fun B σ env F H o E r e k => ?_⟩
  obtain ⟨d, hd, e⟩ := Option.bind_eq_some_iff.mp e
  cases e
  obtain ⟨y, z, hy, hz, hg⟩ := bind2 hd
  obtain ⟨v, d', h1, h2, h3, _⟩ := r.slot hi0
  rw [eV, h2] at hy
  cases hy
  refine ⟨v, h1, q B σ env F H z _ r hz fun u F1 H1 s1 t1 r1 => ?_⟩
  match y, z, h3, r1, hg with
  | .int a, .int b, h3, r1, hg =>
    cases hg
    refine ⟨a, b, h3.vint r.fh, r1.bw.vint r1.rel.fh, ?_⟩
    exact k _ F1 H1 s1 ((r1.rel.t0 (.int _)).put hl) (.set hpin)
theorem Rp.flatUp {v : V} {d : D} (h : Rp K F v d) (e : flatD d = true) : Rp K F' v d := by
  cases h with
  | non => exact .non
  | bl b => exact .bl b
  | int i => exact .int i
  | str x => exact .str x
  | lst _ _ => cases e
  | tup _ _ => cases e
  | dic _ _ _ => cases e
def flatF (g : List D → Option D) : List D → Option D := fun ds => (g ds).bind fun d => if flatD d = true then some d else none
theorem BwL.rpH (e : Sub F H) : ∀ {ns : List Nat} {ds : List D} {vs : List V}, BwL K F H ns ds vs → RpAll K H vs ds
  | [], [], [], _ => .nil
  | n :: ns, d :: ds, v :: vs, ⟨a, b⟩ => .cons (a.rp e n) (BwL.rpH e b)
  | [], [], _ :: _, h | [], _ :: _, _, h | _ :: _, [], _, h | _ :: _, _ :: _, [], h => by simp [BwL] at h
theorem BwL.lenV : ∀ {ns : List Nat} {ds : List D} {vs : List V}, BwL K F H ns ds vs → vs.length = ns.length
  | [], [], [], _ => rfl
  | n :: ns, d :: ds, v :: vs, ⟨a, b⟩ => by simp [BwL.lenV b]
  | [], [], _ :: _, h | [], _ :: _, _, h | _ :: _, [], _, h | _ :: _, _ :: _, [], h => by simp [BwL] at h
theorem se_lend {k : Nat} {f : Addr} {fd : FuncData} {ps : List Str} {x : Str} {p pos : Pos} {e : Expr} {es : List Expr} {fs : AF} {ns : List Nat} {m : Nat} {g : List D → Option D}
    (G : FnOk X.prog X.w X.K X.mg X.base CX0 k f fd ps (Pure X.K m 0 g)) (hr : Room k X.A) (hg : Gl X x) (hm : X.mg x = some (.ref f)) (hk : PySem.W.keepIn X.K (.ref f) = true) (hb : Binds X.K fd ps [])
    (ha : SA X Γ (e :: es) fs ns Γ1) (hl : ns.length = m := by rfl) (hdb : (x == ("__debug__" : Str)) = false := by decide) (he : starEach (e :: es) X.env = (false, eval e X.env) :: starEach es X.env := by rfl) (hpl : (backTo pos (starEach es X.env)).any (·.1) = false := by rfl) :
    SE X Γ (.Call (.Name x p) (e :: es) [] pos) (eL (flatF g) fs) 0 Γ1 := by
  obtain ⟨ta, pa, qa⟩ := ha
  refine ⟨_, pe_call G hr hg hm hk hb .nil pass0 pa hdb he hpl, fun B σ env F H d Q rr e' k => ?_⟩
  obtain ⟨ds, hx, hgd⟩ := Option.bind_eq_some_iff.mp e'
  obtain ⟨d', hgd, e'⟩ := Option.bind_eq_some_iff.mp hgd
  split at e'
  case isFalse => cases e'
  rename_i hfl
  cases e'
  refine qa B σ env F H ds _ rr hx fun vs F1 H1 s1 t1 r1 b1 => ?_
  refine ⟨H1, ds, d, ⟨Same.refl _, r1.fh.th⟩, by simpa using b1.lenV.trans hl, by simpa using b1.rpH r1.fh, hgd, fun v F2 H2 got => ?_⟩
  obtain ⟨g', o, q⟩ := got
  have hv : Rp X.K F1 v d := (Own.bw 0 o : Rp X.K F2 v d).flatUp hfl
  have got2 : Got X.K F1 H1 F1 H2 0 d v := ⟨fun _ => 0, ⟨hv, fun _ => rfl⟩, ⟨r1.fh.up q.h0, q.h0, Same.refl _, fun _ _ h => .inl h, fun _ => Nat.zero_le _, fun _ h => absurd h (Nat.lt_irrefl _)⟩⟩
  obtain ⟨s3, t3, r3⟩ := r1.got got2
  exact k _ _ _ (s1.trans s3) (t1.trans t3) r3
def SM (K : PySem.W.Frag) (r : V → List V → Hp → VK → Prop) (ns : List Nat) (n : Nat) (g : Str → List D → Option D) : Prop := ∀ (F H : Hp) (x : Str) (xs : List V) (ds : List D) (d : D) (Q : VK), Sub F H → BwL K F H ns ds xs → g x ds = some d →
  (∀ v F' H', Got K F H F' H' n d v → Q v H') → r (.str x) xs H Q
def eM (g : Str → List D → Option D) (fo : EF) (fs : AF) : EF := fun env => (fo env).bind fun x => match x with | .str s => (fs env).bind fun ds => g s ds | _ => none
theorem se_mS {o e : Expr} {es : List Expr} {name : Str} {id : String} {apos cpos : Pos} {r : V → List V → Hp → VK → Prop} {fo : EF} {no : Nat} {fs : AF} {ns : List Nat} {n : Nat} {g : Str → List D → Option D} (hs : Slot "str" name id) (ht : typeOf (.builtin id) = pure (.type "method_descriptor")) (hm : MtR X id r) (hr : SM X.K r ns n g) (ho : SB X Γ o fo no Γ1) (ha : SA X Γ1 (e :: es) fs ns Γ2)
    (h1 : attributeBase o name X.env (eval o X.env) = eval o X.env := by rfl)
    (h2 : (((backTo cpos (starEach (e :: es) X.env)).all (fun x => !x.1)) && ((backToKw cpos (keywordEach [] X.env)).all (fun x => x.1.isSome)) && decide (((e :: es).length + ([] : List Keyword).length + (if ([] : List Keyword).isEmpty then 0 else 1)) < 30)) = true := by rfl)
    (h3 : (apos.endLine == cpos.line) = true := by rfl) (h4 : starEach (e :: es) X.env = (false, eval e X.env) :: starEach es X.env := by rfl) (h5 : (backTo cpos (starEach es X.env)).any (·.1) = false := by rfl) :
    SE X Γ (.Call (.Attribute o name apos) (e :: es) [] cpos) (eM g fo fs) n Γ2 := by
  obtain ⟨to, po, qo⟩ := ho
  obtain ⟨ta, pa, qa⟩ := ha
  refine ⟨_, pe_bm PySem.F.plainAttrs_str hs ht hm po pa h1 h2 h3 h4 h5, fun B σ env F H d Q rr e' k => ?_⟩
  obtain ⟨x, hx, e'⟩ := Option.bind_eq_some_iff.mp e'
  refine qo B σ env F H x _ rr hx fun v F1 H1 s1 t1 r1 b1 => ?_
  match x, b1, e' with
  | .str x, b1, e' =>
    obtain ⟨ds, hds, e'⟩ := Option.bind_eq_some_iff.mp e'
    have ev : v = .str x := (b1.rp r1.fh no).vstr
    subst ev
    refine ⟨rfl, qa B σ env F1 H1 ds _ r1 hds fun vs F2 H2 s2 t2 r2 b2 => ?_⟩
    refine hr F2 H2 x vs ds d Q r2.fh b2 e' fun w F3 H3 got => ?_
    obtain ⟨s3, t3, r3⟩ := r2.got got
    exact k w F3 H3 ((s1.trans s2).trans s3) ((t1.trans t2).trans t3) r3
def mSI (f : Str → Str → Int → D) : Str → List D → Option D := fun x ds => match ds with
  | [.str y, .int i] => some (f x y i)
  | _ => none
def mS1 (f : Str → Str → D) : Str → List D → Option D := fun x ds => match ds with
  | [.str y] => some (f x y)
  | _ => none
theorem sm_SI {f : Str → Str → Int → D} {u : Str → Str → Int → V} {na nb : Nat} (h : ∀ K F x y i, Rp K F (u x y i) (f x y i)) : SM K (fun x xs H Q => ∃ a b i, x = V.str a ∧ xs = [V.str b, V.int i] ∧ Q (u a b i) H) [na, nb] 0 (mSI f) := by
  intro F H x xs ds d Q s b e k
  obtain ⟨d1, v1, d2, v2, rfl, rfl, b1, b2⟩ := b.two
  match d1, d2, b1, b2, e with
  | .str y, .int i, b1, b2, e => cases e; exact ⟨x, y, i, rfl, by rw [(b1.rp s na).vstr, b2.vint s], k _ F H (got_val s (h _ _ _ _ _))⟩
theorem sm_S1 {f : Str → Str → D} {u : Str → Str → V} {na : Nat} (h : ∀ K F x y, Rp K F (u x y) (f x y)) : SM K (fun x xs H Q => ∃ a b, x = V.str a ∧ xs = [V.str b] ∧ Q (u a b) H) [na] 0 (mS1 f) := by
  intro F H x xs ds d Q s b e k
  obtain ⟨d1, v1, rfl, rfl, b1⟩ := b.one
  match d1, b1, e with
  | .str y, b1, e => cases e; exact ⟨x, y, rfl, by rw [(b1.rp s na).vstr], k _ F H (got_val s (h _ _ _ _))⟩
def pSlS (d : D) (l h : Option Int) : Option D := match d with
  | .str x => if x.length ≤ 16777216 then some (.str (cutS x l h)) else none
  | _ => none
theorem se_slS {a : Expr} {lo hi : Option Expr} {p2 pos : Pos} {fa : EF} {fl fh : List D → Option (Option Int)} {na : Nat} {Γ3 : Ctx} (ha : SB X Γ a fa na Γ1) (hl : SO X Γ1 lo fl Γ2) (hh : SO X Γ2 hi fh Γ3) :
    SE X Γ (.Subscript a (.Slice lo hi none p2) pos) (eSl pSlS fa fl fh) 0 Γ3 := by
  refine se_sl L2.sl_str (fun F H x da d l h Q s a e k => ?_) ha hl hh
  match da, a, e with
  | .str z, a, e =>
    simp only [pSlS] at e
    split at e
    · rename_i c
      cases e
      exact ⟨z, (a.rp s na).vstr, szLine c, k _ F H (got_val s (.str _))⟩
    · cases e
theorem RpAll.set : ∀ {vs : List V} {ds : List D} {j : Nat} {v : V} {d : D}, RpAll K F vs ds → Rp K F v d → RpAll K F (vs.set j v) (ds.set j d)
  | _, _, _, _, _, .nil, _ => .nil
  | _, _, 0, _, _, .cons a b, h => .cons h b
  | _, _, j + 1, _, _, .cons a b, h => .cons a (RpAll.set b h)
end
end Pf

set_option Elab.async false
set_option linter.all false
set_option maxRecDepth 100000
set_option maxHeartbeats 4000000
namespace Pf
open PySem L2
def toK : D → Option Key
  | .int i => some (.inl i)
  | .str x => some (.inr x)
  | _ => none
def toKs : List D → Option (List Key)
  | [] => some []
  | d :: ds => (toK d).bind fun k => (toKs ds).map (k :: ·)
def toKT : D → Option (List Key)
  | .tuple ds => toKs ds
  | _ => none
section
variable {κ : Type} [DecidableEq κ]
end
def valN (l : NL) (k : NestedKey) : Option V := (l.find? fun p => decide (p.1 = k)).map (·.2.2)
def putN (l : NL) (k : NestedKey) (b : Addr) (v : V) : NL := if (valN l k).isSome = true then l.map (fun p => if p.1 = k then (p.1, p.2.1, v) else p) else l ++ [(k, b, v)]
theorem NRel.val {l : NL} {xs : List (NestedKey × Addr × Value)} (r : NRel l xs) (k : NestedKey) : RelO (valN l k) ((atKey xs k).map (·.2)) := by
  unfold NRel at r
  induction r with
  | nil => exact True.intro
  | @cons p q ps qs h t ih =>
    obtain ⟨h1, _, h2⟩ := h
    by_cases e : p.1 = k
    · have e' : q.1 = k := h1.symm.trans e
      have b : atKey (q :: qs) k = some q.2 := by simp [atKey, List.find?_cons, e']
      have c : valN (p :: ps) k = some p.2.2 := by simp [valN, List.find?_cons, e]
      rw [c, b]; exact h2
    · have e' : ¬ q.1 = k := fun z => e (h1.trans z)
      have b : atKey (q :: qs) k = atKey qs k := by simp [atKey, List.find?_cons, e']
      have c : valN (p :: ps) k = valN ps k := by simp [valN, List.find?_cons, e]
      rw [c, b]; exact ih
theorem NRel.put {l : NL} {xs : List (NestedKey × Addr × Value)} (r : NRel l xs) (k : NestedKey) {b : Addr} {y : V} {u : Value} (ry : RelV y u) : NRel (putN l k b y) (storedH xs k b u) := by
  have e : (valN l k).isSome = (atKey xs k).isSome := by rw [(r.val k).isSome_eq, Option.isSome_map]
  unfold putN storedH
  rw [e]
  by_cases q : (atKey xs k).isSome = true
  · rw [if_pos q, if_pos q]
    unfold NRel at r ⊢
    clear e q
    induction r with
    | nil => exact .nil
    | @cons p q ps qs h t ih =>
      rw [List.map_cons, List.map_cons]
      refine .cons ?_ ih
      obtain ⟨h1, h2, h3⟩ := h
      unfold putAt
      by_cases e : p.1 = k
      · rw [if_pos e, if_pos (h1.symm.trans e)]; exact ⟨h1, h2, ry⟩
      · rw [if_neg e, if_neg (fun z => e (h1.trans z))]; exact ⟨h1, h2, h3⟩
  · rw [if_neg q, if_neg q]; exact Paired.snoc r ⟨rfl, rfl, ry⟩
section
variable {X : Cx} {pins : List (Addr × Obj)} {σ : St} {H : Hp} {s : Shared} {a : Addr} {y v : V} {u r : Value} {o : Option V} {A : Around} {E : Value → Shared → Prop}
end
section
variable {X : Cx} {o i e value : Expr} {pos pos' tpos : Pos} {td ty tv : TE}
end
section
variable {X : Cx} {L : Lp} {Γ Γ1 Γ2 Γ3 Γ' : Ctx} {K : PySem.W.Frag} {F F' H H' : Hp} {B : Bs}
theorem Rp.key {v : V} {d : D} {k : Key} (h : Rp K F v d) (e : toK d = some k) : v = kV k := by
  cases h <;> simp [toK] at e <;> subst e <;> rfl
theorem RpAll.keys : ∀ {vs : List V} {ds : List D} {ks : List Key}, RpAll K F vs ds → toKs ds = some ks → vs = ks.map kV
  | _, _, _, .nil, e => by cases e; rfl
  | _, _, _, .cons a b, e => by
    obtain ⟨k, h1, h2⟩ := Option.bind_eq_some_iff.mp e
    obtain ⟨ks, h3, rfl⟩ := Option.map_eq_some_iff.mp h2
    rw [a.key h1, RpAll.keys b h3]; rfl
theorem Rp.keyT {v : V} {d : D} {k : List Key} (h : Rp K F v d) (e : toKT d = some k) : ∃ b, v = .ref b ∧ F b = some (.tup (k.map kV)) := by
  cases h with
  | tup s r => exact ⟨_, rfl, by rw [s, r.keys e]⟩
  | _ => simp [toKT] at e
theorem rpAll_bw : ∀ {vs : List V} {ds : List D}, RpAll K F vs ds → BwAll (fun d v => Rp K F v d) ds vs
  | _, _, .nil => trivial
  | _, _, .cons a b => ⟨a, rpAll_bw b⟩
theorem Bw.dic {n : Nat} {v : V} {kvs : List (D × D)} (s : Sub F H) (h : Bw K F H n (.dict kvs) v) : ∃ a o vs, v = .ref a ∧ H a = some o ∧ DicO a o kvs vs ∧ BwAll (Bw K F H (n - 1)) (kvs.map (·.2)) vs := by
  cases n with
  | zero =>
    obtain ⟨a, o, vs, e, h1, h2, h3⟩ := Rp.vdic (show Rp K F v (.dict kvs) from h)
    exact ⟨a, o, vs, e, s _ _ h1, h2, rpAll_bw h3⟩
  | succ n => exact h
theorem own0_zero : ∀ {ds : List D} {vs : List V} {f : Fp}, OwnAll (Own K F H 0) ds vs f → ∀ b, f b = 0
  | [], [], _, h, b => h b
  | _ :: _, _ :: _, f, ⟨f1, f2, hp, hq, he⟩, b => by have := he b; have := hp.2 b; have := own0_zero hq b; omega
  | [], _ :: _, _, h, _ => h.elim
  | _ :: _, [], _, h, _ => h.elim
end
end Pf

set_option Elab.async false
set_option linter.all false
set_option maxRecDepth 100000
set_option maxHeartbeats 4000000
namespace Pf
open PySem L2
section
variable {X : Cx} {L : Lp} {Γ Γ1 Γ2 Γ3 Γ' : Ctx} {K : PySem.W.Frag} {F F' H H' : Hp} {B : Bs}
theorem own0_rp : ∀ {ds : List D} {vs : List V} {f : Fp}, OwnAll (Own K F H 0) ds vs f → RpAll K F vs ds := fun oa => OwnAll.frz (fun d v f h => h.1) oa
theorem app_nx {i : Nat} {f : EF} {env : List D} {d : D} {ds : List D} (h : f env = some d) (hx : env[i]? = some (.list ds)) (hz : ds.length < 16777216) : sApp i f env = some (.nx (env.set i (.list (ds ++ [d])))) := by
  unfold sApp
  rw [h, Option.bind_some, hx, Option.bind_some]
  exact if_pos hz
end
end Pf

set_option Elab.async false
set_option linter.all false
set_option maxRecDepth 100000
set_option maxHeartbeats 4000000
namespace Pf
open PySem L2
section
variable {X : Cx} {L : Lp} {Γ Γ0 Γ1 Γ2 Γ3 Γ4 Γ5 Γ6 Γ7 Γ8 Γ' : Ctx} {K : PySem.W.Frag} {F F' H H' : Hp} {B : Bs}
structure SameBut (D : Addr) (H H' : Hp) : Prop where
  st : ∀ b u, b ≠ D → H b = some u → NT u → H' b = some u
  dom : ∀ b, H' b = none → H b = none
  tb : TB H → TB H'
theorem SameBut.refl {D : Addr} {H : Hp} : SameBut D H H := ⟨fun _ _ _ h _ => h, fun _ h => h, id⟩
theorem SameBut.trans {D : Addr} {H H1 H2 : Hp} (a : SameBut D H H1) (b : Same H1 H2) : SameBut D H H2 := ⟨fun c o d h n => b.st c o (a.st c o d h n) n, fun c h => a.dom c (b.dom c h), fun t => b.tb (a.tb t)⟩
theorem SameBut.put {D : Addr} {H H1 : Hp} {o u : HO} (a : SameBut D H H1) (h : H1 D = some u) (n1 : NT u := by first | assumption | (intro ps z; cases z; done) | (intro ps z; unfold LamX.CodeO at z; cases z; done) | exact DicO.nt (by assumption) | exact DicO.nc (by assumption) | exact fun _ => dn_nc | (intro ps z; unfold DN at z; cases z; done) | fail) (n2 : ∀ q, u ≠ LamX.CodeO D q := by first | assumption | (intro ps z; cases z; done) | (intro ps z; unfold LamX.CodeO at z; cases z; done) | exact DicO.nt (by assumption) | exact DicO.nc (by assumption) | exact fun _ => dn_nc | (intro ps z; unfold DN at z; cases z; done) | fail) : SameBut D H (upd H1 D o) :=
  ⟨fun c v d e n => by rw [upd_ne d]; exact a.st c v d e n, fun c e => by
    by_cases d : c = D
    · subst d; rw [upd_same] at e; cases e
    · rw [upd_ne d] at e; exact a.dom c e, fun t => tb_put (a.tb t) h n1 n2⟩
instance : ∀ i j, Decidable (CMul i j) := fun i j => by unfold CMul; infer_instance
end
end Pf

set_option Elab.async false
set_option linter.all false
set_option maxRecDepth 100000
set_option maxHeartbeats 4000000
namespace Pf
open PySem L2
section
variable {X : Cx} {L : Lp} {Γ Γ0 Γ1 Γ2 Γ3 Γ4 Γ5 Γ6 Γ7 Γ8 Γ' : Ctx} {K : PySem.W.Frag} {F F' H H' : Hp} {B : Bs}
end
end Pf

set_option Elab.async false
set_option linter.all false
set_option maxRecDepth 100000
set_option maxHeartbeats 4000000
namespace Pf
open PySem L2
inductive Kd where | lst | tup
section
variable {P : Program} {w : World} {K : PySem.W.Frag}
variable {X : Cx} {Γ Γ1 Γ2 Γ3 Γ' : Ctx} {F F' H H' : Hp}
end
end Pf

set_option Elab.async false
set_option linter.all false
set_option maxRecDepth 100000
set_option maxHeartbeats 4000000
namespace Pf
open PySem L2
section
variable {P : Program} {w : World} {K : PySem.W.Frag}
variable {X : Cx} {Γ Γ1 Γ2 Γ3 Γ' : Ctx} {F F' H H' : Hp}
end
end Pf

set_option Elab.async false
set_option linter.all false
set_option maxRecDepth 100000
set_option maxHeartbeats 4000000
namespace Pf
open PySem L2
section
variable {X : Cx} {L : Lp} {Γ Γ0 Γ1 Γ2 Γ3 Γ4 Γ' : Ctx} {K : PySem.W.Frag} {F F' H H' : Hp} {B : Bs}
theorem PE.or' {e : Expr} {t t' : TE} (h : PE X e t) (h' : PE X e t') : PE X e (fun σ H Q => t σ H Q ∨ t' σ H Q) :=
  ⟨fun pins s σ H Q I q => q.elim (h.run pins s σ H Q I) (h'.run pins s σ H Q I)⟩
theorem SE.or {e : Expr} {f f1 f2 : EF} {n : Nat} (h1 : SE X Γ e f1 n Γ') (h2 : SE X Γ e f2 n Γ') (hf : ∀ env d, f env = some d → f1 env = some d ∨ f2 env = some d) : SE X Γ e f n Γ' := by
  obtain ⟨t1, p1, q1⟩ := h1
  obtain ⟨t2, p2, q2⟩ := h2
  refine ⟨_, PE.or' p1 p2, fun B σ env F H d Q r e k => ?_⟩
  rcases hf env d e with e | e
  · exact .inl (q1 B σ env F H d Q r e k)
  · exact .inr (q2 B σ env F H d Q r e k)
end
end Pf

set_option Elab.async false
set_option linter.all false
set_option maxRecDepth 100000
set_option maxHeartbeats 4000000
namespace Pf
open PySem L2
section
variable {X : Cx} {L : Lp} {Γ Γ1 Γ2 Γ3 Γ' : Ctx} {K : PySem.W.Frag} {F F' H H' : Hp} {B : Bs}
structure Shw (d : D) : Prop where
  nd : nd d = true
  sh : d.showable = true
  dp : d.depth ≤ 64
  sz : d.shown.length ≤ 16777216
instance {d : D} : Decidable (Shw d) := decidable_of_iff (nd d = true ∧ d.showable = true ∧ d.depth ≤ 64 ∧ d.shown.length ≤ 16777216) ⟨fun h => ⟨h.1, h.2.1, h.2.2.1, h.2.2.2⟩, fun h => ⟨h.nd, h.sh, h.dp, h.sz⟩⟩
end
end Pf

set_option Elab.async false
set_option linter.all false
set_option maxRecDepth 100000
set_option maxHeartbeats 4000000
namespace Pf
open PySem L2
def thenO (o : Option Out) (g : SF) : Option Out := o.bind fun o => match o with | .nx e => g e | .rt d => some (.rt d) | .bk e => some (.bk e) | .ct e => some (.ct e)
theorem r_seq {f g : SF} {env : List D} : sSeq f g env = thenO (f env) g := rfl
theorem r_nx {e : List D} {g : SF} : thenO (some (.nx e)) g = g e := rfl
theorem r_skip {env : List D} : sSkip env = some (.nx env) := rfl
theorem r_V {i : Nat} {env : List D} : eV i env = env[i]? := rfl
def b2 (g : D → D → Option D) (a b : Option D) : Option D := a.bind fun x => b.bind fun y => g x y
def b1 (g : D → Option D) (a : Option D) : Option D := a.bind g
def c2 (a : Option D) (b : Option (List D)) : Option (List D) := a.bind fun x => b.bind fun xs => some (x :: xs)
theorem r_rng2 {a b : Int} {f g : EF} {env : List D} (ha : f env = some (.int a)) (hb : g env = some (.int b)) (h1 : -1000000000000 < a) (h2 : a < 1000000000000) (h3 : -1000000000000 < b) (h4 : b < 1000000000000) : aRng2 (aC f (aC g aN)) env = some (rngD a (b - a).toNat) :=
  aRng2_ok (aC_ok ha (aC_ok hb rfl)) h1 h2 h3 h4
def slO (g : D → Option Int → Option Int → Option D) (a : Option D) (l h : Option (Option Int)) : Option D := a.bind fun x => l.bind fun l => h.bind fun h => g x l h
theorem r_sl {g : D → Option Int → Option Int → Option D} {fa : EF} {fl fh : List D → Option (Option Int)} {env : List D} : eSl g fa fl fh env = slO g (fa env) (fl env) (fh env) := rfl
def osO (o : Option D) : Option (Option Int) := o.bind fun d => match d with | .int i => some (some i) | _ => none
theorem r_oS {f : EF} {env : List D} : oS f env = osO (f env) := rfl
theorem r_addI {a b : Int} : pAdd (.int a) (.int b) = some (.int (a + b)) := rfl
theorem r_subI {a b : Int} : pSub (.int a) (.int b) = some (.int (a - b)) := rfl
theorem r_gtI {a b : Int} : pGt (.int a) (.int b) = some (.bool (decide (b < a))) := rfl
theorem r_lenL {xs : List D} : lenD [.list xs] = some (.int xs.length) := rfl
theorem r_minI {a b : Int} : minD [.int a, .int b] = some (.int (if b < a then b else a)) := rfl
def asgO (g : D → List D → Option (List D)) (o : Option D) (env : List D) : Option Out := o.bind fun d => (g d env).bind fun env' => some (.nx env')
theorem r_asg {g : D → List D → Option (List D)} {f : EF} {env : List D} : sAsg g f env = asgO g (f env) env := rfl
theorem pMul_sm {i j : Int} (h1 : -1000000000000000000 ≤ i) (h2 : i ≤ 1000000000000000000) (h3 : -1000000000000000000 ≤ j) (h4 : j ≤ 1000000000000000000) : pMul (.int i) (.int j) = some (.int (i * j)) :=
  pMul_ok (Int.lt_of_lt_of_le (by decide) h1) (Int.lt_of_le_of_lt h2 (by decide)) (Int.lt_of_lt_of_le (by decide) h3) (Int.lt_of_le_of_lt h4 (by decide))
def Stp (o : Option Out) (I : List D → Prop) (R : D → Prop) (S : List D → Prop) : Prop := match o with
  | some (.nx e) => I e
  | some (.ct e) => I e
  | some (.rt d) => R d
  | some (.bk e) => S e
  | none => False
def StG (o : Option (List D)) (body : SF) (I : List D → Prop) (R : D → Prop) (S : List D → Prop) : Prop := match o with
  | some e => Stp (body e) I R S
  | none => False
theorem for_stop {α : Type} {enc : α → D} {g : D → List D → Option (List D)} {body : SF} (I : List α → List D → Prop) (R : List α → α → D → Prop) (S : List α → α → List D → Prop) : ∀ {xs done : List α} {env : List D}, I done env →
    (∀ a x b e, done ++ xs = a ++ x :: b → I a e → StG (g (enc x) e) body (I (a ++ [x])) (R a x) (S a x)) →
    (∃ e', sFor g body (xs.map enc) env = some (.nx e') ∧ I (done ++ xs) e') ∨ (∃ a x b d, done ++ xs = a ++ x :: b ∧ sFor g body (xs.map enc) env = some (.rt d) ∧ R a x d) ∨ (∃ a x b e', done ++ xs = a ++ x :: b ∧ sFor g body (xs.map enc) env = some (.nx e') ∧ S a x e')
  | [], done, env, h0, _ => .inl ⟨env, rfl, by simpa using h0⟩
  | x :: xs, done, env, h0, hs => by
    have h2 := hs done x xs env rfl h0
    rw [List.map_cons]
    cases hg : g (enc x) env with
    | none => rw [hg] at h2; exact h2.elim
    | some e1 =>
      rw [hg] at h2
      have h2 : Stp (body e1) (I (done ++ [x])) (R done x) (S done x) := h2
      have go : ∀ e2, (body e1 = some (.nx e2) ∨ body e1 = some (.ct e2)) → I (done ++ [x]) e2 → (∃ e', sFor g body (enc x :: xs.map enc) env = some (.nx e') ∧ I (done ++ x :: xs) e') ∨ (∃ a y b d, done ++ x :: xs = a ++ y :: b ∧ sFor g body (enc x :: xs.map enc) env = some (.rt d) ∧ R a y d) ∨ (∃ a y b e', done ++ x :: xs = a ++ y :: b ∧ sFor g body (enc x :: xs.map enc) env = some (.nx e') ∧ S a y e') := by
        intro e2 h2 h3
        have ih := for_stop (xs := xs) (done := done ++ [x]) I R S h3 (fun a y b e q => hs a y b e (by rw [← q]; simp))
        have step : sFor g body (enc x :: xs.map enc) env = sFor g body (xs.map enc) e2 := by
          rcases h2 with h2 | h2 <;> simp only [sFor, hg, Option.bind_some, h2]
        rw [step]
        simpa only [List.append_assoc, List.singleton_append] using ih
      cases hb : body e1 with
      | none => rw [hb] at h2; exact h2.elim
      | some o =>
        rw [hb] at h2
        cases o with
        | nx e2 => exact go e2 (.inl hb) h2
        | ct e2 => exact go e2 (.inr hb) h2
        | rt d => exact .inr (.inl ⟨done, x, xs, d, rfl, by simp only [sFor, hg, Option.bind_some, hb], h2⟩)
        | bk e2 => exact .inr (.inr ⟨done, x, xs, e2, rfl, by simp only [sFor, hg, Option.bind_some, hb], h2⟩)
theorem rng_at {n x : Nat} {a b : List Nat} (h : List.range n = a ++ x :: b) : x = a.length ∧ a = List.range a.length ∧ x < n := by
  have l : n = a.length + (b.length + 1) := by have := congrArg List.length h; simpa using this
  have g : (List.range n)[a.length]? = some x := by rw [h]; simp
  have x1 : x = a.length := by
    rw [List.getElem?_range (by omega)] at g
    exact (Option.some.inj g).symm
  refine ⟨x1, ?_, by omega⟩
  have t : (List.range n).take a.length = a := by rw [h]; simp
  rw [List.take_range] at t
  rw [show min a.length n = a.length by omega] at t
  exact t.symm
theorem for_rngS {lo : Int} {n : Nat} {g : D → List D → Option (List D)} {body : SF} (I : Nat → List D → Prop) (R : Nat → D → Prop) (S : Nat → List D → Prop) {env : List D} (h0 : I 0 env)
    (hs : ∀ i e, i < n → I i e → StG (g (.int (lo + (i : Nat))) e) body (I (i + 1)) (R i) (S i)) :
    (∃ e', sFor g body (rngD lo n) env = some (.nx e') ∧ I n e') ∨ (∃ i d, i < n ∧ sFor g body (rngD lo n) env = some (.rt d) ∧ R i d) ∨ (∃ i e', i < n ∧ sFor g body (rngD lo n) env = some (.nx e') ∧ S i e') := by
  rcases for_stop (enc := fun (i : Nat) => PyData.int (lo + (i : Nat))) (g := g) (body := body) (fun a e => I a.length e) (fun a _ d => R a.length d) (fun a _ e => S a.length e) (xs := List.range n) (done := []) (env := env) h0 (fun a x b e q h => by
    obtain ⟨q1, q2, q3⟩ := rng_at q
    rw [List.length_append, q1]
    exact hs a.length e (by omega) h) with ⟨e', h1, h2⟩ | ⟨a, x, b, d, q, h1, h2⟩ | ⟨a, x, b, d, q, h1, h2⟩
  · exact .inl ⟨e', h1, by simpa using h2⟩
  · obtain ⟨q1, q2, q3⟩ := rng_at q
    exact .inr (.inl ⟨a.length, d, by omega, h1, h2⟩)
  · obtain ⟨q1, q2, q3⟩ := rng_at q
    exact .inr (.inr ⟨a.length, d, by omega, h1, h2⟩)
theorem for_rng {lo : Int} {n : Nat} {g : D → List D → Option (List D)} {body : SF} (I : Nat → List D → Prop) {env : List D} (h0 : I 0 env)
    (hs : ∀ i e, i < n → I i e → StG (g (.int (lo + (i : Nat))) e) body (I (i + 1)) (fun _ => False) (fun _ => False)) :
    ∃ e', sFor g body (rngD lo n) env = some (.nx e') ∧ I n e' := by
  rcases for_rngS I (fun _ _ => False) (fun _ _ => False) h0 hs with h | ⟨_, _, _, _, h⟩ | ⟨_, _, _, _, h⟩
  · exact h
  · exact h.elim
  · exact h.elim
theorem while_inv {c : TF} {body : SF} (I : Nat → List D → Prop) (E : List D → Prop) (hs : ∀ n e, I n e → (c e = some false ∧ E e) ∨ (c e = some true ∧ Stp (body e) (fun e2 => ∃ m, m < n ∧ I m e2) (fun _ => False) E)) :
    ∀ (n : Nat) (env : List D), I n env → ∃ e', sWhile c body env = some (.nx e') ∧ E e' := by
  suffices hh : ∀ (n : Nat) (env : List D), I n env → ∃ e', (∃ k, sWh c body k env = some (.nx e')) ∧ E e' from fun n env h => by
    obtain ⟨e', ⟨k, hk⟩, he⟩ := hh n env h
    exact ⟨e', sWhile_eq hk, he⟩
  intro n
  induction n using Nat.strongRecOn with
  | _ n ih =>
    intro env h
    rcases hs n env h with ⟨h1, h2⟩ | ⟨h1, h2⟩
    · exact ⟨env, ⟨1, by simp [sWh, h1]⟩, h2⟩
    · cases hb : body env with
      | none => rw [hb] at h2; exact h2.elim
      | some o =>
        rw [hb] at h2
        cases o with
        | rt d => exact h2.elim
        | bk e2 => exact ⟨e2, ⟨1, by simp [sWh, h1, hb]⟩, h2⟩
        | nx e2 =>
          obtain ⟨m, hm, h4⟩ := h2
          obtain ⟨e', ⟨k, hk⟩, he⟩ := ih m hm e2 h4
          exact ⟨e', ⟨k + 1, by simp only [sWh, h1, Option.bind_some, if_true, hb]; exact hk⟩, he⟩
        | ct e2 =>
          obtain ⟨m, hm, h4⟩ := h2
          obtain ⟨e', ⟨k, hk⟩, he⟩ := ih m hm e2 h4
          exact ⟨e', ⟨k + 1, by simp only [sWh, h1, Option.bind_some, if_true, hb]; exact hk⟩, he⟩
end Pf

set_option Elab.async false
set_option linter.all false
set_option maxRecDepth 100000
set_option maxHeartbeats 4000000
namespace Pf
open PySem L2
section
variable {P : Program} {w : World} {K : PySem.W.Frag}
variable {X : Cx} {Γ Γ1 Γ2 Γ3 Γ' : Ctx} {F F' H H' : Hp}
end
end Pf

set_option Elab.async false
set_option linter.all false
set_option maxRecDepth 100000
set_option maxHeartbeats 4000000
namespace Pf
open PySem L2
section
variable {X : Cx} {L : Lp} {Γ Γ0 Γ1 Γ2 Γ3 Γ4 Γ' : Ctx} {K : PySem.W.Frag} {F F' H H' : Hp} {B : Bs}
theorem OwnAll.at {P : D → V → Fp → Prop} : ∀ {ds : List D} {vs : List V} {f : Fp} {k : Nat} {d : D} {v : V}, OwnAll P ds vs f → ds[k]? = some d → vs[k]? = some v →
    ∃ (f1 f2 : Fp), P d v f1 ∧ (∀ b, f b = f1 b + f2 b) ∧ ∀ (Q : D → V → Fp → Prop), (∀ d v g, (∀ b, g b ≤ f2 b) → P d v g → Q d v g) → ∀ d' f1', Q d' v f1' → OwnAll Q (ds.set k d') vs (fun b => f1' b + f2 b)
  | d :: ds, v :: vs, f, 0, _, _, ⟨f1, f2, a, b, e⟩, hd, hv => by
    simp at hd hv
    subst hd hv
    exact ⟨f1, f2, a, e, fun Q hQ d' f1' q => ⟨f1', f2, q, OwnAll.imp f2 hQ (fun _ => Nat.le_refl _) b, fun _ => rfl⟩⟩
  | d :: ds, v :: vs, f, k + 1, d0, v0, ⟨f1, f2, a, b, e⟩, hd, hv => by
    obtain ⟨g1, g2, h1, h2, h3⟩ := OwnAll.at (k := k) b (by simpa using hd) (by simpa using hv)
    refine ⟨g1, fun x => f1 x + g2 x, h1, fun x => by have := e x; have := h2 x; show f x = g1 x + (f1 x + g2 x); omega, fun Q hQ d' f1' q => ?_⟩
    have := h3 Q (fun d v g hg => hQ d v g fun x => by have := hg x; show g x ≤ f1 x + g2 x; omega) d' f1' q
    exact ⟨f1, _, hQ _ _ _ (fun x => by show f1 x ≤ f1 x + g2 x; omega) a, this, fun x => by show f1' x + (f1 x + g2 x) = f1 x + (f1' x + g2 x); omega⟩
  | [], [], _, _, _, _, _, hd, _ => by simp at hd
  | [], _ :: _, _, _, _, _, h, _, _ => h.elim
  | _ :: _, [], _, _, _, _, h, _, _ => h.elim
theorem set_self2 {α : Type} {xs : List α} {i : Nat} {x : α} (h : xs[i]? = some x) : xs.set i x = xs := by
  apply List.ext_getElem?
  intro j
  by_cases c : i = j
  · subst c
    rw [List.getElem?_set_self (List.getElem?_eq_some_iff.mp h).1, h]
  · rw [List.getElem?_set_ne c]
end
end Pf

set_option Elab.async false
set_option linter.all false
set_option maxRecDepth 100000
set_option maxHeartbeats 4000000
namespace Pf
open PySem L2
end Pf

set_option Elab.async false
set_option linter.all false
set_option maxRecDepth 100000
set_option maxHeartbeats 4000000
namespace Pf
open PySem L2 RT
section
variable {X : Cx} {L : Lp} {Γ Γ0 Γ1 Γ2 Γ3 Γ4 Γ' : Ctx} {K : PySem.W.Frag} {F F' H H' : Hp} {B : Bs}
end
end Pf

set_option Elab.async false
set_option linter.all false
set_option maxRecDepth 100000
set_option maxHeartbeats 4000000
namespace Pf
open PySem L2 RT PySem.Calls PyProof.Rows
section
variable {prog : Program} {w : World} {A : Around} {E : Value → Shared → Prop} {s : Shared}
end
section
variable {X : Cx} {Γ Γ1 : Ctx}
variable {Γ0 Γ2 Γ' : Ctx} {F F' H H' : Hp} {B : Bs}
end
end Pf

set_option Elab.async false
set_option linter.all false
set_option maxRecDepth 100000
set_option maxHeartbeats 4000000
namespace Pf
open PySem L2
def unX : D → Option D
  | .dict [(.bool true, x)] => some x
  | _ => none
theorem unX_mk {x : D} : unX (mkX x) = some x := rfl
theorem unX_some {d x : D} (h : unX d = some x) : d = mkX x := by
  unfold unX at h
  split at h
  · cases h; rfl
  · cases h
section
variable {X : Cx} {L : Lp} {Γ Γ1 Γ2 Γx Γ' : Ctx} {K : PySem.W.Frag} {F F' H H' : Hp} {B : Bs}
def PureX (K : PySem.W.Frag) (m n : Nat) (f : List D → Option D) : Sp := fun vs H Q E => ∃ F ds d, Sub F H ∧ vs.length = m ∧ RpAll K F vs ds ∧ f ds = some d ∧ (∀ v F' H', Got K F H F' H' n d v → Q v H') ∧
  ∀ x, d = mkX x → ∀ c dd F' H', Ok ⟨H, F⟩ F' H' (fun _ => 0) → ExIs K F' c dd x → E c dd H'
def SEX (X : Cx) (L : Lp) (Γ : Ctx) (e : Expr) (f : EF) (n : Nat) (Γ' : Ctx) : Prop :=
  ∃ t : TE, PE X e t ∧ ∀ (B : Bs) (σ : St) (env : List D) (F H : Hp) (d : D) (Q : VK), Rel X.K B Γ σ env F H → f env = some d →
    (∀ v F' H', Same F F' → RelT X.K B Γ' σ env F' H' n d v → Q v H') → (∀ x, d = mkX x → ∀ c dd F' H', Same F F' → Rel X.K B Γ' σ env F' H' → ExIs X.K F' c dd x → L.wx c dd σ H') → t σ H Q
theorem Rel.ok0 {σ : St} {env : List D} (r : Rel K B Γ σ env F H) : Ok B F H (fun _ => 0) := by
  obtain ⟨f, s, ok⟩ := r
  exact ok.less fun a => Nat.zero_le _
theorem SEX.sub {e : Expr} {f : EF} {n m : Nat} (h : SEX X L Γ e f n Γ1) (hm : m ≤ n) : SEX X L Γ e f m Γ1 := by
  obtain ⟨t, p, q⟩ := h
  refine ⟨t, p, fun B σ env F H d Q r e k kx => q B σ env F H d Q r e (fun v F' H' s1 r2 => ?_) kx⟩
  obtain ⟨F2, u, r3⟩ := r2.down (leC_refl _) hm
  exact k v F2 H' (s1.trans u) r3
theorem sex_call {k : Nat} {f : Addr} {fd : FuncData} {ps : List Str} {x : Str} {p pos : Pos} {e : Expr} {es : List Expr} {fs : AF} {ns : List Nat} {m n : Nat} {g : List D → Option D}
    (G : FnOk X.prog X.w X.K X.mg X.base (L2.CX X.prog X.w) k f fd ps (PureX X.K m n g)) (hr : Room k X.A) (hg : Gl X x) (hm : X.mg x = some (.ref f)) (hk : PySem.W.keepIn X.K (.ref f) = true) (hb : Binds X.K fd ps []) (tk : Takes X L.wx)
    (ha : SA X Γ (e :: es) fs ns Γ1) (hn : (ns.all (· == 0)) = true := by rfl) (hl : ns.length = m := by rfl) (hdb : (x == ("__debug__" : Str)) = false := by decide) (he : starEach (e :: es) X.env = (false, eval e X.env) :: starEach es X.env := by rfl) (hpl : (backTo pos (starEach es X.env)).any (·.1) = false := by rfl) :
    SEX X L Γ (.Call (.Name x p) (e :: es) [] pos) (eL g fs) n Γ1 := by
  obtain ⟨ta, pa, qa⟩ := ha
  refine ⟨_, pe_callS G hr hg hm hk hb (fun σ => passAt tk σ) pa hdb he hpl, fun B σ env F H d Q rr e' k kx => ?_⟩
  obtain ⟨ds, hx, hgd⟩ := Option.bind_eq_some_iff.mp e'
  refine qa B σ env F H ds _ rr hx fun vs F1 H1 s1 t1 r1 b1 => ?_
  have len : ∀ {ns : List Nat} {ds : List D} {vs : List V}, BwL X.K F1 H1 ns ds vs → vs.length = ns.length := by
    intro ns
    induction ns with
    | nil => intro ds vs h; cases ds <;> cases vs <;> simp [BwL] at h ⊢
    | cons n ns ih => intro ds vs h; cases ds <;> cases vs <;> simp [BwL] at h ⊢; exact ih h.2
  refine ⟨F1, ds, d, r1.fh, by simpa using (len b1).trans hl, by simpa using b1.rp0 hn, hgd, fun v F2 H2 got => ?_, fun y ey c dd F2 H2 ok hx => ?_⟩
  · obtain ⟨s3, t3, r3⟩ := r1.got got
    exact k _ _ _ (s1.trans s3) r3
  · obtain ⟨s3, t3, r3⟩ := r1.got (n := 0) (d := .none) (v := .non) ⟨fun _ => 0, ⟨.non, fun _ => rfl⟩, ok⟩
    exact kx y ey c dd F2 H2 (s1.trans s3) r3.rel hx
def SBd (X : Cx) (L : Lp) (Γ Γx : Ctx) (st : Stmt) (f : SF) (Γ' : Ctx) : Prop :=
  ∃ t : TS, PS X st t ∧ ∀ (B : Bs) (σ : St) (env : List D) (F H : Hp) (o : Out) (E : Ends), Rel X.K B Γ σ env F H → f env = some o → PostS X.K B ⟨L.ρ, L.bk, L.ct, L.pin, fun _ _ _ _ => True⟩ Γ' F σ env E o →
    (∀ x, o = .rt (mkX x) → ∀ c dd F' H', Same F F' → Rel X.K B Γx σ env F' H' → ExIs X.K F' c dd x → L.wx c dd σ H') → t E σ H
theorem sb_ret {e : Expr} {f : EF} {n : Nat} {pos : Pos} (h : SEX X L Γ e f n Γ1) (hn : L.ρ ≤ n := by exact Nat.le_refl _) : SBd X L Γ Γ1 (.Return (some e) pos) (sRet f) Γ' := by
  obtain ⟨t, p, q⟩ := h.sub hn
  refine ⟨_, ps_ret p, fun B σ env F H o E r e k kx => ?_⟩
  obtain ⟨d, hd, e⟩ := Option.bind_eq_some_iff.mp e
  cases e
  refine q B σ env F H d _ r hd (fun v F2 H2 s1 r2 => k.1 v F2 H2 s1 ?_) (fun y ey c dd F2 H2 s1 r2 hx => kx y (by rw [ey]) c dd F2 H2 s1 r2 hx)
  obtain ⟨f, g, s, ow, ok⟩ := r2
  exact ⟨g, ow, ok.less fun a => by show g a ≤ g a + f a; omega⟩
def SMk (X : Cx) (Γ : Ctx) (e : Expr) (f : EF) (Γ' : Ctx) : Prop :=
  ∃ t : St → Hp → XK → Prop, PMk X e t ∧ ∀ (B : Bs) (σ : St) (env : List D) (F H : Hp) (x : D) (Q : XK), Rel X.K B Γ σ env F H → f env = some x →
    (∀ c dd F' H', Same F F' → Rel X.K B Γ' σ env F' H' → ExIs X.K F' c dd x → Q c dd H') → t σ H Q
def sRaise (f : EF) : SF := fun env => (f env).bind fun x => some (.rt (mkX x))
theorem ss_raise {e : Expr} {f : EF} {pos : Pos} (hc : X.calm = true) (tk : Takes X L.wx) (h : SMk X Γ e f Γ1) : SS X L Γ (.Raise (some e) none pos) (sRaise f) Γ' := by
  obtain ⟨t, p, q⟩ := h
  refine ⟨_, ps_raise hc tk p, fun B σ env F H o E r e k => ?_⟩
  obtain ⟨x, hx, e⟩ := Option.bind_eq_some_iff.mp e
  cases e
  exact q B σ env F H x _ r hx fun c dd F' H' s1 r2 ex => k.2 x rfl c dd σ F' H' s1 r2.ok0 ex
theorem SBd.sub {st : Stmt} {f : SF} (h : SBd X L Γ Γx st f Γ1) (l : LeC Γ' Γ1 = true) : SBd X L Γ Γx st f Γ' := by
  obtain ⟨t, p, q⟩ := h
  exact ⟨t, p, fun B σ env F H o E r e k kx => q B σ env F H o E r e (k.down l) kx⟩
theorem fn_pureX {P : Program} {w : World} {mg : Str → Option Value} {base : Heap} {x qual : Str} {st : Stmt} {f : Addr} {fd : FuncData} {N ps : List Str} {k ρ m : Nat} {b : SF} {Γ' : Ctx}
    (G : Fun K x qual st f fd) (S : FnScope N ps (defScope st)) (hm : ps.length = m := by rfl)
    (hb : ∀ (cdv : Value) (A : Around) (outer : List Env) (s : Shared) (H : Hp) (E : XK), Room k (A.deeper (PyProof.Rows.envOfC qual (defScope st) s.heap.objs.size f cdv)) →
      SSs (cxOf (L2.CX P w) P w K mg base N qual (defScope st) f cdv A outer s H E) ⟨ρ, [], [], [], fun c d _ H' => E c d H'⟩ (ctx0 m N.length) (defBody st) b Γ') :
    FnOk P w K mg base (L2.CX P w) (k + 1) f fd ps (PureX K m ρ (runF ρ m N.length b)) := by
  refine G.okX S (fun vs H Q E h => ?_) (fun cdv A outer s H vs Q E hr h => ?_)
  · obtain ⟨F, ds, d, _, h1, _⟩ := h
    omega
  obtain ⟨F, ds, d, sf, h1, h2, h3, h4, h5⟩ := h
  obtain ⟨t, p, q⟩ := hb cdv A outer s H E hr
  refine ⟨t, p, ?_⟩
  have hl : ds.length = m := h2.length.symm.trans h1
  unfold runF at h3
  rw [if_pos hl] at h3
  obtain ⟨o, ho, h3⟩ := Option.bind_eq_some_iff.mp h3
  refine q ⟨H, F⟩ _ _ F H o _ ?_ ho ?_
  · refine ⟨fun _ => 0, ?_, ⟨sf, Same.refl _, Same.refl _, fun _ _ q => .inl q, fun _ => Nat.zero_le _, fun _ q => absurd q (Nat.lt_irrefl _)⟩⟩
    have z := slots_start (H := H) (N.length - m) h2
    unfold ctx0
    rw [hl] at z
    unfold L2.start
    rw [h1]
    exact z
  · cases o with
    | rt d' => cases h3; exact ⟨fun v F' H' s1 ⟨g, ow, ok⟩ => h4 v F' H' ⟨g, ow, ok⟩, fun y ey c dd σ' F' H' s1 ok hx => h5 y ey c dd F' H' ok hx⟩
    | nx env =>
      simp only at h3
      split at h3
      · rename_i c
        cases h3
        subst c
        intro σ' F' H' s1 r1 _
        obtain ⟨f1, sl, ok⟩ := r1
        exact h4 .non F' H' ⟨fun _ => 0, ⟨.non, fun _ => rfl⟩, ok.less fun a => Nat.zero_le _⟩
      · cases h3
    | bk e => cases h3
    | ct e => cases h3
def runN (ρ m N : Nat) (b : SF) : List D → Option D := fun ds => (runF ρ m N b ds).bind fun d => match unX d with | some _ => none | none => some d
theorem fn_pureN {P : Program} {w : World} {mg : Str → Option Value} {base : Heap} {x qual : Str} {st : Stmt} {f : Addr} {fd : FuncData} {N ps : List Str} {k ρ m : Nat} {b : SF} {Γ' : Ctx}
    (G : Fun K x qual st f fd) (S : FnScope N ps (defScope st)) (hm : ps.length = m := by rfl)
    (hb : ∀ (cdv : Value) (A : Around) (outer : List Env) (s : Shared) (H : Hp) (E : XK), Room k (A.deeper (PyProof.Rows.envOfC qual (defScope st) s.heap.objs.size f cdv)) →
      SSs (cxOf CX0 P w K mg base N qual (defScope st) f cdv A outer s H E).nox ⟨ρ, [], [], [], fun _ _ _ _ => False⟩ (ctx0 m N.length) (defBody st) b Γ') :
    FnOk P w K mg base CX0 (k + 1) f fd ps (Pure K m ρ (runN ρ m N.length b)) := by
  refine G.ok S (fun vs H Q E h => ?_) (fun cdv A outer s H vs Q E hr h => ?_)
  · obtain ⟨F, ds, d, _, h1, _⟩ := h
    omega
  obtain ⟨F, ds, d, sf, h1, h2, h3, h4⟩ := h
  obtain ⟨t, p, q⟩ := hb cdv A outer s H E hr
  refine ⟨t, p, ?_⟩
  have hl : ds.length = m := h2.length.symm.trans h1
  obtain ⟨d1, h3, hn⟩ := Option.bind_eq_some_iff.mp h3
  have hu : unX d1 = none := by
    cases hu : unX d1 with
    | none => rfl
    | some y => simp only [hu] at hn; cases hn
  simp only [hu] at hn
  cases hn
  unfold runF at h3
  rw [if_pos hl] at h3
  obtain ⟨o, ho, h3⟩ := Option.bind_eq_some_iff.mp h3
  refine q ⟨H, F⟩ _ _ F H o _ ?_ ho ?_
  · refine ⟨fun _ => 0, ?_, ⟨sf, Same.refl _, Same.refl _, fun _ _ q => .inl q, fun _ => Nat.zero_le _, fun _ q => absurd q (Nat.lt_irrefl _)⟩⟩
    have z := slots_start (H := H) (N.length - m) h2
    unfold ctx0
    rw [hl] at z
    unfold L2.start
    rw [h1]
    exact z
  · cases o with
    | rt d' =>
      cases h3
      refine ⟨fun v F' H' s1 ⟨g, ow, ok⟩ => h4 v F' H' ⟨g, ow, ok⟩, fun y ey c dd σ' F' H' s1 ok hx => ?_⟩
      rw [ey, unX_mk] at hu
      cases hu
    | nx env =>
      simp only at h3
      split at h3
      · rename_i c
        cases h3
        subst c
        intro σ' F' H' s1 r1 _
        obtain ⟨f1, sl, ok⟩ := r1
        exact h4 .non F' H' ⟨fun _ => 0, ⟨.non, fun _ => rfl⟩, ok.less fun a => Nat.zero_le _⟩
      · cases h3
    | bk e => cases h3
    | ct e => cases h3
end
end Pf

set_option Elab.async false
set_option linter.all false
set_option maxRecDepth 100000
set_option maxHeartbeats 4000000
namespace Pf
open PySem PySem.W PySem.Calls PyProof.Rows L2
def tmA (p1 p2 : Pos) : Arguments := { posonlyargs := [], args := [{ arg := "self", annotation := none, pos := p1 }, { arg := "what", annotation := none, pos := p2 }], vararg := none, kwonlyargs := [], kw_defaults := [], kwarg := none, defaults := [] }
def tmB (p0 p1 p2 p3 p4 p5 p6 p7 p8 q1 q2 q3 q4 : Pos) : List Stmt :=
  [.Expr (.Call (.Attribute (.Call (.Name "super" p0) [] [] p1) "__init__" p2) [.JoinedStr [.Constant (.str "too many ") 0 p3, .FormattedValue (.Name "what" p4) (-1) none p5] p6] [] p7) p8,
   .Assign [.Attribute (.Name "self" q1) "what" q2] (.Name "what" q3) q4]
def tmS : Scope := { kind := .function, names := [(PySem.Str.ofString "self", .local), (PySem.Str.ofString "what", .local), (PySem.Str.ofString "__class__", .free), (PySem.Str.ofString "super", .globalImplicit)], isGenerator := false, isCoroutine := false, more := [] }
structure TmTxt (P : Program) (K : Frag) (C fI : Addr) (fd : FuncData) : Prop where
  oex : OexC K C
  ini : excInitIn K C [.type "ValueError", .type "Exception", .type "BaseException", .type "object"] "ValueError.__new__" = true
  noW : findIn K (.ref C) "what" = some none
  sup : ks_superIn K C C "__init__" = some (some (.builtin "ValueError.__init__"))
  sVE : subIn K (.ref C) (.type "ValueError") = some true
  tpa : nsIn K cStatics "thirdparty.any" = some none
  mro : mroIn K C (.ref C) = some true
  noS : nsIn K mainGlobals "super" = some none
  top : (P.main.scope.names.lookup ("super" : Str)).isSome = false
  fn : ∃ (oc : Value) (od : Option Addr) (doc pm : Value) (an : Option Addr) (ct : Value) (osl : Array (Option Value)) (cc cda : Addr) (q : Str) (p1 p2 p0 p3 p4 p5 p6 p7 p8 p9 p10 q1 q2 q3 q4 : Pos),
    fd = ksFn "__init__" q (tmA p1 p2) (tmB p0 p3 p4 p5 p6 p7 p8 p9 p10 q1 q2 q3 q4) tmS .none .none doc pm an (.ref cda) ct cc ∧ K.lookup fI = some ⟨oc, od, .func fd, osl⟩ ∧ codeIn K (.ref cda) q = true ∧ (p4.endLine == p9.line) = true ∧
      (∃ (ccl : Value) (cdd : Option Addr) (vs : Array Value) (ccs : Array (Option Value)) (file : Str) (tf : Tok), K.lookup cda = some ⟨ccl, cdd, .fields vs, ccs⟩ ∧ vs[2]? = some (.str file tf) ∧ ((P.main.file : Str) == file) = true) ∧
      ∃ (cl : Value) (cld : Option Addr) (csl : Array (Option Value)), K.lookup cc = some ⟨cl, cld, .cell (some (.ref C)), csl⟩
theorem call_line {o : Expr} {name : Str} {apos pos : Pos} {e : Expr} {env : Env} (hline : (apos.endLine == pos.line) = true) (he : starEach [e] env = [(false, eval e env)] := by rfl) :
    eval (.Call (.Attribute o name apos) [e] [] pos) env = (do
      let ov ← attributeBase o name env (eval o env)
      standAt apos.atName
      let (f, first) ← holding [ov] (getMethod ov name (do return (← importBound o env).getD true))
      callWith pos f first (backTo pos (starEach [e] env)) []) := by
  have hp : methodCallPos true o env apos pos = pure pos := by unfold methodCallPos; simp [hline]
  show (do
      let ov ← attributeBase o name env (eval o env)
      standAt apos.atName
      methodCall o name apos pos env ov 1 (backTo pos (starEach [e] env)) (backToKw pos (keywordEach [] env))) = _
  have hf : methodCallForm 1 (backTo pos (starEach [e] env)) (backToKw pos (keywordEach [] env)) = true := by rw [he]; rfl
  unfold methodCall
  simp only [hf, hp, pure_bind]
  rfl
section
variable {P : Program} {w : World} {A : Around} {R : Result → Shared → Prop} {s : Shared} {K : Frag} {mg mb : Str → Option Value} {C fI x t0 : Addr} {y : Str} {tk : Tok}
end
section
variable {X : Cx} {L : Lp} {Γ Γ1 : Ctx}
theorem tm_binds {K : Frag} {q : Str} {p1 p2 : Pos} {body : List Stmt} {sc : Scope} {doc pm cdv ct : Value} {an : Option Addr} {cc : Addr} : Binds K (ksFn "__init__" q (tmA p1 p2) body sc .none .none doc pm an cdv ct cc) ["self", "what"] [] :=
  fun s us _ hl => match us, hl with | [_, _], _ => .of_eq (by first | rfl | with_unfolding_all rfl)
theorem TmTxt.binds {P : Program} {K : Frag} {C fI : Addr} {fd : FuncData} (T : TmTxt P K C fI fd) : Binds K fd ["self", "what"] [] := by
  obtain ⟨_, _, _, _, _, _, _, _, _, _, _, _, _, _, _, _, _, _, _, _, _, _, _, _, _, rfl, _⟩ := T.fn
  exact tm_binds
structure TmAll (P : Program) (K : Frag) (mg : Str → Option Value) where
  C : Addr
  fI : Addr
  fd : FuncData
  T : TmTxt P K C fI fd
  iC : findIn K (.ref C) "__init__" = some (some (.ref fI))
  tI : typeIn K (.ref fI) = some (.type "function")
  hns : nsIn K mainGlobals "TooMany" = some (some (.ref C))
  m : mg "TooMany" = some (.ref C)
  te : exmOne K (.ref C) (.ref C) = some true
end
end Pf

set_option Elab.async false
set_option linter.all false
set_option maxRecDepth 100000
set_option maxHeartbeats 4000000
namespace Pf
open PySem L2 PySem.Spec PyProof.Rows
section
variable {P : Program} {w : World} {K : PySem.W.Frag} {mg : Str → Option Value} {base : Heap}
structure Scr (K : PySem.W.Frag) (P : Program) (w : World) (z : Shared) (a : Addr) (ns : List Int) (M : Hp) : Prop where
  only : Only M
  script : SqL K M a (ns.map V.int)
  ok : HOk P w M z.heap
  at' : ∀ b, M b ≠ none → b = a
  out : M a ≠ none → K.lookup a = none
end
end Pf

set_option Elab.async false
set_option linter.all false
set_option maxRecDepth 100000
set_option maxHeartbeats 4000000
namespace Pf
open PySem L2
section
variable {X : Cx} {L : Lp} {Γ Γ0 Γ1 Γ2 Γ3 Γ4 Γ' : Ctx} {K : PySem.W.Frag} {F F' H H' : Hp} {B : Bs}
theorem Rel.row {i A ak j : Nat} {σ : St} {env : List D} {dss ds ds' : List D} {vs1 ws ws' : List V} (r : Rel K B Γ σ env F H) (g : Γ[i]? = some (some 2)) (he : env[i]? = some (.list dss)) (s0 : σ[i]? = some (some (.ref A)))
    (hA : H A = some (.lst vs1)) (hds : dss[j]? = some (.list ds)) (hz : vs1[j]? = some (.ref ak)) (hak : H ak = some (.lst ws)) (hnew : RpAll K F ws ds → RpAll K F ws' ds') :
    ws.length = ds.length ∧ Rel K B Γ σ (env.set i (.list (dss.set j (.list ds')))) F (upd H ak (.lst ws')) := by
  obtain ⟨f2, sl, ok⟩ := r
  obtain ⟨v2, d2, f3, f4, k1, k2, k3, k4, k5⟩ := sl.focus g
  rw [he] at k2
  cases k2
  rw [s0] at k1
  cases k1
  obtain ⟨a2, vs2, f6, ea, hl, hF, oa, hf⟩ := own_list k3 rfl
  cases ea
  rw [hA] at hl
  cases hl
  obtain ⟨x1, x2, y1, y2, y3⟩ := oa.at hds hz
  obtain ⟨a3, ws3, f7, ea, hl3, hF3, oa3, hf3⟩ := own_list y1 rfl
  cases ea
  rw [hak] at hl3
  cases hl3
  refine ⟨oa3.length, ?_⟩
  have ha : f3 A = 1 + f6 A := by have := hf A; simpa using this
  have one := ok.one A
  have z4 := k4 A
  have z6 : f6 A = 0 := by omega
  have hx1 : x1 ak = 1 + f7 ak := by have := hf3 ak; simpa using this
  have y2k := y2 ak
  have hfk := hf ak
  have k4k := k4 ak
  have onek := ok.one ak
  have ne : A ≠ ak := fun c => by subst c; omega
  have hfk' : f3 ak = f6 ak := by rw [hfk, if_neg (fun c => ne c.symm), Nat.zero_add]
  have x2z : x2 ak = 0 := by omega
  have f4z : f4 ak = 0 := by omega
  have z7 := own0_zero oa3
  have rp3 : RpAll K F ws ds := own0_rp oa3
  have up : ∀ (b : Addr), b ≠ ak → upd H ak (.lst ws') b = H b := fun b hb => upd_ne hb
  have inner : Own K F (upd H ak (.lst ws')) 1 (.list ds') (.ref ak) x1 :=
    ⟨ak, ws', fun _ => 0, rfl, upd_same, hF3, ownAll_of (fun d v h => ⟨h, fun _ => rfl⟩) (hnew rp3), fun b => by have := hf3 b; have := z7 b; show x1 b = (if b = ak then 1 else 0) + 0; omega⟩
  have all := y3 (Own K F (upd H ak (.lst ws')) 1) (fun d v g hg o => o.mono (Same.refl _) 1 fun b hb => ⟨rfl, up b fun c => by subst c; have := hg b; omega⟩) _ _ inner
  have new : Own K F (upd H ak (.lst ws')) 2 (.list (dss.set j (.list ds'))) (.ref A) f3 :=
    ⟨A, vs1, fun b => x1 b + x2 b, rfl, (up A ne).trans hA, hF, all, fun b => by have := hf b; have := y2 b; show f3 b = _ + (x1 b + x2 b); omega⟩
  have sl' := ((k5 F (upd H ak (.lst ws')) (Same.refl _) (fun b hb => ⟨rfl, up b fun c => by subst c; omega⟩)).2 (.ref A) (.list (dss.set j (.list ds')))).2 2 _ new
  rw [set_self2 s0, set_self2 g] at sl'
  have okw : Ok B F (upd H ak (.lst ws')) f2 := ok.write (by omega) hF3
  exact ⟨_, sl', okw.less fun b => by have := k4 b; show f3 b + f4 b ≤ f2 b; omega⟩
end
section
variable {P : Program} {w : World} {K : PySem.W.Frag} {mg : Str → Option Value} {base : Heap}
structure FnG (P : Program) (w : World) (K : PySem.W.Frag) (mg : Str → Option Value) (base : Heap) (k : Nat) (f : Addr) (fd : FuncData) (ps : List Str) (sp : Sp) : Prop where
  go : ∀ (A : Around) (outer : List Env) (s : Shared) (H : Hp) (args : Args) (us : List Value) (vs : List V) (Q : VK) (E : XK), A.guards = some [] → Room k A → Env0 P w K mg base A outer s H →
    BindsTo s fd args (ps.zip us) → Vals vs us → sp vs H Q E → codeAny (model P w) A (.call (.ref f) args) (CR CX0 outer P w H s Q E) s
end
end Pf

set_option Elab.async false
set_option linter.all false
set_option maxRecDepth 100000
set_option maxHeartbeats 4000000
namespace Pf
open PySem L2
section
variable {X : Cx} {L : Lp} {Γ Γ0 Γ1 Γ2 Γ3 Γ4 Γ' : Ctx} {K : PySem.W.Frag} {F F' H H' : Hp} {B : Bs}
theorem OwnAll.drop {P : D → V → Fp → Prop} : ∀ {ds : List D} {vs : List V} {f : Fp} (b : Nat), OwnAll P ds vs f → ∃ f', (∀ x, f' x ≤ f x) ∧ OwnAll P (ds.drop b) (vs.drop b) f'
  | ds, vs, f, 0, h => ⟨f, fun _ => Nat.le_refl _, h⟩
  | [], [], f, b + 1, h => ⟨f, fun _ => Nat.le_refl _, h⟩
  | d :: ds, v :: vs, f, b + 1, ⟨f1, f2, h1, h2, e⟩ => by
    obtain ⟨f', a1, a2⟩ := OwnAll.drop b h2
    exact ⟨f', fun x => by have := a1 x; have := e x; omega, a2⟩
  | [], _ :: _, _, _ + 1, h => h.elim
  | _ :: _, [], _, _ + 1, h => h.elim
theorem OwnAll.cut {P : D → V → Fp → Prop} : ∀ {ds : List D} {vs : List V} {f : Fp} {a b : Nat}, a ≤ b → OwnAll P ds vs f → ∃ f', (∀ x, f' x ≤ f x) ∧ OwnAll P (ds.take a ++ ds.drop b) (vs.take a ++ vs.drop b) f'
  | ds, vs, f, 0, b, _, h => by
    rw [List.take_zero, List.take_zero, List.nil_append, List.nil_append]
    exact OwnAll.drop b h
  | [], [], f, a + 1, b, _, h => ⟨f, fun _ => Nat.le_refl _, by simpa using h⟩
  | d :: ds, v :: vs, f, a + 1, 0, hab, h => absurd hab (by omega)
  | d :: ds, v :: vs, f, a + 1, b + 1, hab, ⟨f1, f2, h1, h2, e⟩ => by
    obtain ⟨f', a1, a2⟩ := OwnAll.cut (a := a) (b := b) (by omega) h2
    exact ⟨fun x => f1 x + f' x, fun x => by have := a1 x; have := e x; show f1 x + f' x ≤ f x; omega, f1, f', h1, a2, fun _ => rfl⟩
  | [], _ :: _, _, _ + 1, _, _, h => h.elim
  | _ :: _, [], _, _ + 1, _, _, h => h.elim
end
end Pf

set_option Elab.async false
set_option linter.all false
set_option maxRecDepth 100000
set_option maxHeartbeats 4000000
namespace Pf
open PySem L2 PySem.Spec PyProof.Rows
section
variable {X : Cx}
end
section
variable {X : Cx} {L : Lp} {Γ Γ0 Γ1 Γ2 Γ3 Γ4 Γ' : Ctx} {K : PySem.W.Frag} {F F' H H' : Hp} {B : Bs}
end
end Pf

set_option Elab.async false
set_option linter.all false
set_option maxRecDepth 100000
set_option maxHeartbeats 4000000
namespace Pf
open PySem PySem.Spec PyProof.Rows L2
structure FnC (P : Program) (w : World) (K : PySem.W.Frag) (mg : Str → Option Value) (base : Heap) (k : Nat) (f : Addr) (fd : FuncData) (ps : List Str) (sp : Sp) : Prop where
  len : ∀ vs H Q E, sp vs H Q E → vs.length = ps.length
  run : ∀ (A : Around) (outer : List Env) (s : Shared) (H : Hp) (args : Args) (us : List Value) (vs : List V) (Q : VK) (E : XK), L2H.RoomH k A → Env0 P w K mg base A outer s H → BindsTo s fd args (ps.zip us) → Vals vs us → sp vs H Q E →
    codeAny (model P w) A (.call (.ref f) args) (CR CX0 outer P w H s Q E) s
section
variable {X : Cx} {L : Lp} {Γ Γ1 Γ2 Γ' : Ctx}
def Kx (K : PySem.W.Frag) (i : Nat) (a : Addr) (cls : Value) (dd : Option Addr) (σ : L2.St) (env : List D) (F : Hp) : Prop := σ[i]? = some (some (.ref a)) ∧ ∃ x, env[i]? = some x ∧ ExIs K F cls dd x
theorem ExIs.up {K : PySem.W.Frag} {F F' : Hp} {c : Value} {dd : Option Addr} {x : D} (s : Same F F') (h : ExIs K F c dd x) : ExIs K F' c dd x := by
  obtain ⟨nm, C, ks, fs, h1, h2, h3, h4⟩ := h
  refine ⟨nm, C, ks, fs, h1, h2, h3, ?_⟩
  rcases h4 with h4 | ⟨a, xs, h5, h6, h7, h8⟩
  · exact .inl h4
  · exact .inr ⟨a, xs, h5, s _ _ h6, h7, h8.up s⟩
def SEe (X : Cx) (i : Nat) (a : Addr) (cls : Value) (dd : Option Addr) (Γ : Ctx) (e : Expr) (f : EF) (n : Nat) (Γ' : Ctx) : Prop :=
  ∃ t : TE, PE X e t ∧ ∀ (B : Bs) (σ : L2.St) (env : List D) (F H : Hp) (d : D) (Q : VK), Rel X.K B Γ σ env F H → Kx X.K i a cls dd σ env F → f env = some d → (∀ v F' H', Same F F' → Same H H' → RelT X.K B Γ' σ env F' H' n d v → Q v H') → t σ H Q
variable {i : Nat} {a : Addr} {cls : Value} {dd : Option Addr}
theorem see_of {e : Expr} {f : EF} {n : Nat} (h : SE X Γ e f n Γ') : SEe X i a cls dd Γ e f n Γ' := by
  obtain ⟨t, p, q⟩ := h
  exact ⟨t, p, fun B σ env F H d Q r _ e k => q B σ env F H d Q r e k⟩
end
end Pf

set_option Elab.async false
set_option linter.all false
set_option maxRecDepth 100000
set_option maxHeartbeats 4000000
namespace PySem.W
open PySem PySem.Spec PySem.Calls PyProof.Rows
section
variable {prog : Program} {w : World} {A : Around} {E : Value → Shared → Prop} {s : Shared} {K : Frag} {x D : Addr} {ox : Obj}
theorem findObj_dataO {C : Addr} {name : Str} {a g : Value} {od : Option Obj} (hc : (clsIn K C).isSome = true) (ha : findIn K (.ref C) name = some (some a)) (hg : specialIn K a "__get__" = some (some g)) (ht : takesIn K a = some true) : findObj K C od name = some (.bind g a) := by
  obtain ⟨cd, hc⟩ := Option.isSome_iff_exists.mp hc
  unfold findObj
  rw [hc, Option.bind_some, ha, Option.bind_some]
  simp [hg, ht]
theorem kin_classO {Q : Option Value → Shared → Prop} {od : Option Obj} (hga : findIn K (.ref D) "__getattribute__" = some (some (.builtin "BaseException.__getattribute__"))) (hgt : findIn K (.ref D) "__getattr__" = some none) (hsub : subIn K (.ref D) (.type "BaseException") = some true)
    (hdct : hasDictIn K D = true) (ha : findIn K (.ref D) "__class__" = some (some (.builtin "object.__class__")))
    (hn : specialIn K (.builtin "object.__class__") "__get__" = some (some (.builtin "getset_descriptor.__get__"))) (htk : takesIn K (.builtin "object.__class__") = some true) (hm : mroIn K D (.type "object") = some true)
    (X : K.In s.heap) (I : InstAt s.heap x ox D od) (h : Q (some (.ref D)) { s with toks := s.toks + 1 }) : wpAny (model prog w) A (getAttr? (.ref x) "__class__") Q E s := by
  have hf : findObj K D od "__class__" = some (.bind (.builtin "getset_descriptor.__get__") (.builtin "object.__class__")) := findObj_dataO (by obtain ⟨cd, hc, _⟩ := any_some hdct; rw [hc]; rfl) ha hn htk
  obtain ⟨hp, g, d, t, os⟩ := s
  have L0 := I.type (M := model prog w)
  have L1 := looks_findIn (M := model prog w) X hga
  have L2 := looks_findIn (M := model prog w) X hgt
  have L3 := looks_find (M := model prog w) X I hf
  have sub : Looks (model prog w) hp (isInstance (.ref x) (.type "BaseException")) true := L0.andThen (looks_subIn X hsub)
  have hx0 : (false && onTheHeap (Value.builtin "BaseException.__getattribute__")) = false := rfl
  have hx2 : (Value.builtin "BaseException.__getattribute__" == Value.builtin "object.__getattribute__") = false := by decide +kernel
  have hx1 : (onTheHeap (Value.ref D) && Value.builtin "BaseException.__getattribute__" == Value.builtin "object.__getattribute__") = false := by rw [hx2]; rfl
  unfold getAttr? getAttrBy? getAttrBy
  refine wpAny_bind (wpAny_mkText (wpAny_bind (wpAny_attempt (wpAny_holding (wpAny_bind (L0.at (wpAny_bind (L1.at ?_))))))))
  show wpAny _ _ (if (onTheHeap (Value.ref D) && Value.builtin "BaseException.__getattribute__" == Value.builtin "object.__getattribute__") = true then _ else _) _ _ _
  rw [hx1, if_neg Bool.false_ne_true]
  unfold getAttrByItsOwn hookBefore
  refine wpAny_bind ?_
  rw [if_pos (show onTheHeap (Value.ref D) = true from rfl)]
  refine L2.at ?_
  refine wpAny_bind (wpAny_attempt (wpAny_holding ?_))
  unfold callGetattribute
  rw [hx0, if_neg Bool.false_ne_true]
  unfold boundAndCalled
  rw [PySem.F.excAttr_ValueError.ga.bind (.ref x)]
  refine wpAny_bind (wpAny_pure ?_)
  show wpAny _ _ (call (.builtin "BaseException.__getattribute__") [.ref x, .str "__class__" t]) _ _ _
  refine wpAny_call (codeAny_call_builtin PySem.F.excAttr_ValueError.ga.plain PySem.F.entry_bexc_ga ?_)
  refine @check_slot (model prog w) _ _ ⟨hp, g, d, t + 1, os⟩ "BaseException.__getattribute__" "BaseException" "__getattribute__" (.ref x) [.str "__class__" t] [] _ (by decide +kernel) (by decide +kernel) sub (PySem.F.args_bexc_ga (.ref x) (.str "__class__" t)) ?_
  unfold Builtin.«object.__getattribute__»
  refine wpAny_bind (wpAny_of_eq (a := ((Value.ref x : Value), [Value.str "__class__" t])) (by first | rfl | (simp only [slotArgs]; rfl)) ?_)
  refine wpAny_bind (wpAny_pure (wpAny_bind (L0.at (wpAny_bind (L3.at ?_)))))
  show wpAny _ _ (holding [Value.builtin "object.__class__"] (call (.builtin "getset_descriptor.__get__") [.builtin "object.__class__", .ref x, .ref D]) >>= ret) _ _ _
  refine wpAny_bind (wpAny_holding (wpAny_call (class_get (s := ⟨hp, g, d, t + 1, os⟩) (ox := ox) (od := od) X I hm ?_)))
  refine wpAny_pure ?_
  show wpAny _ _ (handedOut (.ref D)) _ _ _
  rw [handedOut_of (v := .ref D) rfl]
  first
    | exact wpAny_pure (wpAny_pure h)
    | exact wpAny_pure h
    | exact wpAny_pure (wpAny_bind (wpAny_pure (wpAny_pure h)))
theorem kitx_excO {od : Option Obj} (hga : findIn K (.ref D) "__getattribute__" = some (some (.builtin "BaseException.__getattribute__"))) (hgt : findIn K (.ref D) "__getattr__" = some none) (hsub : subIn K (.ref D) (.type "BaseException") = some true) (hdct : hasDictIn K D = true) (ha : findIn K (.ref D) "__class__" = some (some (.builtin "object.__class__")))
    (hn : specialIn K (.builtin "object.__class__") "__get__" = some (some (.builtin "getset_descriptor.__get__"))) (htk : takesIn K (.builtin "object.__class__") = some true) (hm : mroIn K D (.type "object") = some true) :
    KitX K (.ref x) (.ref D) (fun h => InstAt h x ox D od) where
  ty := fun _ _ _ I => I.type
  it := fun _ _ X _ => by
    obtain ⟨cdD, hcD, _⟩ := any_some hdct
    unfold clsIn at hcD
    split at hcD
    · rename_i c' d' cd' sl' ho
      intro A' Q' E' s' k q
      unfold isType loadHead
      exact wpAny_bind (wpAny_loadPart (k _ _ (X _ _ ho)) (wpAny_pure q))
    · cases hcD
  ne := fun h tp dd its n sl X htp => by
    obtain ⟨cdD, hcD, _⟩ := any_some hdct
    refine Bool.eq_false_iff.mpr fun q => ?_
    have e : D = tp := Value.ref.inj (beq_iff_eq.mp q)
    subst e
    unfold clsIn at hcD
    split at hcD
    · rename_i c' d' cd' sl' ho
      have z := (X _ _ ho).symm.trans htp
      cases z
    · cases hcD
  ca := fun X I k => kin_classO hga hgt hsub hdct ha hn htk hm X I k
end
end PySem.W
namespace Pf
open PySem PySem.Spec PyProof.Rows L2
section
variable {X : Cx} {L : Lp} {Γ Γ1 Γ2 Γx Γ' : Ctx}
variable {i : Nat} {a : Addr} {cls : Value} {dd : Option Addr}
def rIsX (K : PySem.W.Frag) (D a : Addr) (cls : Value) (dd : Option Addr) : List V → Hp → VK → Prop := fun xs H Q => ∃ (c : V) (cv : Value) (b : Bool), cls = .ref D ∧ xs = [.ref a, c] ∧ (∀ u, RelV c u → u = cv) ∧ PySem.W.kitOne K (.ref D) cv = some b ∧ (dd = none ∨ ∃ dx fs, dd = some dx ∧ H dx = some (.xd fs)) ∧ Q (.bl b) H
theorem call_isX {Y : Cx} {C : Addr} {oe : Obj} {pn : List (Addr × Obj)} (T : ExcC Y.K C) (hz : Zc cls dd oe) (hf : ∃ vs, oe.data = .fields vs) : CallR (Y.suite a ((a, oe) :: pn)) (.builtin "isinstance") (rIsX Y.K C a cls dd) := by
  intro pins s σ H xs us Q I r h
  obtain ⟨c, cv, b, hcl, rfl, hcv, e, hdd, q⟩ := h
  subst hcl
  cases r with
  | cons rx rr =>
    cases rr with
    | cons rt rr =>
      cases rr
      cases rx
      have ec := hcv _ rt
      subst ec
      obtain ⟨hget, _⟩ := I.pin (a, oe) (List.mem_append.mpr (.inl List.mem_cons_self))
      obtain ⟨vs, hv⟩ := hf
      rcases hdd with hd0 | ⟨dx, fs, hd1, hd2⟩
      · subst hd0
        have J : PySem.W.InstAt s.heap a oe C none := ⟨hget, hz.1, by unfold PySem.W.notCls; rw [hv] <;> rfl, by rw [hz.2]; exact True.intro⟩
        exact PySem.W.kia_one (PySem.W.kitx_excO T.hg T.hk T.hs T.hd T.ha T.hn T.ht T.hm) I.kIn J e (fun z => nomatch z) fun tk => ⟨.bl b, H, I.kept (t' := tk) fun _ _ z => z, rfl, q⟩
      · have hx : ObjOk Y.prog Y.w H s.heap dx (.xd fs) := I.hok dx _ hd2
        obtain ⟨mA, hns, hr⟩ := hx
        obtain ⟨od, ho, hl⟩ := lookIn_ns hns
        subst hd1
        have J : PySem.W.InstAt s.heap a oe C (some od) := ⟨hget, hz.1, by unfold PySem.W.notCls; rw [hv] <;> rfl, by rw [hz.2]; exact ho⟩
        exact PySem.W.kia_one (PySem.W.kitx_excO T.hg T.hk T.hs T.hd T.ha T.hn T.ht T.hm) I.kIn J e (fun z => nomatch z) fun tk => ⟨.bl b, H, I.kept (t' := tk) fun _ _ z => z, rfl, q⟩
def isXD (nm : Str) (b : Bool) : D → Option D
  | .tuple [.str n, .list _, _] => if n = nm then some (.bool b) else none
  | _ => none
def eIsX (i : Nat) (nm : Str) (b : Bool) : EF := fun env => (env[i]?).bind (isXD nm b)
theorem see_isX {Y : Cx} {oe : Obj} {pn : List (Addr × Obj)} {C C2 : Addr} {nm x y : Str} {b : Bool} {p px py pos : Pos} (T : ExcC Y.K C) (hns : PySem.W.nsIn Y.K mainGlobals nm = some (some (.ref C))) (hz : Zc cls dd oe) (hf : ∃ vs, oe.data = .fields vs)
    (hk : PySem.W.kitOne Y.K (.ref C) (.ref C2) = some b) (hg : Gl Y "isinstance") (hm : Y.mg "isinstance" = none) (hgy : Gl Y y) (hmy : Y.mg y = some (.ref C2))
    (hN : Y.N[i]? = some x := by rfl) (hv : Vis Y.env.scope x := by first | exact Or.inl rfl | exact Or.inr (Or.inl rfl) | exact Or.inr (Or.inr rfl)) (hd : (x == ("__debug__" : Str)) = false := by decide) (hcd : (x == ("__classdict__" : Str)) = false := by decide) (hdy : (y == ("__debug__" : Str)) = false := by decide)
    (he : starEach (.Name x px :: [.Name y py]) Y.env = (false, eval (.Name x px) Y.env) :: starEach [.Name y py] Y.env := by rfl) (he2 : starEach [.Name y py] Y.env = (false, eval (.Name y py) Y.env) :: starEach [] Y.env := by rfl) (hpl : (backTo pos (starEach [.Name y py] Y.env)).any (·.1) = false := by rfl) :
    SEe (Y.suite a ((a, oe) :: pn)) i a cls dd Γ (.Call (.Name "isinstance" p) [.Name x px, .Name y py] [] pos) (eIsX i nm b) 0 Γ := by
  refine ⟨_, pe_callB (X := Y.suite a ((a, oe) :: pn)) (call_isX T hz hf) hg hm boot_isinstance (pa_cons (pe_var (X := Y.suite a ((a, oe) :: pn)) hN hv hd hcd) (pa_cons (pe_glob (X := Y.suite a ((a, oe) :: pn)) (v := .ref C2) hgy hmy rfl hdy) pa_nil he2) he) (by decide) (by decide) he hpl, fun B σ env F H d Q r kx e k => ?_⟩
  obtain ⟨h1, x0, h2, nm', C', ks, fs, rfl, h3, h5, h4⟩ := kx
  rw [eIsX, h2, Option.bind_some] at e
  have ee : (if nm' = nm then some (PyData.bool b) else none) = some d := e
  clear e
  by_cases hc : nm' = nm
  · rw [if_pos hc] at ee
    cases ee
    subst hc
    rw [hns] at h3
    cases h3
    refine ⟨.ref a, h1, .ref C2, .ref C2, b, h5, rfl, (fun u hu => hu), hk, ?_, k _ F H (Same.refl _) (Same.refl _) (r.t0 (.bl b))⟩
    rcases h4 with ⟨h4, _, _⟩ | ⟨da, xs, h5', h6, h7, h8⟩
    · exact .inl h4
    · exact .inr ⟨da, xs, h5', r.fh _ _ h6⟩
  · rw [if_neg hc] at ee
    cases ee
end
end Pf

set_option Elab.async false
set_option linter.all false
set_option maxRecDepth 100000
set_option maxHeartbeats 4000000
namespace Pf
open PySem PySem.Spec PyProof.Rows L2
section
variable {X : Cx} {L : Lp} {Γ Γ1 Γ2 Γx Γ' : Ctx}
variable {i : Nat} {a : Addr} {cls : Value} {dd : Option Addr}
def SAe (X : Cx) (i : Nat) (a : Addr) (cls : Value) (dd : Option Addr) (Γ : Ctx) (es : List Expr) (f : AF) (Γ' : Ctx) : Prop :=
  ∃ t : TA, PA X es t ∧ ∀ (B : Bs) (σ : L2.St) (env : List D) (F H : Hp) (ds : List D) (Q : List V → Hp → Prop), Rel X.K B Γ σ env F H → Kx X.K i a cls dd σ env F → f env = some ds →
    (∀ vs F' H', Same F F' → Same H H' → Rel X.K B Γ' σ env F' H' → RpAll X.K F' vs ds → Q vs H') → t σ H Q
theorem sae_nil : SAe X i a cls dd Γ [] aN Γ := ⟨_, pa_nil, fun B σ env F H ds Q r kx e k => by
  cases e
  exact k [] F H (Same.refl _) (Same.refl _) r .nil⟩
theorem sae_cons {a0 : Expr} {es : List Expr} {fa : EF} {fs : AF} (ha : SEe X i a cls dd Γ a0 fa 0 Γ1) (hs : SAe X i a cls dd Γ1 es fs Γ2) (he : starEach (a0 :: es) X.env = (false, eval a0 X.env) :: starEach es X.env := by rfl) :
    SAe X i a cls dd Γ (a0 :: es) (aC fa fs) Γ2 := by
  obtain ⟨ta, pa, qa⟩ := ha
  obtain ⟨tb, pb, qb⟩ := hs
  refine ⟨_, pa_cons pa pb he, fun B σ env F H ds Q rr kx e k => ?_⟩
  obtain ⟨x, hx, e⟩ := Option.bind_eq_some_iff.mp e
  obtain ⟨xs, hxs, e⟩ := Option.bind_eq_some_iff.mp e
  cases e
  refine qa B σ env F H x _ rr kx hx fun v F1 H1 s1 t1 r1 => ?_
  have kx1 : Kx X.K i a cls dd σ env F1 := ⟨kx.1, kx.2.elim fun x h => ⟨x, h.1, h.2.up s1⟩⟩
  refine qb B σ env F1 H1 xs _ r1.rel kx1 hxs fun us F2 H2 s2 t2 r2 b2 => ?_
  exact k (v :: us) F2 H2 (s1.trans s2) (t1.trans t2) r2 (.cons ((show Rp X.K F1 v x from r1.bw).up s2) b2)
theorem roomH_suite {k : Nat} {A : Around} {e : Option Value} (r : Room k A) : L2H.RoomH k (A.mark e) := ⟨r.dp, r.un⟩
theorem hu64h {k : Nat} {A : Around} (hr : L2H.RoomH k A) : A.units + 64 < cLine := by have z := hr.un; omega
def SUe (X : Cx) (L : Lp) (i : Nat) (a : Addr) (cls : Value) (dd : Option Addr) (Γ : Ctx) (sts : List Stmt) (f : SF) (Γ' : Ctx) : Prop :=
  ∃ t : TS, PSs X sts t ∧ ∀ (B : Bs) (σ : L2.St) (env : List D) (F H : Hp) (o : Out) (E : Ends), Rel X.K B Γ σ env F H → Kx X.K i a cls dd σ env F → f env = some o → PostS X.K B L Γ' F σ env E o → t E σ H
theorem sue_ret {e : Expr} {f : EF} {n : Nat} {pos : Pos} (h : SEe X i a cls dd Γ e f n Γ1) (hn : L.ρ = n := by rfl) : SUe X L i a cls dd Γ [.Return (some e) pos] (sRet f) Γ' := by
  obtain ⟨t, p, q⟩ := h
  refine ⟨_, pss_one (ps_ret p), fun B σ env F H o E r kx e k => ?_⟩
  obtain ⟨d, hd, e⟩ := Option.bind_eq_some_iff.mp e
  cases e
  subst hn
  refine q B σ env F H d _ r kx hd fun v F2 H2 s1 _ r2 => k.1 v F2 H2 s1 ?_
  obtain ⟨f, g, s, ow, ok⟩ := r2
  exact ⟨g, ow, ok.less fun a => by show g a ≤ g a + f a; omega⟩
theorem SUe.sub {sts : List Stmt} {f : SF} (h : SUe X L i a cls dd Γ sts f Γ1) (l : LeC Γ' Γ1 = true) : SUe X L i a cls dd Γ sts f Γ' := by
  obtain ⟨t, p, q⟩ := h
  exact ⟨t, p, fun B σ env F H o E r kx e k => q B σ env F H o E r kx e (k.down l)⟩
end
end Pf

set_option Elab.async false
set_option linter.all false
set_option maxRecDepth 100000
set_option maxHeartbeats 4000000
namespace L2
open PySem PySem.Spec PyProof.Rows
def wManyAs (K : PySem.W.Frag) (i : Nat) (Wout : WX) (D : Ends) : List (Value × (Addr → Value → Option Addr → TS)) → WX
  | [] => Wout
  | (c, ts) :: r => fun cls d σ H => ∃ b, PySem.W.exmOne K cls c = some b ∧ (b = true → ∀ a, H a = none → ts a cls d { nx := fun σ' H' => D.nx (σ'.set i none) H', rt := D.rt, bk := fun σ' H' => D.bk (σ'.set i none) H', ct := fun σ' H' => D.ct (σ'.set i none) H' } (σ.set i (some (.ref a))) H) ∧ (b = false → wManyAs K i Wout D r cls d σ H)
inductive HdsAs (X : Cx) (n : Str) : List ExceptHandler → List (Value × (Addr → Value → Option Addr → TS)) → Prop
  | nil : HdsAs X n [] []
  | cons {x : Str} {c : Value} {ts : Addr → Value → Option Addr → TS} {b₀ : Stmt} {suite : List Stmt} {np pos' : Pos} {hds : List ExceptHandler} {l : List (Value × (Addr → Value → Option Addr → TS))} (hc : Names X x c)
      (hsu : ∀ (a : Addr) (oe : Obj) (cls : Value) (d : Option Addr) (pn : List (Addr × Obj)), Zc cls d oe → (∃ vs, oe.data = .fields vs) → PSs (X.suite a ((a, oe) :: pn)) (b₀ :: suite) (ts a cls d)) (r : HdsAs X n hds l) :
      HdsAs X n (.ExceptHandler (some (.Name x np)) (some n) (b₀ :: suite) pos' :: hds) ((c, ts) :: l)
section
variable {X : Cx} {n : Str} {i : Nat} {body : List Stmt} {h₀ : ExceptHandler} {hds : List ExceptHandler} {l : List (Value × (Addr → Value → Option Addr → TS))} {pos : Pos} {tb : WX → TS} {Wout : WX}
theorem ps_try_manyAs (hs : X.stack = X.env :: X.outer) (hf : X.env.frame = some X.env.locals) (hN : X.N.Nodup) (hi : X.N[i]? = some n) (hln : X.env.kindOf n = some .local) (tk : Takes X Wout)
    (hb : ∀ (W : WX) (pn : List (Addr × Obj)) (xe : Value → Shared → Prop), Takes (X.tr pn xe) W → PassesOwn (model X.prog X.w) X.A X.env xe → PSs (X.tr pn xe) body (tb W))
    (hh : HdsAs X n (h₀ :: hds) l) : PS X (.Try body (h₀ :: hds) [] [] pos) (fun D σ H => tb (wManyAs X.K i Wout D l) D σ H) := by
  refine ⟨fun pins s σ H D I h => ?_⟩
  have ok := I.ok
  have hfr : X.A.frames = some (X.env :: X.outer) := by rw [ok.frames, hs]
  refine wpAny_Try_except ?_
  refine wpAny_mono ((hb (wManyAs X.K i Wout D l) (X.pn ++ pins) (fun e s₁ => wpAny (model X.prog X.w) X.A (noteFrame e X.env) (fun _ s₂ => wpAny (model X.prog X.w) X.A (setFlight e none) (fun _ s₃ =>
    wpAny (model X.prog X.w) X.A (handleBy e X.env (h₀ :: hds)) (SP X pins D) X.xe s₃) X.xe s₂) X.xe s₁) (fun u s' xx => ?_) PassesOwn.looking).run [] s σ H D (I.toTry _) h) (fun f s1 hsp => ?_) (fun e s1 he => he)
  · -- the catch
    obtain ⟨a, B, sI, pins', σ', H', cls, d, rfl, J', nb, up, sky, na, os, ag, w⟩ := xx
    have J : Inv X pins σ' H' sI := J'.ofTry ok
    have sky' : Sky B (X.env :: X.outer) a (Zc cls d) X.env.locals s'.heap := by rw [← hs]; exact sky
    show wpAny (model X.prog X.w) X.A (noteFrame (.ref a) X.env) _ _ _
    refine Sky.land Zc.steady hfr hf sky' fun h3 fl3 up3 => ?_
    have J3 : Inv X pins σ' H' { s' with heap := h3 } := J.landed nb fl3.1 (up.trans up3) os ag
    obtain ⟨oe3, vs3, he3, hz3, hd3⟩ := fl3.there
    have notFr : ∀ {h : Heap} {o : Obj} {vs : Array Value}, h.FunFrames B (X.env :: X.outer) → h.get? a = some o → o.data = .fields vs → a ∉ frs (X.env :: X.outer) := fun {h o vs} ff e dd hm => by
      obtain ⟨_, o', e', hnf⟩ := ff.mem hm
      rw [e] at e'; cases e'
      exact hnf _ dd
    have nfr := notFr fl3.2.2.1 he3 hd3
    have nL : a ≠ X.env.locals := fun z => nfr (List.mem_filterMap.mpr ⟨X.env, List.mem_cons_self, by rw [hf, z]⟩)
    have nF : a ∉ X.fs := fun hm => by
      obtain ⟨e, he, q⟩ := List.mem_filterMap.mp hm
      exact nfr (List.mem_filterMap.mpr ⟨e, List.mem_cons_of_mem _ he, q⟩)
    have S3 := J3.suite he3 hd3 na nL nF
    have go : ∀ {hds' : List ExceptHandler} {l' : List (Value × (Addr → Value → Option Addr → TS))}, HdsAs X n hds' l' → wManyAs X.K i Wout D l' cls d σ' H' →
        wpAny (model X.prog X.w) X.A (handleBy (.ref a) X.env hds') (SP X pins D) X.xe { s' with heap := h3 } := by
      intro hds' l' hk
      induction hk with
      | nil =>
        intro w
        refine wpAny_handleBy_nil ?_
        obtain ⟨k1, k2, k3, oe, vs, T, oT, ts', he, hz, hd, h1, hr⟩ := id fl3
        unfold PySem.passOn
        refine wpAny_bind (wpAny_field he hd h1 ?_)
        rw [if_neg (show ¬ ((Value.ref T == Value.none) = true) from by simp)]
        have fin : wpAny (model X.prog X.w) X.A (setFlight (.ref a) X.env.frame) (fun _ s4 => wpAny (model X.prog X.w) X.A (throw (.ref a) : Sem Flow) (SP X pins D) X.xe s4) X.xe { s' with heap := h3 } := by
          rw [hf]
          refine HandSPX.setFlight_upZ fl3 fun h4 hh4 up4 => wpAny_throw (tk _ _ ?_)
          exact ⟨a, B, sI, pins, σ', H', cls, d, rfl, J, nb, (up.trans up3).trans up4, .inr (.inr (by rw [hs]; exact hh4)), na, os, ag, w⟩
        first
          | exact wpAny_bind (wpAny_pure (wpAny_bind fin))
          | exact wpAny_bind fin
      | @cons x c ts b₀ suite np pos' hds2 l2 hc hsu r ih =>
        intro w
        obtain ⟨b, hb1, hyes, hno⟩ := w
        refine wpAny_handleBy_cons (codeAny_handlers_test ?_) (by intro q; cases q)
        have LT : PySem.W.Looks (model X.prog X.w) h3 (typeOf (.ref a)) cls := fun A Q E s k q => wpAny_typeOf_ref (k _ _ he3) (by rw [hz3.1]; exact q)
        have LM := PySem.W.exm_one (M := model X.prog X.w) (J3.kIn) LT hb1
        have test : ∀ {Q : Value → Shared → Prop} {E : Value → Shared → Prop}, Q c { s' with heap := h3 } → wpAny (model X.prog X.w) (X.A.mark (some (.ref a))) (eval (.Name x np) X.env) Q E { s' with heap := h3 } := fun {Q E} q => by
          obtain ⟨hg, hdbg, hm | ⟨hm, hv, hnn⟩⟩ := hc
          · exact ld_glob (X := X.suite a ((a, oe3) :: (X.pn ++ pins))) S3 hg hm q hdbg
          · exact ld_blt (X := X.suite a ((a, oe3) :: (X.pn ++ pins))) S3 hg hm hv q hnn hdbg
        refine test (LM.here ?_)
        cases b with
        | true =>
          refine codeAny_handlers_suite_as ?_
          refine HandSPX.lands_againZ fl3 fun h4 fl4 up4 => ?_
          have J4 : Inv X pins σ' H' { s' with heap := h4 } := J.landed nb fl4.1 ((up.trans up3).trans up4) os ag
          obtain ⟨oe4, vs4, he4, hz4, hd4⟩ := fl4.there
          have S4 := J4.suite he4 hd4 na nL nF
          refine store_ok (X := X.suite a ((a, oe4) :: (X.pn ++ pins))) (v := .ref a) S4 hN hi (.inl hln) rfl (fun s5 S5 => ?_) (.inr hln)
          refine wpAny_mono ((hsu a oe4 cls d (X.pn ++ pins) hz4 ⟨_, hd4⟩).run [] s5 _ H' _ S5 (hyes rfl a na)) (fun f s6 hsp => ?_) (fun _ _ z => False.elim z)
          have end_ : ∀ {σ6 : L2.St} {H6 : Hp} {Q : Shared → Prop}, Inv (X.suite a ((a, oe4) :: (X.pn ++ pins))) [] σ6 H6 s6 → (∀ s7, Inv X pins (σ6.set i none) H6 s7 → Q s7) →
              wpAny (model X.prog X.w) X.A (do bindName X.env n .none; unbindBehindTheSuite X.env n pos') (fun _ s7 => Q s7) X.xe s6 := fun {σ6 H6 Q} S6 hq => gone_ok (S6.unsuite ok) hN hi hln hq
          cases f with
          | next =>
            obtain ⟨σ6, H6, S6, q6⟩ := hsp
            exact end_ S6 fun s7 J7 => ⟨_, _, J7, q6⟩
          | brk =>
            obtain ⟨σ6, H6, S6, q6⟩ := hsp
            exact end_ S6 fun s7 J7 => ⟨_, _, J7, q6⟩
          | cont =>
            obtain ⟨σ6, H6, S6, q6⟩ := hsp
            exact end_ S6 fun s7 J7 => ⟨_, _, J7, q6⟩
          | ret u =>
            obtain ⟨v6, σ6, H6, S6, r6, q6⟩ := hsp
            exact end_ S6 fun s7 J7 => ⟨_, _, _, J7, r6, q6⟩
        | false =>
          show wpAny _ X.A (handleBy (.ref a) X.env hds2) _ _ _
          exact ih (hno rfl)
    exact go hh w
  · cases f with
    | next =>
      obtain ⟨σ', H', J', q⟩ := hsp
      exact wpAny_execs_nil ⟨σ', H', J'.ofTry ok, q⟩
    | brk =>
      obtain ⟨σ', H', J', q⟩ := hsp
      exact ⟨σ', H', J'.ofTry ok, q⟩
    | cont =>
      obtain ⟨σ', H', J', q⟩ := hsp
      exact ⟨σ', H', J'.ofTry ok, q⟩
    | ret u =>
      obtain ⟨v, σ', H', J', r, q⟩ := hsp
      exact ⟨v, σ', H', J'.ofTry ok, r, q⟩
end
end L2
namespace Pf
open PySem PySem.Spec PyProof.Rows L2
section
variable {X : Cx} {L : Lp} {Γ Γ1 Γ2 Γx Γ' : Ctx} {K : PySem.W.Frag}
variable {i : Nat} {a : Addr} {cls : Value} {dd : Option Addr}
def pCls : List (Str × Bool) → D → Option Bool
  | (s, b) :: r, .tuple [.str nm, k, f] => if nm = s then some b else pCls r (.tuple [.str nm, k, f])
  | _, _ => none
def HpC (K : PySem.W.Frag) (l : List (Str × Bool)) (c : Value) : Prop := ∀ F c' dd y b, ExIs K F c' dd y → pCls l y = some b → PySem.W.exmOne K c' c = some b
theorem hp_nil {c : Value} : HpC K [] c := fun F c' dd y b h e => by
  unfold pCls at e
  cases e
theorem hp_cons {s : Str} {b : Bool} {C : Addr} {r : List (Str × Bool)} {c : Value} (hns : PySem.W.nsIn K mainGlobals s = some (some (.ref C))) (te : PySem.W.exmOne K (.ref C) c = some b) (h : HpC K r c) : HpC K ((s, b) :: r) c := by
  intro F c' dd y b' hx e
  have hx0 := hx
  obtain ⟨nm, C', ks, fs, rfl, h1, rfl, _⟩ := hx
  have e : (if nm = s then some b else pCls r (.tuple [.str nm, .list (ks.map .str), .list fs])) = some b' := e
  by_cases c0 : nm = s
  · rw [if_pos c0] at e
    cases e
    subst c0
    rw [hns] at h1
    cases h1
    exact te
  · rw [if_neg c0] at e
    exact h F _ dd _ b' hx0 e
def pickX (i : Nat) : List ((D → Option Bool) × SF) → D → SF
  | [], x, _ => some (.rt (mkX x))
  | (p, g) :: r, x, env => (p x).bind fun b => if b = true then (g (env.set i x)).bind fun o => match o with
      | .nx e => some (.nx e)
      | .rt d => some (.rt d)
      | _ => none
    else pickX i r x env
def sTryMany (i : Nat) (f : SF) (l : List ((D → Option Bool) × SF)) : SF := fun env => (f env).bind fun o => match o with
  | .rt d => match unX d with
    | some x => pickX i l x env
    | none => some (.rt d)
  | o => some o
inductive HdOk (X : Cx) (L : Lp) (i : Nat) (n : Str) (Γx Γ' : Ctx) : List ExceptHandler → List ((D → Option Bool) × SF) → Prop
  | nil : HdOk X L i n Γx Γ' [] []
  | cons {x : Str} {c : Value} {g : SF} {l0 : List (Str × Bool)} {b₀ : Stmt} {suite : List Stmt} {np pos' : Pos} {hds : List ExceptHandler} {l : List ((D → Option Bool) × SF)} (hc : Names X x c) (hp : HpC X.K l0 c)
      (hsu : ∀ (a : Addr) (oe : Obj) (cls : Value) (d : Option Addr) (pn : List (Addr × Obj)), Zc cls d oe → (∃ vs, oe.data = .fields vs) → SUe (X.suite a ((a, oe) :: pn)) L i a cls d Γx (b₀ :: suite) g Γ') (r : HdOk X L i n Γx Γ' hds l) :
      HdOk X L i n Γx Γ' (.ExceptHandler (some (.Name x np)) (some n) (b₀ :: suite) pos' :: hds) ((pCls l0, g) :: l)
theorem HdOk.to {n : Str} {hds : List ExceptHandler} {l : List ((D → Option Bool) × SF)} (h : HdOk X L i n Γx Γ' hds l) (hΓ : Γx[i]? = some none) (hΓ' : Γ'[i]? = some none) (hpin : i ∉ L.pin) :
    ∃ l2, HdsAs X n hds l2 ∧ ∀ (B : Bs) (σ : L2.St) (env : List D) (F H : Hp) (E : Ends) (o : Out) (y : D) (c1 : Value) (dd : Option Addr), Rel X.K B Γx σ env F H → ExIs X.K F c1 dd y → pickX i l y env = some o → PostS X.K B L Γ' F σ env E o → wManyAs X.K i L.wx E l2 c1 dd σ H := by
  induction h with
  | nil =>
    refine ⟨[], .nil, fun B σ env F H E o y c1 dd r hx e k => ?_⟩
    cases e
    exact k.2 y rfl c1 dd σ F H (Same.refl _) r.ok0 hx
  | @cons x c g l0 b₀ suite np pos' hds l hc hp hsu _ ih =>
    obtain ⟨l2, h2, h3⟩ := ih
    refine ⟨(c, fun a cls d E σ H => ∃ (B : Bs) (env : List D) (F : Hp) (o : Out), Rel X.K B Γx σ env F H ∧ Kx X.K i a cls d σ env F ∧ g env = some o ∧ PostS X.K B L Γ' F σ env E o) :: l2, .cons hc (fun a oe cls d pn hz hfl => ?_) h2, fun B σ env F1 H1 E o y c1 dd r1 hx e k => ?_⟩
    · obtain ⟨t, pt, q⟩ := hsu a oe cls d pn hz hfl
      exact ⟨fun pins s σ H D I ⟨B, env, F, o, r, kx, e, k⟩ => pt.run pins s σ H D I (q B σ env F H o D r kx e k)⟩
    · obtain ⟨b, hpb, e⟩ := Option.bind_eq_some_iff.mp e
      refine ⟨b, hp F1 c1 dd y b hx hpb, fun hpy a na => ?_, fun hpy => ?_⟩
      · rw [if_pos hpy] at e
        obtain ⟨o2, h2', e⟩ := Option.bind_eq_some_iff.mp e
        obtain ⟨f1, sl, ok⟩ := r1
        have ln := sl.len
        have hi1 : i < Γx.length := (List.getElem?_eq_some_iff.mp hΓ).1
        have sl2 : Slots X.K F1 H1 Γx (σ.set i (some (.ref a))) (env.set i y) f1 := sl.agree (List.length_set) (List.length_set) fun j => by
          by_cases c : j = i
          · exact .inl (by rw [c]; exact hΓ)
          · exact .inr ⟨set_other c, set_other c⟩
        refine ⟨B, env.set i y, F1, o2, ⟨f1, sl2, ok⟩, ⟨by rw [List.getElem?_set_self (by omega)], y, by rw [List.getElem?_set_self (by omega)], hx⟩, h2', ?_⟩
        cases o2 with
        | nx e2 =>
          cases e
          intro σ6 F6 H6 s6 r6 kp6
          obtain ⟨f6, sl6, ok6⟩ := r6
          refine k (σ6.set i none) F6 H6 s6 ⟨f6, sl6.wipe1 hΓ', ok6⟩ fun j hj => ?_
          have hji : j ≠ i := fun e => hpin (e ▸ hj)
          obtain ⟨q1, q2⟩ := kp6 j hj
          rw [set_other hji] at q1 q2
          exact ⟨by rw [set_other hji]; exact q1, q2⟩
        | rt d => cases e; exact k
        | bk e2 => cases e
        | ct e2 => cases e
      · rw [if_neg (by rw [hpy]; decide)] at e
        exact h3 B σ env F1 H1 E o y c1 dd r1 hx e k
theorem ss_try_many (i : Nat) {n : Str} {st : Stmt} {h₀ : ExceptHandler} {hds : List ExceptHandler} {pos : Pos} {f : SF} {l : List ((D → Option Bool) × SF)} (hs : X.stack = X.env :: X.outer) (hf : X.env.frame = some X.env.locals) (hN : X.N.Nodup) (tk : Takes X L.wx)
    (hb : ∀ (W : WX) (pn : List (Addr × Obj)) (xe : Value → Shared → Prop), Takes (X.tr pn xe) W → PassesOwn (model X.prog X.w) X.A X.env xe → SBd (X.tr pn xe) ⟨L.ρ, L.bk, L.ct, L.pin, W⟩ Γ Γx st f Γ')
    (hh : HdOk X L i n Γx Γ' (h₀ :: hds) l)
    (hi : X.N[i]? = some n := by rfl) (hln : X.env.kindOf n = some .local := by rfl) (hΓ : Γx[i]? = some none := by rfl) (hΓ' : Γ'[i]? = some none := by rfl) (hpin : i ∉ L.pin := by first | decide | simp) :
    SS X L Γ (.Try [st] (h₀ :: hds) [] [] pos) (sTryMany i f l) Γ' := by
  obtain ⟨l2, h2, h3⟩ := hh.to hΓ hΓ' hpin
  refine ⟨_, ps_try_manyAs hs hf hN hi hln tk
    (tb := fun W E σ H => ∃ (B : Bs) (env : List D) (F : Hp) (o : Out), Rel X.K B Γ σ env F H ∧ f env = some o ∧ PostS X.K B ⟨L.ρ, L.bk, L.ct, L.pin, fun _ _ _ _ => True⟩ Γ' F σ env E o ∧
      ∀ x, o = .rt (mkX x) → ∀ c dd F' H', Same F F' → Rel X.K B Γx σ env F' H' → ExIs X.K F' c dd x → W c dd σ H') (fun W pn xe h1 h2 => ?_) h2, fun B σ env F H o E r e k => ?_⟩
  · obtain ⟨t, pt, q⟩ := hb W pn xe h1 h2
    refine pss_one ⟨fun pins s σ H D I ⟨B, env, F, o, r, e, k, kx⟩ => pt.run pins s σ H D I (q B σ env F H o D r e k kx)⟩
  · obtain ⟨o1, h1, e⟩ := Option.bind_eq_some_iff.mp e
    refine ⟨B, env, F, o1, r, h1, ?_, ?_⟩
    · cases o1 with
      | nx e1 => cases e; exact k
      | bk e1 => cases e; exact k
      | ct e1 => cases e; exact k
      | rt d =>
        cases hu : unX d with
        | none =>
          simp only [hu] at e
          cases e
          exact ⟨k.1, fun _ _ _ _ _ _ _ _ _ _ => trivial⟩
        | some y =>
          rw [unX_some hu]
          exact ⟨fun v F' H' s1 ⟨g1, ow, ok⟩ => (noXo ow).elim, fun _ _ _ _ _ _ _ _ _ _ => trivial⟩
    · intro y ey c1 dd F1 H1 s1 r1 hx
      subst ey
      simp only [unX_mk] at e
      exact h3 B σ env F1 H1 E o y c1 dd r1 hx e (k.up s1)
structure OwnX (K : PySem.W.Frag) (mg : Str → Option Value) (nm : Str) where
  C : Addr
  q : PySem.W.excIn K C [.type "ValueError", .type "Exception", .type "BaseException", .type "object"] "ValueError.__new__" = true
  kp : PySem.W.keepIn K (.ref C) = true
  r1 : PySem.W.subIn K (.ref C) (.type "BaseException") = some true
  r2 : PySem.W.typeIn K (.ref C) = some (.type "type")
  ns : PySem.W.nsIn K mainGlobals nm = some (some (.ref C))
  m : mg nm = some (.ref C)
theorem see_tup {es : List Expr} {fs : AF} {x1} {pos : Pos} (hs : SAe X i a cls dd Γ es fs Γ1) : SEe X i a cls dd Γ (.Tuple es x1 pos) (eTup fs) 0 Γ1 := by
  obtain ⟨ta, pa, qa⟩ := hs
  refine ⟨_, pe_tup pa, fun B σ env F H d Q rr kx e k => ?_⟩
  obtain ⟨ds, hx, e⟩ := Option.bind_eq_some_iff.mp e
  split at e
  · rename_i hz
    cases e
    refine qa B σ env F H ds _ rr kx hx fun vs F1 H1 s1 t1 r1 rp => ?_
    refine ⟨by rw [rp.length]; exact szLine hz, fun p hp => ?_⟩
    obtain ⟨s3, t3, r3⟩ := r1.got (got_newT r1.fh hp rp)
    exact k _ _ _ (s1.trans s3) (t1.trans t3) r3
  · cases e
end
end Pf

set_option Elab.async false
set_option linter.all false
set_option maxRecDepth 100000
set_option maxHeartbeats 4000000
namespace Pf
open PySem L2
structure Tk where
  C : Addr
  x : Addr
  dx : Addr
  l : Addr
  vb : V
  vh : V
  dB : D
  dH : D
structure Ts where
  n : Int
  ws : List D
def vOf : D → V
  | .bool b => .bl b
  | .int i => .int i
  | _ => .non
def plainD : D → Bool
  | .bool _ => true
  | .int _ => true
  | _ => false
def tf (vb vh : V) (n : Int) (l : Addr) : List (Str × V) := [("before", vb), ("holds", vh), ("facts_passed", .int n), ("after", .ref l)]
structure StT (K : PySem.W.Frag) (tk : Tk) (B : Bs) (τ : Ts) : Prop where
  ob : B.H0 tk.x = some (.ins tk.C tk.dx (tf tk.vb tk.vh τ.n tk.l))
  ls : B.H0 tk.l = some (.lst (τ.ws.map vOf))
  fx : B.F0 tk.x = none
  fl : B.F0 tk.l = none
  sm : τ.ws.all plainD = true
  hb : Rp K B.F0 tk.vb tk.dB
  hh : Rp K B.F0 tk.vh tk.dH
def Frm (tk : Tk) (B B' : Bs) : Prop := B'.F0 = B.F0 ∧ ∀ a, a ≠ tk.x → a ≠ tk.l → B'.H0 a = B.H0 a
theorem Frm.refl {tk : Tk} {B : Bs} : Frm tk B B := ⟨rfl, fun _ _ _ => rfl⟩
theorem Frm.trans {tk : Tk} {B B1 B2 : Bs} (h : Frm tk B B1) (k : Frm tk B1 B2) : Frm tk B B2 := ⟨k.1.trans h.1, fun a h1 h2 => (k.2 a h1 h2).trans (h.2 a h1 h2)⟩
section
variable {K : PySem.W.Frag} {tk : Tk} {B : Bs} {τ : Ts} {Γ : Ctx} {σ : St} {env : List D} {F H H1 : Hp}
theorem StT.hx (s : StT K tk B τ) {f : Fp} (k : Ok B F H f) : H tk.x = some (.ins tk.C tk.dx (tf tk.vb tk.vh τ.n tk.l)) := k.h0 _ _ s.ob
theorem StT.hl (s : StT K tk B τ) {f : Fp} (k : Ok B F H f) : H tk.l = some (.lst (τ.ws.map vOf)) := k.h0 _ _ s.ls
end
abbrev EM := Ts → List D → Option (Ts × D)
abbrev SFm := Ts → List D → Option (Ts × Out)
def SBm (X : Cx) (tk : Tk) (Γ : Ctx) (e : Expr) (f : EM) (n : Nat) (Γ' : Ctx) : Prop :=
  ∃ t : TE, PE X e t ∧ ∀ (B : Bs) (σ : St) (env : List D) (F H : Hp) (τ τ' : Ts) (d : D) (Q : VK), Rel X.K B Γ σ env F H → StT X.K tk B τ → σ[0]? = some (some (.ref tk.x)) → f τ env = some (τ', d) →
    (∀ B' v F' H', Frm tk B B' → StT X.K tk B' τ' → Same F F' → Rel X.K B' Γ' σ env F' H' → Bw X.K F' H' n d v → Q v H') → t σ H Q
def PostM (K : PySem.W.Frag) (tk : Tk) (B : Bs) (L : Lp) (Γ' : Ctx) (F : Hp) (σ0 : St) (env0 : List D) (E : Ends) : Ts × Out → Prop
  | (τ, .nx env) => ∀ B' σ F' H', Frm tk B B' → StT K tk B' τ → Same F F' → Rel K B' Γ' σ env F' H' → Kp L σ0 env0 σ env → E.nx σ H'
  | (τ, .rt d) => ∀ B' v F' H', Frm tk B B' → StT K tk B' τ → Same F F' → (∃ g, Own K F' H' 0 d v g ∧ Ok B' F' H' g) → E.rt v H'
  | _ => False
def SSm (X : Cx) (tk : Tk) (L : Lp) (Γ : Ctx) (sts : List Stmt) (f : SFm) (Γ' : Ctx) : Prop :=
  ∃ t : TS, PSs X sts t ∧ ∀ (B : Bs) (σ : St) (env : List D) (F H : Hp) (τ : Ts) (r : Ts × Out) (E : Ends), Rel X.K B Γ σ env F H → StT X.K tk B τ → σ[0]? = some (some (.ref tk.x)) → f τ env = some r → PostM X.K tk B L Γ' F σ env E r → t E σ H
section
variable {X : Cx} {L : Lp} {tk : Tk} {Γ Γ1 Γ2 Γ' : Ctx} {K : PySem.W.Frag} {B B' : Bs} {F F' H H' : Hp} {σ : St} {env : List D} {τ τ' : Ts}
theorem PostM.up {r : Ts × Out} {σ0 : St} {env0 : List D} {E : Ends} (fr : Frm tk B B') (e : Same F F') (h : PostM K tk B L Γ' F σ0 env0 E r) : PostM K tk B' L Γ' F' σ0 env0 E r := by
  obtain ⟨t, o⟩ := r
  cases o with
  | nx env => exact fun B2 σ2 F2 H2 f2 s2 u2 r2 kp => h B2 σ2 F2 H2 (fr.trans f2) s2 (e.trans u2) r2 kp
  | rt d => exact fun B2 v F2 H2 f2 s2 u2 r2 => h B2 v F2 H2 (fr.trans f2) s2 (e.trans u2) r2
  | bk _ => exact h
  | ct _ => exact h
theorem PostM.on {r : Ts × Out} {σ0 σ1 : St} {env0 env1 : List D} {E : Ends} (k : Kp L σ0 env0 σ1 env1) (h : PostM K tk B L Γ' F σ0 env0 E r) : PostM K tk B L Γ' F σ1 env1 E r := by
  obtain ⟨t, o⟩ := r
  cases o with
  | nx env => exact fun B2 σ2 F2 H2 f2 s2 u2 r2 kp => h B2 σ2 F2 H2 f2 s2 u2 r2 (k.trans kp)
  | rt d => exact h
  | bk _ => exact h
  | ct _ => exact h
theorem PostM.down {r : Ts × Out} {σ0 : St} {env0 : List D} {E : Ends} (l : LeC Γ' Γ1 = true) (h : PostM K tk B L Γ' F σ0 env0 E r) : PostM K tk B L Γ1 F σ0 env0 E r := by
  obtain ⟨t, o⟩ := r
  cases o with
  | nx env =>
    intro B2 σ2 F2 H2 f2 s2 u2 r2 kp
    obtain ⟨F3, u, r3⟩ := r2.down l
    exact h B2 σ2 F3 H2 f2 s2 (u2.trans u) r3 kp
  | rt d => exact h
  | bk _ => exact h
  | ct _ => exact h
theorem SBm.sub {e : Expr} {f : EM} {n : Nat} (h : SBm X tk Γ e f n Γ1) (l : LeC Γ' Γ1 = true) (hn : n = 0) : SBm X tk Γ e f 0 Γ' := by
  subst hn
  obtain ⟨t, p, q⟩ := h
  refine ⟨t, p, fun B σ env F H τ τ' d Q r st h0 e k => q B σ env F H τ τ' d Q r st h0 e fun B' v F' H' f1 s1 u1 r1 b1 => ?_⟩
  obtain ⟨F2, u, r2⟩ := r1.down l
  exact k B' v F2 H' f1 s1 (u1.trans u) r2 (Rp.up u b1)
theorem SSm.sub {sts : List Stmt} {f : SFm} (h : SSm X tk L Γ sts f Γ1) (l : LeC Γ' Γ1 = true) : SSm X tk L Γ sts f Γ' := by
  obtain ⟨t, p, q⟩ := h
  exact ⟨t, p, fun B σ env F H τ r E rr st h0 e k => q B σ env F H τ r E rr st h0 e (k.down l)⟩
structure TkC (K : PySem.W.Frag) (C : Addr) : Prop where
  cl : Cls K C
  n1 : NoAttr K C "before"
  n2 : NoAttr K C "holds"
  n3 : NoAttr K C "facts_passed"
  n4 : NoAttr K C "after"
def mFld (g : Ts → D) : EM := fun τ _ => some (τ, g τ)
theorem tf_2 {vb vh : V} {n : Int} {l : Addr} : (tf vb vh n l).lookup ("holds" : Str) = some vh := rfl
section
variable {xp pos : Pos} (T : TkC X.K tk.C) (hx : PE X (.Name "self" xp) (tVar 0))
include T hx
theorem sbm_holds (hb : attributeBase (.Name "self" xp) "holds" X.env (eval (.Name "self" xp) X.env) = eval (.Name "self" xp) X.env := by rfl) : SBm X tk Γ (.Attribute (.Name "self" xp) "holds" pos) (mFld fun _ => tk.dH) 0 Γ := by
  refine ⟨_, pe_fld hx hb, fun B σ env F H τ τ' d Q r st h0 e k => ?_⟩
  cases e
  obtain ⟨f, sl, ok⟩ := id r
  exact ⟨_, h0, tk.x, tk.C, tk.dx, _, tk.vh, rfl, st.hx ok, T.cl, T.n2, tf_2, k B tk.vh F H .refl st (Same.refl _) r (Rp.up ok.f0 st.hh)⟩
end
def m2 (g : D → D → Option D) (fa fb : EM) : EM := fun τ env => (fa τ env).bind fun p => (fb p.1 env).bind fun q => (g p.2 q.2).map fun d => (q.1, d)
end
end Pf

set_option Elab.async false
set_option linter.all false
set_option maxRecDepth 100000
set_option maxHeartbeats 4000000
namespace Pf
open PySem L2
section
variable {X : Cx} {L : Lp} {tk : Tk} {Γ Γ1 Γ2 Γ' : Ctx} {K : PySem.W.Frag} {B B' : Bs} {F F' H H' : Hp} {σ : St} {env : List D} {τ τ' : Ts}
theorem Got.less {F1 Hb F' H' H1 : Hp} {n : Nat} {d : D} {v : V} (g : Got K F1 Hb F' H' n d v) (hs : Same H1 Hb) : Got K F1 H1 F' H' n d v := by
  obtain ⟨f, o, k⟩ := g
  refine ⟨f, o, ⟨k.fh, hs.trans k.h0, k.f0, fun a u e => ?_, k.one, fun a ha => hs.dom a (k.fr a ha)⟩⟩
  rcases k.fn a u e with z | z | ⟨z, xs, rfl⟩ | ⟨ps, z⟩
  · exact .inl z
  · exact .inr (.inl (hs.dom a z))
  · cases c : H1 a with
    | none => exact .inr (.inl c)
    | some u2 =>
      by_cases n : NT u2
      · have := hs.st a u2 c n
        rw [show Hb a = _ from z] at this
        cases this
        exact .inr (.inr (.inl ⟨c, xs, rfl⟩))
      · exact .inr (.inr (.inr (by rw [show (Bs.mk H1 F1).H0 a = some u2 from c]; exact nt_not n)))
  · cases c : H1 a with
    | none => exact .inr (.inl c)
    | some u2 =>
      by_cases n : NT u2
      · have := hs.st a u2 c n
        rw [show Hb a = _ from z] at this
        exact absurd (Option.some.inj this.symm) (n ps)
      · exact .inr (.inr (.inr (by rw [show (Bs.mk H1 F1).H0 a = some u2 from c]; exact nt_not n)))
end
end Pf

set_option Elab.async false
set_option linter.all false
set_option maxRecDepth 100000
set_option maxHeartbeats 4000000
namespace Pf
open PySem L2
structure GlT (K : PySem.W.Frag) (mg : Str → Option Value) (x : Str) (ds : List D) : Prop where
  ex : ∃ (g : Addr) (xs : List V), mg x = some (.ref g) ∧ (∀ H, SqT K H g xs) ∧ xs.all flatV = true ∧ (∀ F, RpAll K F xs ds)
  fl : ds.all flatD = true
theorem vals_strs {K : PySem.W.Frag} {F : Hp} : ∀ ss : List Str, RpAll K F (ss.map V.str) (ss.map .str) ∧ (ss.map V.str).all flatV = true ∧ (ss.map PyData.str).all flatD = true
  | [] => ⟨.nil, rfl, rfl⟩
  | s :: ss => ⟨.cons (.str s) (vals_strs ss).1, by rw [List.map_cons, List.all_cons, (vals_strs (K := K) (F := F) ss).2.1]; rfl, by rw [List.map_cons, List.all_cons, (vals_strs (K := K) (F := F) ss).2.2]; rfl⟩
theorem glT_mk {K : PySem.W.Frag} {mg : Str → Option Value} {x : Str} {ss : List Str} {g : Addr} {od : Option Addr} {its : Array Value} {n : Nat} {sl : Array (Option Value)} (hm : mg x = some (.ref g)) (l : K.lookup g = some ⟨.type "tuple", od, .seq its n, sl⟩) (hz : its.size ≤ 1000) (hv : Vals (ss.map V.str) its.toList) : GlT K mg x (ss.map .str) :=
  ⟨⟨g, ss.map V.str, hm, fun H => .inr ⟨_, its, n, l, rfl, rfl, by rw [sizeLine_eq]; omega, hv⟩, (vals_strs (K := K) (F := fun _ => none) ss).2.1, fun F => (vals_strs ss).1⟩, (vals_strs (K := K) (F := fun _ => none) ss).2.2⟩
section
variable {X : Cx} {Γ Γ1 : Ctx}
end
end Pf
namespace Pf
open PySem L2
end Pf

set_option Elab.async false
set_option linter.all false
set_option maxRecDepth 100000
set_option maxHeartbeats 4000000
namespace Pf
open PySem L2 PySem.Spec PyProof.Rows
section
variable {X : Cx} {L : Lp} {Γ Γ0 Γ1 Γ2 Γ3 Γ4 Γ' : Ctx} {K : PySem.W.Frag} {F F' H H' : Hp} {B : Bs}
end
section
variable {X : Cx}
end
section
variable {X : Cx} {L : Lp} {Γ Γ0 Γ1 Γ2 Γ3 Γ4 Γ' : Ctx} {K : PySem.W.Frag} {F F' H H' : Hp} {B : Bs}
end
section
variable {X : Cx} {pins : List (Addr × Obj)} {σ : L2.St} {H : Hp} {s : Shared} {a : Addr} {y : V} {u : Value} {o : Option V} {A : Around} {E : Value → Shared → Prop}
end
section
variable {X : Cx} {L : Lp} {Γ Γ0 Γ1 Γ2 Γ3 Γ4 Γ' : Ctx} {K : PySem.W.Frag} {F F' H H' : Hp} {B : Bs}
end
end Pf

set_option Elab.async false
set_option linter.all false
set_option maxRecDepth 100000
set_option maxHeartbeats 4000000
namespace Pf
open PySem L2
section
variable {X : Cx} {L : Lp} {Γ Γ1 Γ2 Γ' : Ctx} {K : PySem.W.Frag} {F F' H H' : Hp} {B : Bs}
instance : ∀ i j, Decidable (CShl i j) := fun i j => by unfold CShl; infer_instance
end
end Pf

set_option Elab.async false
set_option linter.all false
set_option maxRecDepth 100000
set_option maxHeartbeats 4000000
namespace Pf
open PySem L2
section
variable {X : Cx} {L : Lp} {Γ Γ1 Γ2 Γ' : Ctx} {K : PySem.W.Frag} {F F' H H' : Hp} {B : Bs}
end
end Pf

set_option Elab.async false
set_option linter.all false
set_option maxRecDepth 100000
set_option maxHeartbeats 4000000
namespace Pf
open PySem L2
section
variable {P : Program} {w : World} {A : Around} {E : Value → Shared → Prop} {s : Shared}
end
end Pf

set_option Elab.async false
set_option linter.all false
set_option maxRecDepth 100000
set_option maxHeartbeats 4000000
namespace Pf
open PySem L2 PyProof.Rows
section
variable {P : Program} {w : World} {A : Around} {E : Value → Shared → Prop} {s : Shared}
end
section
variable {X : Cx}
end
section
variable {X : Cx} {K : PySem.W.Frag} {Γ Γ1 : Ctx}
end
end Pf

set_option Elab.async false
set_option linter.all false
set_option maxRecDepth 100000
set_option maxHeartbeats 4000000
namespace Pf
open PySem L2
section
variable {X : Cx}
variable {Γ Γ1 Γ2 : Ctx}
end
end Pf

set_option Elab.async false
set_option linter.all false
set_option maxRecDepth 100000
set_option maxHeartbeats 4000000
namespace Pf
open PySem L2
section
variable {X : Cx} {L : Lp} {Γ Γ0 Γ1 Γ2 Γ3 Γ4 Γ' : Ctx} {K : PySem.W.Frag} {F F' H H' : Hp} {B : Bs}
theorem Slots.blank {F H : Hp} : ∀ {Γ : Ctx} {σ : St} {env : List D} {f : Fp} {i : Nat} {x : Option V} {d : D}, Slots K F H Γ σ env f → Γ[i]? = some none → Slots K F H Γ (σ.set i x) (env.set i d) f
  | [], [], [], _, _, _, _, _, h => by simp at h
  | none :: Γ, s :: σ, e :: env, f, 0, x, d, h, _ => h
  | none :: Γ, s :: σ, e :: env, f, i + 1, x, d, h, hi => Slots.blank (Γ := Γ) (i := i) h (by simpa using hi)
  | some m :: Γ, s :: σ, e :: env, f, 0, x, d, h, hi => by simp at hi
  | some m :: Γ, s :: σ, e :: env, f, i + 1, x, d, ⟨v, f1, f2, a, b, c, q⟩, hi => ⟨v, f1, f2, a, b, Slots.blank (i := i) c (by simpa using hi), q⟩
  | [], _ :: _, _, _, _, _, _, h, _ | [], [], _ :: _, _, _, _, _, h, _ | _ :: _, [], _, _, _, _, _, h, _ | _ :: _, _ :: _, [], _, _, _, _, h, _ => by simp [Slots] at h
theorem Rel.blank {σ : St} {env : List D} {i : Nat} {x : Option V} {d : D} (r : Rel K B Γ σ env F H) (h : Γ[i]? = some none) : Rel K B Γ (σ.set i x) (env.set i d) F H := by
  obtain ⟨f, s, k⟩ := r
  exact ⟨f, s.blank h, k⟩
end
end Pf

set_option Elab.async false
set_option linter.all false
set_option maxRecDepth 100000
set_option maxHeartbeats 4000000
namespace Pf
open PySem L2
def cutF (F : Hp) (a0 : Addr) : Hp := fun a => if a = a0 then none else F a
def ndN : Nat → D → Bool
  | 0, d => nd d
  | n + 1, .list ds => ds.all (ndN n)
  | n + 1, .dict kvs => (kvs.map (·.2)).all (ndN n)
  | _, _ => false
def ndS : Ctx → List D → Bool
  | [], [] => true
  | none :: Γ, _ :: env => ndS Γ env
  | some n :: Γ, d :: env => ndN n d && ndS Γ env
  | _, _ => false
section
variable {X : Cx} {L : Lp} {Γ Γ0 Γ1 Γ2 Γ3 Γ4 Γ' : Ctx} {K : PySem.W.Frag} {F F' H H' : Hp} {B : Bs} {a0 : Addr} {l0 : List (Key × V)} {z0 : HO}
theorem rd_cut (h0 : F a0 = some (.dK l0)) {a : Addr} {u : HO} (hu : ∀ l, u ≠ .dK l) (h : Rd F a u) : Rd (cutF F a0) a u := by
  have ne : a ≠ a0 := by
    rintro rfl
    rcases h with h | ⟨o, h⟩ <;> rw [h0] at h <;> cases h
    exact hu _ rfl
  rcases h with h | ⟨o, h⟩
  · exact .inl (by unfold cutF; rw [if_neg ne]; exact h)
  · exact .inr ⟨o, by unfold cutF; rw [if_neg ne]; exact h⟩
theorem sqL_cut (h0 : F a0 = some (.dK l0)) {a : Addr} {xs : List V} (h : SqL K F a xs) : SqL K (cutF F a0) a xs := h.imp (rd_cut h0 fun _ e => by cases e) id
mutual
theorem Rp.cut (h0 : F a0 = some (.dK l0)) : ∀ {v : V} {d : D}, Rp K F v d → nd d = true → Rp K (cutF F a0) v d
  | _, _, .non, _ => .non
  | _, _, .bl b, _ => .bl b
  | _, _, .int i, _ => .int i
  | _, _, .str x, _ => .str x
  | _, _, .lst h r, q => .lst (sqL_cut h0 h) (RpAll.cut h0 r (by simpa [nd] using q))
  | _, _, .tup (a := a) h r, q => .tup (by unfold cutF; rw [if_neg (fun c => by rw [c, h0] at h; cases h)]; exact h) (RpAll.cut h0 r (by simpa [nd] using q))
  | _, _, .dic h _ r, q => by simp [nd] at q
theorem RpAll.cut (h0 : F a0 = some (.dK l0)) : ∀ {vs : List V} {ds : List D}, RpAll K F vs ds → ndAll ds = true → RpAll K (cutF F a0) vs ds
  | _, _, .nil, _ => .nil
  | _, _, .cons a b, q => by
    simp only [ndAll, Bool.and_eq_true] at q
    exact .cons (Rp.cut h0 a q.1) (RpAll.cut h0 b q.2)
end
theorem ownAll_cut {P Q : D → V → Fp → Prop} {p : D → Bool} (h : ∀ d v f, p d = true → f a0 = 0 → P d v f → Q d v f) : ∀ {ds : List D} {vs : List V} {f : Fp}, ds.all p = true → f a0 = 0 → OwnAll P ds vs f → OwnAll Q ds vs f
  | [], [], _, _, _, o => o
  | d :: ds, v :: vs, f, q, z, ⟨f1, f2, a, b, e⟩ => by
    simp only [List.all_cons, Bool.and_eq_true] at q
    have := e a0
    exact ⟨f1, f2, h _ _ _ q.1 (by omega) a, ownAll_cut h q.2 (by omega) b, e⟩
  | [], _ :: _, _, _, _, o => o.elim
  | _ :: _, [], _, _, _, o => o.elim
theorem Own.cut (h0 : F a0 = some (.dK l0)) : ∀ (n : Nat) {d : D} {v : V} {f : Fp}, ndN n d = true → f a0 = 0 → Own K F H n d v f → Own K (cutF F a0) (upd H a0 z0) n d v f
  | 0, _, _, _, q, _, ⟨r, e⟩ => ⟨r.cut h0 q, e⟩
  | n + 1, .list ds, v, f, q, z, ⟨b, vs, f2, ev, hb, hn, o, hf⟩ => by
    have ne : b ≠ a0 := by rintro rfl; have := hf b; simp at this; omega
    have := hf a0
    exact ⟨b, vs, f2, ev, by rw [upd_ne ne]; exact hb, by unfold cutF; rw [if_neg ne]; exact hn, ownAll_cut (p := ndN n) (fun d v f q z o => Own.cut h0 n q z o) (by simpa [ndN] using q) (by omega) o, hf⟩
  | n + 1, .dict kvs, v, f, q, z, ⟨b, oo, vs, f2, ev, hb, hn, hk, o, hf⟩ => by
    have ne : b ≠ a0 := by rintro rfl; have := hf b; simp at this; omega
    have := hf a0
    exact ⟨b, oo, vs, f2, ev, by rw [upd_ne ne]; exact hb, by unfold cutF; rw [if_neg ne]; exact hn, hk, ownAll_cut (p := ndN n) (fun d v f q z o => Own.cut h0 n q z o) (by simpa only [ndN] using q) (by omega) o, hf⟩
  | _ + 1, .none, _, _, q, _, _ | _ + 1, .bool _, _, _, q, _, _ | _ + 1, .int _, _, _, q, _, _ | _ + 1, .str _, _, _, q, _, _ | _ + 1, .tuple _, _, _, q, _, _ => by simp [ndN] at q
theorem Slots.cut (h0 : F a0 = some (.dK l0)) : ∀ {Γ : Ctx} {σ : St} {env : List D} {f : Fp}, ndS Γ env = true → f a0 = 0 → Slots K F H Γ σ env f → Slots K (cutF F a0) (upd H a0 z0) Γ σ env f
  | [], [], [], _, _, _, h => h
  | none :: Γ, _ :: σ, _ :: env, f, q, z, h => Slots.cut (Γ := Γ) h0 (by simpa [ndS] using q) z h
  | some n :: Γ, s :: σ, d :: env, f, q, z, ⟨v, f1, f2, es, o, r, hf⟩ => by
    simp only [ndS, Bool.and_eq_true] at q
    have := hf a0
    exact ⟨v, f1, f2, es, Own.cut h0 n q.1 (by omega) o, Slots.cut h0 q.2 (by omega) r, hf⟩
  | [], _ :: _, _, _, _, _, h | [], [], _ :: _, _, _, _, h | _ :: _, [], _, _, _, _, h | _ :: _, _ :: _, [], _, _, _, h => by simp [Slots] at h
end
section
variable {X : Cx}
end
section
variable {X : Cx} {L : Lp} {Γ Γ0 Γ1 Γ2 Γ3 Γ4 Γ' : Ctx} {K : PySem.W.Frag} {F F' H H' : Hp} {B : Bs}
end
section
variable {X : Cx} {L : Lp} {Γ Γ0 Γ1 Γ2 Γ3 Γ4 Γ' : Ctx} {K : PySem.W.Frag} {F F' H H' : Hp} {B : Bs}
end
section
variable {X : Cx} {pins : List (Addr × Obj)} {σ : St} {H : Hp} {s : Shared} {a : Addr} {y z : V} {u r : Value} {A : Around} {E : Value → Shared → Prop}
end
section
variable {X : Cx} {L : Lp} {Γ Γ0 Γ1 Γ2 Γ3 Γ4 Γ' : Ctx} {K : PySem.W.Frag} {F F' H H' : Hp} {B : Bs}
end
section
variable {X : Cx} {L : Lp} {Γ Γ0 Γ1 Γ2 Γ3 Γ4 Γ' : Ctx} {K : PySem.W.Frag} {F F' H H' : Hp} {B : Bs}
end
end Pf

set_option Elab.async false
set_option linter.all false
set_option maxRecDepth 100000
set_option maxHeartbeats 4000000
namespace Pf
open PySem L2
section
variable {X : Cx} {Γ Γ1 Γ2 : Ctx}
end
end Pf

set_option Elab.async false
set_option linter.all false
set_option maxRecDepth 100000
set_option maxHeartbeats 4000000
namespace Pf
open PySem L2 L2H HotX
section
variable {prog : Program} {w : World} {A : Around} {E : Value → Shared → Prop} {s : Shared}
end
def Calm2 (A : Around) (fp : List Addr) (h : Heap) : Prop := A.handled = none ∨ ∃ x1, HotAt A x1 h ∧ ∀ b ∈ fp, x1 ≠ b
structure HotM (X : Cx) (H : Hp) (s : Shared) (x1 : Addr) : Prop where
  hot : HotAt X.A x1 s.heap
  free : H x1 = none
  loc : x1 ≠ X.env.locals
  fs : x1 ∉ X.fs
  ne : ∀ pins b, FpOk X pins H b → x1 ≠ b
def Md (X : Cx) : Prop := ∀ (pins : List (Addr × Obj)) (σ : L2.St) (H : Hp) (s : Shared), L2.Inv X pins σ H s → X.A.handled = none ∨ ∃ x1, HotM X H s x1
theorem Md.at {X : Cx} (md : Md X) {pins : List (Addr × Obj)} {σ : L2.St} {H : Hp} {s : Shared} {fp : List Addr} (I : L2.Inv X pins σ H s) (hf : ∀ b ∈ fp, FpOk X pins H b) : Calm2 X.A fp s.heap := by
  rcases md pins σ H s I with h | ⟨x1, h⟩
  · exact .inl h
  · exact .inr ⟨x1, h.hot, fun b hb => h.ne pins b (hf b hb)⟩
structure TurnM (P : Program) (w : World) (K : PySem.W.Frag) (tg : Expr) (J : It) (fp : List Addr) (it : Addr) (tn : Nat → Heap → Prop) : Prop where
  mem : it ∈ fp
  obj : ∀ i h, tn i h → ∀ b ∈ fp, ∃ o, h.get? b = some o ∧ ∀ v, o.data ≠ .cell v
  keep : ∀ i h h', tn i h → (∀ b ∈ fp, ∀ o, h.get? b = some o → h'.get? b = some o) → tn i h'
  item : ∀ (X : Cx), X.prog = P → X.w = w → X.K = K → ∀ (i : Nat) (pins : List (Addr × Obj)) (s : Shared) (σ : L2.St) (H : Hp) (E : Value → Shared → Prop), Calm2 X.A fp s.heap → L2.Inv X pins σ H s → (∀ b ∈ fp, FpOk X pins H b) → tn i s.heap → J.go i H →
    wpAny (model P w) X.A (pyNext (.ref it)) (fun r s1 => ∃ u, r = some u ∧ wpAny (model P w) X.A (letOwnedTupleGo tg (.ref it) u) (fun _ s2 => ∃ x H', L2.Inv X pins σ H' s2 ∧ RelV x u ∧ J.yld i H x H' ∧ tn (i + 1) s2.heap ∧ ∀ b ∈ fp, H' b = none) E s1) E s
  done : ∀ (X : Cx), X.prog = P → X.w = w → X.K = K → ∀ (i : Nat) (pins : List (Addr × Obj)) (s : Shared) (σ : L2.St) (H : Hp) (E : Value → Shared → Prop), Calm2 X.A fp s.heap → L2.Inv X pins σ H s → (∀ b ∈ fp, FpOk X pins H b) → tn i s.heap → J.stop i H →
    wpAny (model P w) X.A (pyNext (.ref it)) (fun r s1 => r = none ∧ L2.Inv X pins σ H s1) E s
  self : ∀ (A : Around) (i : Nat) (s : Shared) (Q : Value → Shared → Prop) (E : Value → Shared → Prop), tn i s.heap → Q (.ref it) s → wpAny (model P w) A (pyIter (.ref it)) Q E s
section
variable {P : Program} {w : World} {K : PySem.W.Frag} {tg : Expr}
end
def PIEM (X : Cx) (pins : List (Addr × Obj)) (σ : L2.St) (tg : Expr) (R : It → Hp → Prop) (itv : Value) (s2 : Shared) : Prop :=
  ∃ (it : Addr) (fp : List Addr) (tn : Nat → Heap → Prop) (J : It) (H' : Hp), itv = .ref it ∧ L2.Inv X pins σ H' s2 ∧ TurnM X.prog X.w X.K tg J fp it tn ∧ tn 0 s2.heap ∧ (∀ b ∈ fp, FpOk X pins H' b) ∧ R J H'
structure PIM (X : Cx) (tg iter : Expr) (wi : TI) : Prop where
  run : ∀ (pins : List (Addr × Obj)) (s : Shared) (σ : L2.St) (H : Hp) (R : It → Hp → Prop), L2.Inv X pins σ H s → wi σ H R → wpAny (model X.prog X.w) X.A (eval iter X.env) (fun v s1 => wpAny (model X.prog X.w) X.A (pyIter v) (PIEM X pins σ tg R) X.xe s1) X.xe s
section
variable {X : Cx} {tg : Expr}
theorem PIM.or {iter : Expr} {w w' : TI} (h : PIM X tg iter w) (h' : PIM X tg iter w') : PIM X tg iter (fun σ H R => w σ H R ∨ w' σ H R) :=
  ⟨fun pins s σ H R I q => q.elim (h.run pins s σ H R I) (h'.run pins s σ H R I)⟩
end
section
variable {X : Cx} {L : Lp} {Γ Γ0 Γ1 Γ2 Γ3 Γ4 Γ' : Ctx} {K : PySem.W.Frag} {F F' H H' : Hp} {B : Bs}
def SIM (X : Cx) (Γ : Ctx) (tg iter : Expr) (f : AF) (Γ' : Ctx) : Prop :=
  ∃ wi : TI, PIM X tg iter wi ∧ ∀ (B : Bs) (σ : L2.St) (env : List D) (F H : Hp) (ds : List D) (R : It → Hp → Prop), Rel X.K B Γ σ env F H → f env = some ds →
    (∀ J F' H', Same F F' → Same H H' → Rel X.K B Γ' σ env F' H' → ItOk X.K F' J ds → R J H') → wi σ H R
end
end Pf

set_option Elab.async false
set_option linter.all false
set_option maxRecDepth 100000
set_option maxHeartbeats 4000000
namespace Pf
open PySem L2 L2H HotX
section
variable {prog : Program} {w : World} {A : Around} {E : Value → Shared → Prop} {s : Shared}
end
section
variable {P : Program} {w : World} {K : PySem.W.Frag}
end
section
variable {X : Cx} {tg : Expr}
end
section
variable {X : Cx} {L : Lp} {Γ Γ0 Γ1 Γ2 Γ3 Γ4 Γ' : Ctx} {K : PySem.W.Frag} {F F' H H' : Hp} {B : Bs}
end
end Pf

set_option Elab.async false
set_option linter.all false
set_option maxRecDepth 100000
set_option maxHeartbeats 4000000
namespace Pf
open PySem L2 L2H HotX
section
variable {X : Cx}
end
end Pf

set_option Elab.async false
set_option linter.all false
set_option maxRecDepth 100000
set_option maxHeartbeats 4000000
namespace Pf
open PySem L2 L2H HotX
section
variable {prog : Program} {w : World} {A : Around} {E : Value → Shared → Prop} {s : Shared}
end
section
variable {X : Cx}
end
section
variable {X : Cx} {L : Lp} {Γ Γ0 Γ1 Γ2 Γ3 Γ4 Γ' : Ctx} {K : PySem.W.Frag} {F F' H H' : Hp} {B : Bs}
def SIgM (X : Cx) (Γ : Ctx) (tg iter : Expr) (f : AF) (Γ' : Ctx) : Prop :=
  ∃ wi : TI, PIM X tg iter wi ∧ ∀ (B : Bs) (σ : L2.St) (env : List D) (F H : Hp) (ds : List D) (R : It → Hp → Prop), Rel X.K B Γ σ env F H → f env = some ds →
    (∀ J F' H', Same F F' → Same H H' → Rel X.K B Γ' σ env F' H' → ItOkG X.K F' H' J ds → R J H') → wi σ H R
theorem SIM.g {tg iter : Expr} {f : AF} (h : SIM X Γ tg iter f Γ') : SIgM X Γ tg iter f Γ' := by
  obtain ⟨wi, p, q⟩ := h
  exact ⟨wi, p, fun B σ env F H ds R r e k => q B σ env F H ds R r e fun J F' H' s1 s2 r' it => k J F' H' s1 s2 r' ⟨fun i F1 H a b _ => it.go i F1 H a b, fun i F1 H x H' a b _ => it.yld i F1 H x H' a b, fun i F1 H a b _ => it.stop i F1 H a b⟩⟩
end
end Pf

set_option Elab.async false
set_option linter.all false
set_option maxRecDepth 100000
set_option maxHeartbeats 4000000
namespace Pf
open PySem L2 L2H HotX
structure FnM (P : Program) (w : World) (K : PySem.W.Frag) (mg : Str → Option Value) (base : Heap) (k : Nat) (f : Addr) (fd : FuncData) (ps : List Str) (sp : Sp) : Prop where
  calm : FnOk P w K mg base CX0 k f fd ps sp
  hot : FnH P w K mg base CX0 k f fd ps sp
section
variable {X : Cx} {k : Nat} {f : Addr} {fd : FuncData} {ps : List Str} {sp : Sp}
end
section
variable {X : Cx} {L : Lp} {Γ Γ0 Γ1 Γ2 Γ3 Γ4 Γ' : Ctx} {K : PySem.W.Frag} {F F' H H' : Hp} {B : Bs}
end
end Pf

set_option Elab.async false
set_option linter.all false
set_option maxRecDepth 100000
set_option maxHeartbeats 4000000
namespace Pf
open PySem L2 L2H HotX
section
variable {prog : Program} {w : World} {A : Around} {E : Value → Shared → Prop} {s : Shared} {r : Addr} {a b c : Int} {t u v : Tok} {n : Nat}
end
end Pf

set_option Elab.async false
set_option linter.all false
set_option maxRecDepth 100000
set_option maxHeartbeats 4000000
namespace Pf
open PySem PySem.Spec PyProof.Rows L2 L2H HotX
section
variable {prog : Program} {w : World} {A : Around} {E : Value → Shared → Prop} {s : Shared} {r L it : Addr} {n : Nat} {c0 : Nat} {fp wr : List Addr} {G : Array GenState → Array GenState → Prop} {P : Nat → Value → Prop} {St : Nat → Shared → Prop}
end
section
variable {X : Cx} {Γ Γ1 Γ2 : Ctx} {e : Expr} {te : L2.St → Hp → (Int → Int → Hp → Prop) → Prop}
end
end Pf

set_option Elab.async false
set_option linter.all false
set_option maxRecDepth 100000
set_option maxHeartbeats 4000000
namespace Pf
open PySem L2 L2H HotX
section
variable {X : Cx} {L : Lp} {Γ Γ0 Γ1 Γ2 Γ3 Γ4 Γ' : Ctx} {K : PySem.W.Frag} {F F' H H' : Hp} {B : Bs}
end
section
variable {X : Cx} {k : Nat} {f C : Addr} {fd : FuncData} {ps : List Str} {sp : Sp}
end
end Pf

set_option Elab.async false
set_option linter.all false
set_option maxRecDepth 100000
set_option maxHeartbeats 4000000
namespace Pf
open PySem L2 L2H HotX
section
variable {P : Program} {w : World} {K : PySem.W.Frag} {mg : Str → Option Value} {base : Heap} {f C C' : Addr} {fd : FuncData} {ps : List Str} {k m n : Nat} {sp : Sp}
end
end Pf

set_option Elab.async false
set_option linter.all false
set_option maxRecDepth 100000
set_option maxHeartbeats 4000000
namespace Pf
open PySem L2 L2H HotX
section
variable {X : Cx} {Γ : Ctx}
end
end Pf

set_option Elab.async false
set_option linter.all false
set_option maxRecDepth 100000
set_option maxHeartbeats 4000000
namespace Pf
open PySem PySem.Spec PyProof.Rows L2 L2H HotX
section
variable {prog : Program} {w : World} {A : Around} {s : Shared}
end
section
variable {X : Cx} {Γ Γ1 : Ctx}
end
end Pf

set_option Elab.async false
set_option linter.all false
set_option maxRecDepth 100000
set_option maxHeartbeats 4000000
namespace Pf
open PySem PySem.Spec PyProof.Rows L2 L2H HotX
section
variable {prog : Program} {w : World} {A : Around} {s : Shared}
end
section
variable {X : Cx} {Γ Γ1 : Ctx}
end
end Pf

set_option Elab.async false
set_option linter.all false
set_option maxRecDepth 100000
set_option maxHeartbeats 4000000
namespace Pf
open PySem PySem.W PySem.Calls PyProof.Rows L2 L2H HotX
section
variable {X : Cx} {L : Lp} {Γ Γ1 Γ2 Γx Γ' : Ctx} {K : PySem.W.Frag} {F F' H H' : Hp} {B : Bs}
end
end Pf

set_option Elab.async false
set_option linter.all false
set_option maxRecDepth 100000
set_option maxHeartbeats 4000000
namespace Pf
open PySem L2
section
variable {X : Cx} {L : Lp} {Γ Γ1 Γ' : Ctx} {K : PySem.W.Frag}
end
end Pf

set_option Elab.async false
set_option linter.all false
set_option maxRecDepth 100000
set_option maxHeartbeats 4000000
namespace Pf
open PySem L2
section
variable {X : Cx} {L : Lp} {Γ Γ1 Γ2 Γx Γ' : Ctx} {K : PySem.W.Frag} {F F' H H' : Hp} {B : Bs}
end
end Pf

set_option Elab.async false
set_option linter.all false
set_option maxRecDepth 100000
set_option maxHeartbeats 4000000
namespace Pf
open PySem L2
section
variable {X : Cx} {L : Lp} {Γ Γ1 Γ2 Γx Γ' : Ctx} {K : PySem.W.Frag} {F F' H H' : Hp} {B : Bs}
end
end Pf

set_option Elab.async false
set_option linter.all false
set_option maxRecDepth 100000
set_option maxHeartbeats 4000000
namespace Pf
open PySem L2
section
variable {X : Cx} {L : Lp} {Γ Γ1 Γ2 Γx Γx1 Γ' : Ctx} {K : PySem.W.Frag} {F F' H H' : Hp} {B : Bs}
def SBds (X : Cx) (L : Lp) (Γ Γx : Ctx) (sts : List Stmt) (f : SF) (Γ' : Ctx) : Prop :=
  ∃ t : TS, PSs X sts t ∧ ∀ (B : Bs) (σ : St) (env : List D) (F H : Hp) (o : Out) (E : Ends), Rel X.K B Γ σ env F H → f env = some o → PostS X.K B ⟨L.ρ, L.bk, L.ct, L.pin, fun _ _ _ _ => True⟩ Γ' F σ env E o →
    (∀ x, o = .rt (mkX x) → ∀ c dd σ' F' H', Same F F' → Rel X.K B Γx σ' env F' H' → Kp L σ env σ' env → ExIs X.K F' c dd x → L.wx c dd σ' H') → t E σ H
theorem SBds.sub {sts : List Stmt} {f : SF} (h : SBds X L Γ Γx sts f Γ1) (l : LeC Γ' Γ1 = true) : SBds X L Γ Γx sts f Γ' := by
  obtain ⟨t, p, q⟩ := h
  exact ⟨t, p, fun B σ env F H o E r e k kx => q B σ env F H o E r e (k.down l) kx⟩
end
end Pf

set_option Elab.async false
set_option linter.all false
set_option maxRecDepth 100000
set_option maxHeartbeats 4000000
namespace Pf
open PySem L2
end Pf

set_option Elab.async false
set_option linter.all false
set_option maxRecDepth 100000
set_option maxHeartbeats 4000000
namespace Pf
open PySem L2
section
variable {X : Cx} {L : Lp} {Γ Γ1 Γ2 Γ' : Ctx} {K : PySem.W.Frag} {F F' H H' : Hp} {B : Bs}
abbrev PW (l : List (Int × Int)) : Prop := l.Pairwise fun x y => SrtO.lexB y x = false
end
end Pf

set_option Elab.async false
set_option linter.all false
set_option maxRecDepth 100000
set_option maxHeartbeats 4000000
namespace Pf
open PySem L2
section
variable {X : Cx} {L : Lp} {Γ Γ1 Γ2 Γ' : Ctx} {K : PySem.W.Frag} {F F' H H' : Hp} {B : Bs}
end
end Pf

set_option Elab.async false
set_option linter.all false
set_option maxRecDepth 100000
set_option maxHeartbeats 4000000
namespace Pf
open PySem L2
section
variable {X : Cx} {L : Lp} {Γ Γ1 Γ2 Γ' : Ctx} {K : PySem.W.Frag} {F F' H H' : Hp} {B : Bs}
end
section
variable {X : Cx} {L : Lp} {Γ Γ1 Γ2 Γ' : Ctx}
end
end Pf

set_option linter.all false
set_option Elab.async false
set_option maxRecDepth 100000
set_option maxHeartbeats 4000000
namespace Pf
open PySem L2
section
variable {prog : Program} {w : World} {A : Around} {E : Value → Shared → Prop} {s : Shared}
end
section
variable {X : Cx} {K : PySem.W.Frag} {Γ Γ1 Γ2 : Ctx}
end
end Pf

set_option Elab.async false
set_option linter.all false
set_option maxRecDepth 100000
set_option maxHeartbeats 4000000
namespace Pf
open PySem L2
section
variable {X : Cx} {Γ : Ctx}
end
end Pf

set_option Elab.async false
set_option linter.all false
set_option maxRecDepth 100000
set_option maxHeartbeats 4000000
namespace Pf
open PySem PySem.Spec PyProof.Rows L2
section
variable {X : Cx} {Γ Γ1 Γ2 : Ctx} {i : Nat} {a : Addr} {cls : Value} {dd : Option Addr}
end
end Pf

set_option Elab.async false
set_option linter.all false
set_option maxRecDepth 100000
set_option maxHeartbeats 4000000
namespace Pf
open PySem PySem.Spec PyProof.Rows L2
structure LamIx (sc scope : Scope) (d x : Str) : Prop where
  kind : scope.kind = .function
  co : scope.isCoroutine = false
  gen : scope.isGenerator = false
  cell : ∀ y ∈ scope.names, y.2 ≠ .cell
  free : ∀ y ∈ scope.names, y.2 = .free → sc.names.lookup y.1 = some .cell ∨ sc.names.lookup y.1 = some .free
  dF : scope.names.lookup d = some .free
  xL : scope.names.lookup x = some .local
section
variable {X : Cx} {pins : List (Addr × Obj)} {σ : L2.St} {H : Hp} {s : Shared}
end
end Pf

set_option Elab.async false
set_option linter.all false
set_option maxRecDepth 100000
set_option maxHeartbeats 4000000
namespace Pf
open PySem PySem.Spec PyProof.Rows L2
section
variable {X : Cx} {pins : List (Addr × Obj)} {σ : L2.St} {H : Hp} {s : Shared}
end
end Pf

set_option Elab.async false
set_option linter.all false
set_option maxRecDepth 100000
set_option maxHeartbeats 4000000
namespace Pf
open PySem PySem.Spec PyProof.Rows L2
structure Grew (s s' : Shared) : Prop where
  heap : ∀ b o, s.heap.get? b = some o → s'.heap.get? b = some o
  gens : s'.gens = s.gens
  drawn : s'.drawn = s.drawn
  os : s'.os = s.os
theorem Grew.eq {s s' : Shared} (g : Grew s s') : s' = { s with heap := s'.heap, toks := s'.toks } := by
  obtain ⟨_, h1, h2, h3⟩ := g
  cases s'
  cases s
  simp only at h1 h2 h3
  subst h1 h2 h3
  rfl
section
variable {X : Cx} {pins : List (Addr × Obj)} {σ : L2.St} {H : Hp} {s : Shared}
end
end Pf

set_option Elab.async false
set_option linter.all false
set_option maxRecDepth 100000
set_option maxHeartbeats 4000000
namespace Pf
open PySem PySem.Spec PyProof.Rows L2
section
variable {X : Cx} {Γ Γ1 : Ctx}
end
end Pf

set_option Elab.async false
set_option linter.all false
set_option maxRecDepth 100000
set_option maxHeartbeats 4000000
namespace Pf
open PySem PySem.Spec PyProof.Rows L2
structure FunL (K : PySem.W.Frag) (x qual : Str) (st : Stmt) (f : Addr) (fd : FuncData) (c : Addr) : Prop where
  ex : ∃ (oc : Value) (od : Option Addr) (kV doc pm : Value) (an : Option Addr) (ct : Value) (osl : Array (Option Value)),
    fd = PySem.W.fnOf x qual (defArgs st) (defBody st) (defScope st) .none kV doc pm an (.ref c) ct ∧ K.lookup f = some ⟨oc, od, .func fd, osl⟩ ∧ PySem.W.codeIn K (.ref c) qual = true
  kp : PySem.W.keepIn K (.ref f) = true
theorem FunL.fun {K : PySem.W.Frag} {x qual : Str} {st : Stmt} {f : Addr} {fd : FuncData} {c : Addr} (F : FunL K x qual st f fd c) : Fun K x qual st f fd :=
  let ⟨oc, od, kV, doc, pm, an, ct, osl, h1, h2, h3⟩ := F.ex
  ⟨⟨oc, od, kV, doc, pm, an, .ref c, ct, osl, h1, h2, h3⟩, F.kp⟩
end Pf

set_option Elab.async false
set_option linter.all false
set_option maxRecDepth 100000
set_option maxHeartbeats 4000000
namespace Pf
open PySem L2
section
variable {X : Cx} {Γ Γ1 : Ctx} {K : PySem.W.Frag}
end
end Pf

set_option Elab.async false
set_option linter.all false
set_option maxRecDepth 100000
set_option maxHeartbeats 4000000
namespace Pf
open PySem PySem.Spec PyProof.Rows L2
section
variable {X : Cx} {pins : List (Addr × Obj)} {σ : L2.St} {H : Hp} {s : Shared}
end
end Pf

set_option Elab.async false
set_option linter.all false
set_option maxRecDepth 100000
set_option maxHeartbeats 4000000
namespace Pf
open PySem PySem.Spec PyProof.Rows L2
section
variable {X : Cx} {Γ Γ1 : Ctx}
end
end Pf

set_option Elab.async false
set_option linter.all false
set_option maxRecDepth 100000
set_option maxHeartbeats 4000000
namespace Pf
open PySem L2
section
variable {X : Cx} {Γ Γ1 Γ2 : Ctx} {K : PySem.W.Frag} {F : Hp}
end
end Pf

set_option Elab.async false
set_option linter.all false
set_option maxRecDepth 100000
set_option maxHeartbeats 4000000
namespace Pf
open PySem L2
section
variable {X : Cx} {Γ Γ1 : Ctx} {K : PySem.W.Frag} {F : Hp}
end
end Pf

set_option Elab.async false
set_option linter.all false
set_option maxRecDepth 100000
set_option maxHeartbeats 4000000
namespace Pf
open PySem L2
section
variable {X : Cx} {Γ Γ1 : Ctx} {K : PySem.W.Frag}
theorem got_non {F H : Hp} (n : Nat) (e : Sub F H) : Got K F H F H (n + 1) .none .non := ⟨fun _ => 0, ⟨.non, fun _ => rfl⟩, ⟨e, Same.refl _, Same.refl _, fun _ _ q => .inl q, fun _ => Nat.zero_le _, fun _ q => absurd q (Nat.lt_irrefl _)⟩⟩
theorem se_nonN (n : Nat) {j pos} : SE X Γ (.Constant .none j pos) (eC .none) (n + 1) Γ := by
  refine ⟨_, pe_non, fun B σ env F H d Q rr e k => ?_⟩
  cases e
  obtain ⟨s3, t3, r3⟩ := rr.got (got_non n rr.fh)
  exact k _ _ _ s3 t3 r3
section
variable {prog : Program} {w : World} {A : Around} {E : Value → Shared → Prop} {s : Shared}
end
variable {F H : Hp}
end
end Pf

set_option Elab.async false
set_option linter.all false
set_option maxRecDepth 100000
set_option maxHeartbeats 4000000
namespace Pf
open PySem L2
section
variable {X : Cx} {L : Lp} {Γ Γ' : Ctx} {K : PySem.W.Frag} {F H : Hp}
theorem RpAll.at0 : ∀ {vs : List V} {ds : List D} (k : Nat), RpAll K F vs ds → (h : k < vs.length) → Rp K F vs[k] (ds.getD k .none)
  | v :: vs, d :: ds, 0, .cons a b, h => a
  | v :: vs, d :: ds, k + 1, .cons a b, h => RpAll.at0 k b (Nat.lt_of_succ_lt_succ h)
theorem OwnAll.rp0 {K : PySem.W.Frag} {F H F' : Hp} : ∀ {ds : List D} {vs : List V} {f : Fp}, OwnAll (Own K F H 0) ds vs f → ds.all flatD = true → RpAll K F' vs ds
  | [], [], _, _, _ => .nil
  | d :: ds, v :: vs, f, ⟨f1, f2, a, b, e⟩, h => .cons ((show Rp K F v d from a.1).flatUp (Bool.and_eq_true_iff.mp h).1) (OwnAll.rp0 b (Bool.and_eq_true_iff.mp h).2)
  | [], _ :: _, _, h, _ => h.elim
  | _ :: _, [], _, h, _ => h.elim
end
end Pf

set_option Elab.async false
set_option linter.all false
set_option maxRecDepth 100000
set_option maxHeartbeats 4000000
namespace Pf
open PySem L2
section
variable {prog : Program} {w : World} {A : Around} {E : Value → Shared → Prop} {s : Shared} {zz TI TO j1 j2 : Addr} {fq1 fq2 : List Addr} {n1 n2 i : Nat} {P1 P2 : Nat → Value → Prop} {St1 St2 : Nat → Heap → Prop} {u1 u2 q : Value} {f : Bool}
end
section
variable {P : Program} {w : World} {K : PySem.W.Frag}
end
section
variable {X : Cx} {Γ Γ1 Γ2 Γ3 Γ' : Ctx} {F F' H H' : Hp}
end
end Pf

set_option Elab.async false
set_option linter.all false
set_option maxRecDepth 100000
set_option maxHeartbeats 4000000
namespace Pf
open PySem L2 PySem.Spec PyProof.Rows
section
variable {X : Cx} {L : Lp} {Γ Γ0 Γ1 Γ2 Γ3 Γ' : Ctx} {K : PySem.W.Frag} {F F' H H' : Hp} {B : Bs}
end
end Pf

set_option Elab.async false
set_option linter.all false
set_option maxRecDepth 100000
set_option maxHeartbeats 4000000
namespace Pf
open PySem L2
section
variable {X : Cx} {L : Lp} {Γ Γ0 Γ1 Γ2 Γ3 Γ4 Γ' : Ctx} {K : PySem.W.Frag} {F F' H H' : Hp} {B : Bs}
end
end Pf

set_option Elab.async false
set_option linter.all false
set_option maxRecDepth 100000
set_option maxHeartbeats 4000000
namespace Pf
open PySem L2
section
variable {X : Cx} {L : Lp} {Γ Γ0 Γ1 Γ2 Γ3 Γ4 Γ' : Ctx} {K : PySem.W.Frag} {F F' H H' : Hp} {B : Bs}
end
end Pf

set_option Elab.async false
set_option linter.all false
set_option maxRecDepth 100000
set_option maxHeartbeats 4000000
namespace Pf
open PySem L2 PySem.Spec PyProof.Rows
section
variable {X : Cx} {L : Lp} {Γ Γ0 Γ1 Γ2 Γ3 Γ4 Γ' : Ctx} {K : PySem.W.Frag} {F F' H H' : Hp} {B : Bs}
end
end Pf

set_option Elab.async false
set_option linter.all false
set_option maxRecDepth 100000
set_option maxHeartbeats 4000000
namespace Pf
open PySem PySem.W PySem.Calls PyProof.Rows L2
def seA (a0 a1 a2 a3 : Pos) : Arguments := { posonlyargs := [], args := [{ arg := "self", annotation := none, pos := a0 }, { arg := "line", annotation := none, pos := a1 }, { arg := "column", annotation := none, pos := a2 }, { arg := "what", annotation := none, pos := a3 }], vararg := none, kwonlyargs := [], kw_defaults := [], kwarg := none, defaults := [] }
def seB (b0 b1 b2 b3 b4 b5 b6 b7 b8 b9 b10 b11 b12 b13 b14 c0 c1 c2 c3 c4 c5 c6 c7 c8 c9 c10 c11 : Pos) : List Stmt :=
  [.Expr (.Call (.Attribute (.Call (.Name "super" b0) [] [] b1) "__init__" b2) [.JoinedStr [.Constant (.str "line ") 0 b3, .FormattedValue (.Name "line" b4) (-1) none b5, .Constant (.str ", column ") 0 b6, .FormattedValue (.Name "column" b7) (-1) none b8, .Constant (.str ": ") 0 b9, .FormattedValue (.Name "what" b10) (-1) none b11] b12] [] b13) b14,
   .Assign [.Attribute (.Name "self" c0) "line" c1] (.Name "line" c2) c3,
   .Assign [.Attribute (.Name "self" c4) "column" c5] (.Name "column" c6) c7,
   .Assign [.Attribute (.Name "self" c8) "what" c9] (.Name "what" c10) c11]
def seS : Scope := { kind := .function, names := [(PySem.Str.ofString "self", .local), (PySem.Str.ofString "line", .local), (PySem.Str.ofString "column", .local), (PySem.Str.ofString "what", .local), (PySem.Str.ofString "__class__", .free), (PySem.Str.ofString "super", .globalImplicit)], isGenerator := false, isCoroutine := false, more := [] }
structure SeTxt (P : Program) (K : Frag) (C fI : Addr) (fd : FuncData) : Prop where
  oex : OexC K C
  ini : excInitIn K C [.type "ValueError", .type "Exception", .type "BaseException", .type "object"] "ValueError.__new__" = true
  n1 : findIn K (.ref C) "line" = some none
  n2 : findIn K (.ref C) "column" = some none
  n3 : findIn K (.ref C) "what" = some none
  sup : ks_superIn K C C "__init__" = some (some (.builtin "ValueError.__init__"))
  sVE : subIn K (.ref C) (.type "ValueError") = some true
  tpa : nsIn K cStatics "thirdparty.any" = some none
  mro : mroIn K C (.ref C) = some true
  noS : nsIn K mainGlobals "super" = some none
  top : (P.main.scope.names.lookup ("super" : Str)).isSome = false
  fn : ∃ (oc : Value) (od : Option Addr) (doc pm : Value) (an : Option Addr) (ct : Value) (osl : Array (Option Value)) (cc cda : Addr) (q : Str) (a0 a1 a2 a3 b0 b1 b2 b3 b4 b5 b6 b7 b8 b9 b10 b11 b12 b13 b14 c0 c1 c2 c3 c4 c5 c6 c7 c8 c9 c10 c11 : Pos),
    fd = ksFn "__init__" q (seA a0 a1 a2 a3) (seB b0 b1 b2 b3 b4 b5 b6 b7 b8 b9 b10 b11 b12 b13 b14 c0 c1 c2 c3 c4 c5 c6 c7 c8 c9 c10 c11) seS .none .none doc pm an (.ref cda) ct cc ∧ K.lookup fI = some ⟨oc, od, .func fd, osl⟩ ∧ codeIn K (.ref cda) q = true ∧ (b2.endLine == b13.line) = true ∧
      (∃ (ccl : Value) (cdd : Option Addr) (vs : Array Value) (ccs : Array (Option Value)) (file : Str) (tf : Tok), K.lookup cda = some ⟨ccl, cdd, .fields vs, ccs⟩ ∧ vs[2]? = some (.str file tf) ∧ ((P.main.file : Str) == file) = true) ∧
      ∃ (cl : Value) (cld : Option Addr) (csl : Array (Option Value)), K.lookup cc = some ⟨cl, cld, .cell (some (.ref C)), csl⟩
theorem str_app_len (a b : Str) : (a ++ b).length = a.length + b.length := by
  show (a.cps ++ b.cps).size = _
  rw [Array.size_append]
  rfl
theorem ns_stay {h h' : Heap} {a : Addr} {m : Str → Option Value} (n : h.Ns a m) (k : ∀ o, h.get? a = some o → h'.get? a = some o) : h'.Ns a m := by
  obtain ⟨o, es, ep, e, d, r⟩ := n
  exact ⟨o, es, ep, k _ e, d, r⟩
theorem ns1_get {h : Heap} {a : Addr} {m : Str → Option Value} (n : h.Ns1 a m) : ∃ o, h.get? a = some o := by
  obtain ⟨o, es, ep, e, _⟩ := n
  exact ⟨o, e⟩
theorem hid_kp {h h4 h5 : Heap} {x : Addr} (k0 : ∀ b o, (hideAll h [x]).get? b = some o → h4.get? b = some o) (k : ∀ b o, b ≠ x → h4.get? b = some o → h5.get? b = some o) : ∀ b o, (hideAll h [x]).get? b = some o → h5.get? b = some o := fun b o e => k b o (fun z => by
    rw [z, hideAll_none _ (by simp)] at e
    cases e) (k0 b o e)
theorem hid_kp2 {h h4 h5 : Heap} {x d : Addr} (hd : (hideAll h [x]).get? d = none) (k0 : ∀ b o, (hideAll h [x]).get? b = some o → h4.get? b = some o) (k : ∀ b o, b ≠ d → h4.get? b = some o → h5.get? b = some o) : ∀ b o, (hideAll h [x]).get? b = some o → h5.get? b = some o := fun b o e => k b o (fun z => by
    rw [z, hd] at e
    cases e) (k0 b o e)
theorem hid_no {h : Heap} {x d : Addr} (n : (hideAll h [x]).objs.size ≤ d) : (hideAll h [x]).get? d = none := by
  cases e : (hideAll h [x]).get? d with
  | none => rfl
  | some o =>
    exact absurd n (Nat.not_le.mpr (Heap.lt_size e))
theorem wi_1 {f : Str} {v : Value} : Within (fun z => if z = f then some v else none) [f] := fun z hz => by
  by_cases e : z = f
  · rw [e]; exact List.mem_cons_self
  · exact absurd (if_neg e) hz
theorem wi_2 {f g : Str} {v u : Value} : Within (fun z => if z = f then some v else if z = g then some u else none) [f, g] := fun z hz => by
  by_cases e : z = f
  · rw [e]; exact List.mem_cons_self
  · by_cases e2 : z = g
    · rw [e2]; exact List.mem_cons_of_mem _ List.mem_cons_self
    · exact absurd ((if_neg e).trans (if_neg e2)) hz
section
variable {P : Program} {w : World} {A : Around} {R : Result → Shared → Prop} {s : Shared} {K : Frag} {mg mb : Str → Option Value} {C fI x t0 : Addr} {l c : Int} {tl tc : Tok} {y : Str} {tk : Tok}
theorem se_init {fd : FuncData} {args : Args} (T : SeTxt P K C fI fd) (hb : BindsTo s fd args [("self", .ref x), ("line", .int l tl), ("column", .int c tc), ("what", .str y tk)]) (hK : K.In s.heap) (hlim : s.heap.NoLimit) (ng : s.heap.Ns mainGlobals mg) (nb : s.heap.Ns builtinsNs mb) (hmg : mg "super" = none) (hmb : mb "super" = some (.type "super")) (hroom : A.depth < recursionLimit)
    (hx : s.heap.get? x = some (excObj C t0 none .none)) (hnx : K.lookup x = none) (hl : l.natAbs.log2 < 1920) (hc : c.natAbs.log2 < 1920) (hl2 : (PySem.Str.ofString (toString l)).length ≤ 1000) (hc2 : (PySem.Str.ofString (toString c)).length ≤ 1000) (hy0 : y.length ≤ 1000)
    (hq : ∀ h' tk' dx t1 v1 v2 v3, RelV (.int l) v1 → RelV (.int c) v2 → RelV (.str y) v3 → (∀ b o, b ≠ x → s.heap.get? b = some o → h'.get? b = some o) → h'.get? x = some (excObj C t1 (some dx) .none) → s.heap.objs.size ≤ dx → dx ≠ x →
      h'.Ns1 dx (fun z => if z = "what" then some v3 else if z = "column" then some v2 else if z = "line" then some v1 else none) →
      R (.ok (.ret .none)) { s with heap := h', toks := tk' }) :
    codeAny (model P w) A (.call (.ref fI) args) R s := by
  obtain ⟨oc, od, doc, pm, an, ct, osl, cc, cda, q, a0, a1, a2, a3, b0, b1, b2, b3, b4, b5, b6, b7, b8, b9, b10, b11, b12, b13, b14, c0, c1, c2, c3, c4, c5, c6, c7, c8, c9, c10, c11, rfl, ho, hcd, hline, ⟨ccl, cdd, vs, ccs, file, tf, hcode, hvs, hfile⟩, cl, cld, csl, hcell⟩ := T.fn
  obtain ⟨nm, qn, N, bs, bm, sn, sub, ab, col, dd, k0, k1, k2, k3, k5, hC, hbm⟩ := T.oex.cls
  have hcl : clsIn K C = some { name := nm, bases := bs, mro := .ref C :: bm, ns := N, qualname := qn, hasDict := true, slotNames := sn, subclasses := sub, abstract := ab, collection := col, hasDel := false } := by unfold clsIn; rw [hC] <;> rfl
  have X0 : K.In (hideAll s.heap [x]) := fun b o e => hideAll_get _ (hK b o e) (by
    intro hm
    rw [List.mem_singleton] at hm
    rw [hm, hnx] at e
    cases e)
  have gS : ∀ {b : Addr} {m : Str → Option Value}, s.heap.Ns b m → b ≠ x → (hideAll s.heap [x]).Ns b m := fun {b m} ⟨o, es, ep, e, d, r⟩ hb => ⟨o, es, ep, hideAll_get _ e (by simpa using hb), d, r⟩
  have nx : ∀ {b : Addr} {m : Str → Option Value}, s.heap.Ns b m → b ≠ x := fun {b m} ⟨o, es, ep, e, d, r⟩ hb => by
    rw [hb, hx] at e
    cases e
    cases d
  have ng0 := gS ng (nx ng)
  have nb0 := gS nb (nx nb)
  refine ks_codeAny_call_defAt (fd := ksFn "__init__" q (seA a0 a1 a2 a3) (seB b0 b1 b2 b3 b4 b5 b6 b7 b8 b9 b10 b11 b12 b13 b14 c0 c1 c2 c3 c4 c5 c6 c7 c8 c9 c10 c11) seS .none .none doc pm an (.ref cda) ct cc) (binds := [("self", .ref x), ("line", .int l tl), ("column", .int c tc), ("what", .str y tk)])
    hroom (hK _ _ ho) rfl hlim (codeRec_of hK hcd) rfl hb (by show ∀ x ∈ seS.names, x.2 ≠ .cell; decide) (fun b hb => ?_) (fun h₁ hns hk₁ => ?_)
  · simp only [List.mem_cons, List.not_mem_nil, or_false] at hb
    rcases hb with rfl | rfl | rfl | rfl <;> rfl
  have F1 : Fr (hideAll s.heap [x]) s.heap.objs.size h₁ _ := ⟨hns, fun b o e => hk₁ b o (of_hideAll _ e), Nat.le_of_eq (hideAll_size _ _)⟩
  have N1 : News (hideAll s.heap [x]) s.heap.objs.size h₁ [(x, excObj C t0 none .none)] := by
    intro p hp
    rw [List.mem_singleton] at hp
    subst hp
    exact ⟨hk₁ _ _ hx, Nat.ne_of_lt (Heap.lt_size hx), hideAll_none _ (by simp)⟩
  obtain ⟨oD, hD1, hD2⟩ : ∃ oD, h₁.get? C = some oD ∧ ∃ cd, oD.data = .cls cd := ⟨_, hk₁ _ _ (hK _ _ hC), _, rfl⟩
  obtain ⟨cdD, hD2⟩ := hD2
  have X1 := X0.keeps F1.keep
  have hv0 : ∀ {m : Str → Option Value}, m = (fun x_1 => List.lookup x_1 (([("self", Value.ref x), ("line", Value.int l tl), ("column", Value.int c tc), ("what", Value.str y tk)] : List (Str × Value)).reverse)) → m "self" = some (.ref x) ∧ m "line" = some (.int l tl) ∧ m "column" = some (.int c tc) ∧ m "what" = some (.str y tk) := by
    rintro m rfl
    exact ⟨rfl, rfl, rfl, rfl⟩
  have hsup : ks_superIn K C C "__init__" = some (some (.builtin "ValueError.__init__")) := T.sup
  refine ks_wpAt_execs_cons (ks_wpAt_Expr_any (ks_wpAt_MethodCall (ks_wpAt_super_base (f := fI) (cc := cda) (by rfl) (by rfl) (by decide) rfl (hk₁ _ _ (hK _ _ ho)) rfl rfl rfl (hk₁ _ _ (hK _ _ hcode)) rfl hvs hfile T.top ?_) (call_line hline)))
  refine ks_loadName_global (by rfl) (by rfl) (loadGlobal_builtin (ng0.keeps F1.keep) hmg (nb0.keeps F1.keep) hmb ⟨rfl, ?_⟩)
  refine wpAny_loadName_free (by rfl) (by rfl) rfl ⟨_, hk₁ _ _ (hK _ _ hcell), rfl⟩ ?_
  refine wpAny_loadName_local (by rfl) (by rfl) F1.ns (hv0 rfl).1 ?_
  refine ks_wpAny_isType_cls hD1 hD2 ⟨rfl, ?_⟩
  refine ks_wpAny_call_super hD1 hD2 (hk₁ _ _ hx) rfl (fun c e => by cases e) (looks_mroIn X1 T.mro) (fun h₂ e₂ k₂ => ?_)
  obtain ⟨F2, N2, lt2⟩ := ks_newsPush (s := { s with heap := h₁ }) F1 N1 rfl e₂ k₂
  refine kxs_method kxs_ValueError F2 X0 N2 List.mem_cons_self (InstAt.of_exc0 N2 (List.mem_cons_of_mem _ List.mem_cons_self)) T.tpa T.sup T.sVE (by decide) (fun u h₃ F3 N3 lt3 => ?_)
  have ltx : x < u := lt3 _ (List.mem_cons_of_mem _ List.mem_cons_self)
  have lts : x < h₁.objs.size := lt2 _ List.mem_cons_self
  have fin : ∀ (z : Str) (n : Nat) (B : Around) (Q' : Value → Shared → Prop) (E' : Value → Shared → Prop) (n2 : Nat), (∀ h₄ t1, Fr (hideAll s.heap [x]) s.heap.objs.size h₄ _ → h₄.get? x = some (excObj C t1 none .none) → Q' .none { s with heap := h₄, toks := n2 }) →
      wpAny (model P w) B (call (.ref u) [.str z n]) Q' E' { s with heap := h₃, toks := n2 } := fun z n B Q' E' n2 k => by
    refine kxs_call (s := { s with heap := h₃, toks := n2 }) F3 X0 N3 PySem.F.excBase_ValueError T.ini List.mem_cons_self (UpdF.tail (fun z => ?_) (UpdF.tail (fun z => ?_) (UpdF.head (fun p hp => nomatch hp)))) (by rw [sizeLine_eq]; exact (by decide : 1 ≤ 16777216)) (fun t' h' F4 N4 lt4 => ?_)
    · have z' : u = x := z
      rw [z'] at ltx
      exact Nat.lt_irrefl _ ltx
    · have z' : h₁.objs.size = x := z
      rw [z'] at lts
      exact Nat.lt_irrefl _ lts
    · exact k h' t' F4 (N4 (x, excObj C t' none .none) (by simp)).1
  have lz : ∀ a b : Str, (a ++ b).length = a.length + b.length := str_app_len
  have sl : (4000 : Nat) ≤ sizeLine := by rw [sizeLine_eq]; decide
  have q1 : (PySem.Str.ofString "line ").length = 5 := rfl
  have q2 : (PySem.Str.ofString ", column ").length = 9 := rfl
  have q3 : (PySem.Str.ofString ": ").length = 2 := rfl
  have q0 : PySem.Str.empty.length = 0 := rfl
  refine kxs_callWith1 N3 List.mem_cons_self (spliced_more ?_ (by rfl)) (by rfl) (by rfl)
  refine wpAny_JoinedStr ?_
  show wpAny _ _ (eval (.Constant (.str "line ") 0 b3) _) _ _ _
  refine Calls.Constant_str ⟨_, _, rfl, ?_, ?_⟩
  · first | (simp only [lz]; omega) | (rw [sizeLine_eq]; decide)
  show wpAny _ _ (eval (.FormattedValue (.Name "line" b4) (-1) none b5) _) _ _ _
  refine wpAny_FormattedValue_plain (wpAny_Name (wpAny_loadName_local (by rfl) (by rfl) F3.ns (hv0 rfl).2.1 ?_) (by decide))
  refine wpAny_formatField_int hl ⟨_, _, rfl, ?_, ?_⟩
  · simp only [lz]; omega
  show wpAny _ _ (eval (.Constant (.str ", column ") 0 b6) _) _ _ _
  refine Calls.Constant_str ⟨_, _, rfl, ?_, ?_⟩
  · simp only [lz]; omega
  show wpAny _ _ (eval (.FormattedValue (.Name "column" b7) (-1) none b8) _) _ _ _
  refine wpAny_FormattedValue_plain (wpAny_Name (wpAny_loadName_local (by rfl) (by rfl) F3.ns (hv0 rfl).2.2.1 ?_) (by decide))
  refine wpAny_formatField_int hc ⟨_, _, rfl, ?_, ?_⟩
  · simp only [lz]; omega
  show wpAny _ _ (eval (.Constant (.str ": ") 0 b9) _) _ _ _
  refine Calls.Constant_str ⟨_, _, rfl, ?_, ?_⟩
  · simp only [lz]; omega
  show wpAny _ _ (eval (.FormattedValue (.Name "what" b10) (-1) none b11) _) _ _ _
  refine wpAny_FormattedValue_plain (wpAny_Name (wpAny_loadName_local (by rfl) (by rfl) F3.ns (hv0 rfl).2.2.2 ?_) (by decide))
  refine wpAny_formatField_str ⟨_, _, rfl, ?_, ?_, ?_⟩ ⟨_, _, rfl, ?_, ?_, ?_⟩ (by omega)
  any_goals (focus (simp only [lz]; omega; done))
  all_goals refine spliced_none ⟨kxs_at (L := s.heap.objs.size) (h₀ := hideAll s.heap [x]) (fun p hp => N3 p hp) List.mem_cons_self, ?_⟩
  all_goals refine fin _ _ _ _ _ _ fun h₄ t1 F4 hx4 => ?_
  all_goals refine _root_.PySem.wpAt_of_wpAny ?_
  all_goals refine wpAny_execs_cons (plainObj_wpAny_Assign_Attribute ?_)
  all_goals refine wpAny_Name (wpAny_loadName_local (by rfl) (by rfl) F4.ns (hv0 rfl).2.1 ?_) (by decide)
  all_goals refine wpAny_Name (wpAny_loadName_local (by rfl) (by rfl) F4.ns (hv0 rfl).1 ?_) (by decide)
  all_goals refine set_plain (X0.keeps F4.keep) (ox := excObj C t1 none .none) (od := none) ⟨hx4, rfl, rfl, trivial⟩ T.oex.sa ?_
  all_goals refine PySem.HandSPX.exc_osa (X0.keeps F4.keep) hx4 hcl (show PySem.HandSPX.refsVE (.ref C :: bm) = true from hbm) rfl T.n1 (fun h₅ tk₅ dx k₅ dn dne hx₅ hn₅ => ?_)
  all_goals have Lx : s.heap.objs.size ≠ x := Nat.ne_of_gt (Heap.lt_size hx)
  all_goals have Ld : s.heap.objs.size ≠ dx := Nat.ne_of_lt (Nat.lt_of_lt_of_le F4.ns.lt dn)
  all_goals have ns5 := ns_stay F4.ns (fun o e => k₅ _ o Lx e)
  all_goals have kp5 := hid_kp F4.keep k₅
  all_goals have dhide := hid_no (Nat.le_trans (Nat.le_trans F4.above (Nat.le_of_lt F4.ns.lt)) dn)
  all_goals refine wpAny_execs_cons (plainObj_wpAny_Assign_Attribute ?_)
  all_goals refine wpAny_Name (wpAny_loadName_local (by rfl) (by rfl) ns5 (hv0 rfl).2.2.1 ?_) (by decide)
  all_goals refine wpAny_Name (wpAny_loadName_local (by rfl) (by rfl) ns5 (hv0 rfl).1 ?_) (by decide)
  all_goals obtain ⟨od5, hod5⟩ := ns1_get hn₅
  all_goals refine set_plain (X0.keeps kp5) (ox := excObj C t1 (some dx) .none) (od := some od5) ⟨hx₅, rfl, rfl, hod5⟩ T.oex.sa ?_
  all_goals refine PySem.OEX.osa_old (nl := ["line"]) (X0.keeps kp5) hx₅ hn₅ wi_1 (by decide) hcl (show PySem.HandSPX.refsVE (.ref C :: bm) = true from hbm) rfl T.n2 (fun h₆ tk₆ k₆ hn₆ => ?_)
  all_goals have ns6 := ns_stay ns5 (fun o e => k₆ _ o Ld e)
  all_goals have kp6 := hid_kp2 dhide kp5 k₆
  all_goals have hx₆ := k₆ _ _ dne.symm hx₅
  all_goals refine wpAny_execs_cons (plainObj_wpAny_Assign_Attribute ?_)
  all_goals refine wpAny_Name (wpAny_loadName_local (by rfl) (by rfl) ns6 (hv0 rfl).2.2.2 ?_) (by decide)
  all_goals refine wpAny_Name (wpAny_loadName_local (by rfl) (by rfl) ns6 (hv0 rfl).1 ?_) (by decide)
  all_goals obtain ⟨od6, hod6⟩ := ns1_get hn₆
  all_goals refine set_plain (X0.keeps kp6) (ox := excObj C t1 (some dx) .none) (od := some od6) ⟨hx₆, rfl, rfl, hod6⟩ T.oex.sa ?_
  all_goals refine PySem.OEX.osa_old (nl := ["column", "line"]) (X0.keeps kp6) hx₆ hn₆ wi_2 (by decide) hcl (show PySem.HandSPX.refsVE (.ref C :: bm) = true from hbm) rfl T.n3 (fun h₇ tk₇ k₇ hn₇ => ?_)
  all_goals have kp7 := hid_kp2 dhide kp6 k₇
  all_goals exact wpAny_execs_nil (hq h₇ tk₇ dx t1 _ _ _ ⟨_, rfl⟩ ⟨_, rfl⟩ ⟨_, rfl⟩ (fun b o hb e => kp7 b o (hideAll_get _ e (by simpa using hb))) (k₇ _ _ dne.symm hx₆) (Nat.le_trans (Nat.le_of_lt F4.ns.lt) dn) dne hn₇)
def spSe (C : Addr) : Sp := fun vs H Q _ => ∃ (a : Addr) (l c : Int) (y : Str), vs = [.ref a, .int l, .int c, .str y] ∧ l.natAbs < 10 ^ 12 ∧ c.natAbs < 10 ^ 12 ∧ y.length ≤ 1000 ∧ H a = some (exo a C none) ∧
  ∀ dx, H dx = none → dx ≠ a → Q .non (upd (upd H dx (exd dx [(("what" : Str), .str y), (("column" : Str), .int c), (("line" : Str), .int l)])) a (exo a C (some dx)))
theorem log2_small {i : Int} (h : i.natAbs < 10 ^ 12) : i.natAbs.log2 < 1920 := by
  by_cases z : i.natAbs = 0
  · rw [z]; decide
  · exact (Nat.log2_lt z).mpr (Nat.lt_of_lt_of_le h (by decide))
theorem shown_small {i : Int} (h : i.natAbs < 10 ^ 12) : (PySem.Str.ofString (toString i)).length ≤ 1000 := by
  have := PyData.shown_int_le h
  exact Nat.le_trans this (by decide)
theorem se_ok {base : Heap} {fd : FuncData} {CX : CXT} (T : SeTxt P K C fI fd) : FnOk P w K mg base CX 1 fI fd ["self", "line", "column", "what"] (spSe C) := by
  refine ⟨fun vs H Q E h => ?_, fun A outer s H args us vs Q E hr e0 hb r hsp => ?_⟩
  · obtain ⟨a, l, c, y, rfl, _⟩ := h
    rfl
  obtain ⟨a, l, c, y, rfl, hl, hc, hy, ha, k⟩ := hsp
  obtain ⟨u1, u2, u3, u4, r1, r2, r3, r4, rfl⟩ : ∃ u1 u2 u3 u4, RelV (.ref a) u1 ∧ RelV (.int l) u2 ∧ RelV (.int c) u3 ∧ RelV (.str y) u4 ∧ us = [u1, u2, u3, u4] := by
    cases r with
    | cons h1 h2 =>
      cases h2 with
      | cons h2 h3 =>
        cases h3 with
        | cons h3 h4 =>
          cases h4 with
          | cons h4 h5 =>
            cases h5
            exact ⟨_, _, _, _, h1, h2, h3, h4, rfl⟩
  obtain rfl : u1 = Value.ref a := r1
  obtain ⟨tl, rfl⟩ := r2
  obtain ⟨tc, rfl⟩ := r3
  obtain ⟨tk, rfl⟩ := r4
  have kp : ∀ b o, base.get? b = some o → s.heap.get? b = some o := fun b o e => (e0.bs b o e).1
  obtain ⟨mb, nb, hbb⟩ := e0.mod.blt
  obtain ⟨t1, ho⟩ := exo_at e0.hok ha
  refine se_init T (by exact hb) (e0.mod.kin.keeps kp) (e0.mod.nolimit.keeps kp) (e0.mod.glob.keeps kp) (nb.keeps kp) (mg_none_of e0.mod.kin e0.mod.glob T.noS) ((hbb _ (by decide)).trans (by decide +kernel)) hr.depth ho ?_ (log2_small hl) (log2_small hc) (shown_small hl) (shown_small hc) hy (fun h' tk' dx t1 v1 v2 v3 rv1 rv2 rv3 kk hx dn dne hn => ?_)
  · cases e : K.lookup a with
    | none => rfl
    | some o =>
      have := (e0.bs a o (e0.mod.kin a o e)).2
      rw [ha] at this
      cases this
  have hnd : H dx = none := e0.hok.fresh dn
  have nd : ∀ {b : Addr} {o : Obj}, s.heap.get? b = some o → b ≠ dx := fun {b o} q => Nat.ne_of_lt (Nat.lt_of_lt_of_le (Heap.lt_size q) dn)
  have na : ∀ {b : Addr}, H b = none → b ≠ a := fun {b} n z => by
    rw [z, ha] at n
    cases n
  refine ⟨.non, upd (upd H dx (exd dx [(("what" : Str), .str y), (("column" : Str), .int c), (("line" : Str), .int l)])) a (exo a C (some dx)), rfl, e0.bare, ?_, ?_, rfl, k dx hnd dne⟩
  · exact {
      keep := fun b o q n _ _ => kk b o (na n) q
      slot := fun b o q n _ _ => ⟨o.slots, kk b o (na n) q⟩
      free := fun b o q n _ => by rw [upd_ne (na n), upd_ne (nd q)]; exact n
      there := fun b o q _ => by
        by_cases hb : b = a
        · exact ⟨_, by rw [hb]; exact hx⟩
        · exact ⟨o, kk b o hb q⟩
      tups := fun b xs q => by rw [upd_ne (at_ne ha q exo_tup), upd_ne (ne_of_none q hnd)]; exact q
      frzs := fun b o v q => by rw [upd_ne (at_ne ha q exo_frz), upd_ne (ne_of_none q hnd)]; exact q
      tbls := fun b ps q => ⟨#[], by rw [upd_ne (at_ne ha q exo_tbl), upd_ne (ne_of_none q hnd), q]; simp⟩ }
  · intro b o q
    by_cases hb : b = a
    · subst hb
      rw [upd_same] at q
      cases q
      exact exo_ok hx
    · rw [upd_ne hb] at q
      by_cases hd : b = dx
      · subst hd
        rw [upd_same] at q
        cases q
        exact exd_ok hn (relO_put (fs := [(("column" : Str), .int c), (("line" : Str), .int l)]) rv3 (relO_put (fs := [(("line" : Str), .int l)]) rv2 (relO_put (fs := []) rv1 fun g => True.intro)))
      · rw [upd_ne hd] at q
        exact (e0.hok b o q).stay (fun c v hc z => kk c v (by
            rcases hc with hc | hc
            · rw [hc]
              exact hb
            · exact at_ne ha hc exo_own) z)
          (fun c hc => by rw [upd_ne (at_ne ha hc exo_own), upd_ne (ne_of_none hc hnd)]; exact hc) (fun c xs hc => by rw [upd_ne (at_ne ha hc exo_tup), upd_ne (ne_of_none hc hnd)]; exact hc)
end
def eSe (nm : Str) (fs : AF) : EF := fun env => (fs env).bind fun ds => match ds with
  | [.int l, .int c, .str y] => if l.natAbs < 10 ^ 12 ∧ c.natAbs < 10 ^ 12 ∧ y.length ≤ 1000 then some (.tuple [.str nm, .list [.str "what", .str "column", .str "line"], .list [.str y, .int c, .int l]]) else none
  | _ => none
section
variable {X : Cx} {L : Lp} {Γ Γ1 : Ctx}
theorem smk_se {nm : Str} {C fI : Addr} {fd : FuncData} {ea eb ec : Expr} {fs : AF} {p pos : Pos} (T : SeTxt X.prog X.K C fI fd) (iC : findIn X.K (.ref C) "__init__" = some (some (.ref fI))) (tI : typeIn X.K (.ref fI) = some (.type "function")) (hns : nsIn X.K mainGlobals nm = some (some (.ref C)))
    (hr : Room 2 X.A) (hb : Binds X.K fd ["self", "line", "column", "what"] []) (hg : Gl X nm) (hm : X.mg nm = some (.ref C)) (ha : SA X Γ [ea, eb, ec] fs [0, 0, 0] Γ1) (hdb : (nm == ("__debug__" : Str)) = false)
    (he : starEach (ea :: [eb, ec]) X.env = (false, eval ea X.env) :: starEach [eb, ec] X.env := by rfl) (hpl : (backTo pos (starEach [eb, ec] X.env)).any (·.1) = false := by rfl) :
    SMk X Γ (.Call (.Name nm p) [ea, eb, ec] [] pos) (eSe nm fs) Γ1 := by
  obtain ⟨ta, pa, qa⟩ := ha
  refine ⟨_, pmk_oex (CX := CX0) (k := 1) (dvs := []) T.oex iC tI (se_ok T) hr hb .nil pass0 hg hm pa hdb he hpl, fun B σ env F H x Q rr e' kx => ?_⟩
  obtain ⟨ds, hx, e'⟩ := Option.bind_eq_some_iff.mp e'
  refine qa B σ env F H ds _ rr hx fun vs F1 H1 s1 t1 r1 b1 => ?_
  match ds, vs, b1, e' with
  | [.int l, .int c, .str y], [v1, v2, v3], b1, e' =>
    simp only at e'
    split at e'
    · rename_i hh
      obtain ⟨hl, hc, hy⟩ := hh
      cases e'
      obtain ⟨w1, w2, w3, _⟩ := b1
      have w1 : Rp X.K F1 v1 (.int l) := w1
      have w2 : Rp X.K F1 v2 (.int c) := w2
      have w3 : Rp X.K F1 v3 (.str y) := w3
      cases w1
      cases w2
      cases w3
      refine ⟨by simp, fun a hna => ⟨a, l, c, y, rfl, hl, hc, hy, upd_same, fun dx hd hne => ⟨rfl, dx, [(("what" : Str), .str y), (("column" : Str), .int c), (("line" : Str), .int l)], upd_same, ?_, ?_, ?_⟩⟩⟩
      · rw [upd_ne hne, upd_same]
      · rw [upd_ne hne] at hd
        exact hd
      · rw [upd_ne hne] at hd
        have eH : upd (del (upd (upd (upd H1 a (exo a C none)) dx (exd dx [(("what" : Str), V.str y), (("column" : Str), V.int c), (("line" : Str), V.int l)])) a (exo a C (some dx))) a) dx (.xd [(("what" : Str), V.str y), (("column" : Str), V.int c), (("line" : Str), V.int l)]) = upd H1 dx (.xd [(("what" : Str), V.str y), (("column" : Str), V.int c), (("line" : Str), V.int l)]) := by
          funext b
          by_cases c : b = dx
          · rw [c, upd_same, upd_same]
          · rw [upd_ne c, upd_ne c]
            by_cases c2 : b = a
            · rw [c2, del_same, hna]
            · rw [del_ne c2, upd_ne c2, upd_ne c, upd_ne c2]
        rw [eH]
        have fd1 : F1 dx = none := none_of r1.fh hd
        have okk : Ok ⟨H1, F1⟩ (upd F1 dx (.xd [(("what" : Str), V.str y), (("column" : Str), V.int c), (("line" : Str), V.int l)])) (upd H1 dx (.xd [(("what" : Str), V.str y), (("column" : Str), V.int c), (("line" : Str), V.int l)])) (fun _ => 0) :=
          ⟨same_upd3 r1.fh hd, same_upd hd, same_upd fd1, fun b o q => by
            by_cases c : b = dx
            · exact .inr (.inl (by rw [c]; exact hd))
            · rw [upd_ne c] at q
              exact .inl q, fun _ => Nat.zero_le _, fun _ q => absurd q (Nat.lt_irrefl _)⟩
        obtain ⟨s3, t3, r3⟩ := r1.got (n := 0) (d := .none) (v := .non) ⟨fun _ => 0, ⟨.non, fun _ => rfl⟩, okk⟩
        exact kx _ _ _ _ (s1.trans s3) r3.rel ⟨nm, C, ["what", "column", "line"], [.str y, .int c, .int l], rfl, hns, rfl, .inr ⟨dx, _, rfl, upd_same, rfl, .cons (.str y) (.cons (.int c) (.cons (.int l) .nil))⟩⟩
    · cases e'
theorem se_binds {K : Frag} {q : Str} {a0 a1 a2 a3 : Pos} {body : List Stmt} {sc : Scope} {doc pm cdv ct : Value} {an : Option Addr} {cc : Addr} : Binds K (ksFn "__init__" q (seA a0 a1 a2 a3) body sc .none .none doc pm an cdv ct cc) ["self", "line", "column", "what"] [] :=
  fun s us _ hl => match us, hl with | [_, _, _, _], _ => .of_eq (by first | rfl | with_unfolding_all rfl)
theorem SeTxt.binds {P : Program} {K : Frag} {C fI : Addr} {fd : FuncData} (T : SeTxt P K C fI fd) : Binds K fd ["self", "line", "column", "what"] [] := by
  obtain ⟨_, _, _, _, _, _, _, _, _, _, _, _, _, _, _, _, _, _, _, _, _, _, _, _, _, _, _, _, _, _, _, _, _, _, _, _, _, _, _, _, _, rfl, _⟩ := T.fn
  exact se_binds
structure SeAll (P : Program) (K : Frag) (mg : Str → Option Value) (nm : Str) where
  C : Addr
  fI : Addr
  fd : FuncData
  T : SeTxt P K C fI fd
  iC : findIn K (.ref C) "__init__" = some (some (.ref fI))
  tI : typeIn K (.ref fI) = some (.type "function")
  hns : nsIn K mainGlobals nm = some (some (.ref C))
  m : mg nm = some (.ref C)
  te : exmOne K (.ref C) (.ref C) = some true
theorem ss_raiseSe {nm : Str} {ea eb ec : Expr} {fs : AF} {p pos pos2 : Pos} {Γ' : Ctx} (T : SeAll X.prog X.K X.mg nm) (hc : X.calm = true) (tk : Takes X L.wx) (hr : Room 2 X.A) (hg : Gl X nm) (ha : SA X Γ [ea, eb, ec] fs [0, 0, 0] Γ1) (hdb : (nm == ("__debug__" : Str)) = false := by decide)
    (he : starEach (ea :: [eb, ec]) X.env = (false, eval ea X.env) :: starEach [eb, ec] X.env := by rfl) (hpl : (backTo pos (starEach [eb, ec] X.env)).any (·.1) = false := by rfl) :
    SS X L Γ (.Raise (some (.Call (.Name nm p) [ea, eb, ec] [] pos)) none pos2) (sRaise (eSe nm fs)) Γ' := ss_raise hc tk (smk_se T.T T.iC T.tI T.hns hr T.T.binds hg T.m ha hdb he hpl)
end
end Pf

set_option Elab.async false
set_option linter.all false
set_option maxRecDepth 100000
set_option maxHeartbeats 4000000
namespace Pf
open PySem PySem.Spec PyProof.Rows L2
section
variable {X : Cx} {L : Lp} {Γ Γ1 Γ2 Γx Γ' : Ctx} {K : PySem.W.Frag} {F F' H H' : Hp}
variable {i : Nat} {a : Addr} {cls : Value} {dd : Option Addr}
def lookG : List D → List D → Str → Option D
  | .str k :: ks, y :: fs, f => if k = f then some y else lookG ks fs f
  | _, _, _ => none
def xfG (nm fld : Str) : D → Option D
  | .tuple [.str n, .list ks, .list fs] => if n = nm then lookG ks fs fld else none
  | _ => none
def eXfG (i : Nat) (nm fld : Str) : EF := fun env => (env[i]?).bind (xfG nm fld)
theorem lookG_rp {fld : Str} {d : D} : ∀ {xs : List (Str × V)} {ks : List Str} {fs : List D}, xs.map (fun x => x.1) = ks → RpAll K F (xs.map fun x => x.2) fs → lookG (ks.map .str) fs fld = some d → ∃ v, List.lookup fld xs = some v ∧ Rp K F v d
  | [], ks, fs, e, h, g => by
    subst e
    cases fs <;> cases g
  | (k, v) :: xs, ks, fs, e, h, g => by
    subst e
    cases h with
    | cons h1 h2 =>
      rename_i y ys
      have g : (if k = fld then some y else lookG ((xs.map fun x => x.1).map .str) ys fld) = some d := g
      by_cases c : k = fld
      · rw [if_pos c] at g
        cases g
        exact ⟨v, by rw [c]; simp [List.lookup], h1⟩
      · rw [if_neg c] at g
        obtain ⟨v', q1, q2⟩ := lookG_rp rfl h2 g
        refine ⟨v', ?_, q2⟩
        have : (fld == k) = false := by simp [Ne.symm c]
        simp only [List.lookup, this]
        exact q1
theorem see_xfG {Y : Cx} {oe : Obj} {pn : List (Addr × Obj)} {C : Addr} {nm fld x : Str} {p pos : Pos} (T : ExcC Y.K C) (hns : PySem.W.nsIn Y.K mainGlobals nm = some (some (.ref C))) (hno : PySem.W.findIn Y.K (.ref C) fld = some none) (hz : Zc cls dd oe) (hf : ∃ vs, oe.data = .fields vs)
    (hN : Y.N[i]? = some x := by rfl) (hv : Vis Y.env.scope x := by first | exact Or.inl rfl | exact Or.inr (Or.inl rfl) | exact Or.inr (Or.inr rfl)) (hd : (x == ("__debug__" : Str)) = false := by decide) (hcd : (x == ("__classdict__" : Str)) = false := by decide)
    (hb : attributeBase (.Name x p) fld Y.env (eval (.Name x p) Y.env) = eval (.Name x p) Y.env := by rfl) :
    SEe (Y.suite a ((a, oe) :: pn)) i a cls dd Γ (.Attribute (.Name x p) fld pos) (eXfG i nm fld) 0 Γ := by
  refine ⟨_, pe_xf (X := Y) (C := C) ⟨T.hg, T.hk, T.hs, T.hd⟩ hno hz hf (pe_var (X := Y.suite a ((a, oe) :: pn)) hN hv hd hcd) hb, fun B σ env F H d Q r kx e k => ?_⟩
  obtain ⟨h1, y, h2, nm', C', ks, fs, rfl, h3, rfl, h4⟩ := kx
  rw [eXfG, h2, Option.bind_some] at e
  refine ⟨.ref a, h1, rfl, ?_⟩
  have ee : (if nm' = nm then lookG (ks.map .str) fs fld else none) = some d := e
  clear e
  by_cases hc : nm' = nm
  · rw [if_pos hc] at ee
    subst hc
    rw [hns] at h3
    cases h3
    refine ⟨rfl, ?_⟩
    rcases h4 with ⟨_, h4, h5⟩ | ⟨da, xs, h5, h6, h7, h8⟩
    · subst h4
      subst h5
      cases ee
    · obtain ⟨v, q1, q2⟩ := lookG_rp h7 h8 ee
      exact ⟨da, xs, v, h5, r.fh _ _ h6, q1, k v F H (Same.refl _) (Same.refl _) (r.t0 q2)⟩
  · rw [if_neg hc] at ee
    cases ee
def STe (X : Cx) (i : Nat) (a : Addr) (cls : Value) (dd : Option Addr) (Γ : Ctx) (e : Expr) (f : TF) (Γ' : Ctx) : Prop :=
  ∃ t : TT, PT X e t ∧ ∀ (B : Bs) (σ : L2.St) (env : List D) (F H : Hp) (b : Bool) (Q : Bool → Hp → Prop), Rel X.K B Γ σ env F H → Kx X.K i a cls dd σ env F → f env = some b → (∀ F' H', Same F F' → Same H H' → Rel X.K B Γ' σ env F' H' → Q b H') → t σ H Q
def STwe (X : Cx) (i : Nat) (a : Addr) (cls : Value) (dd : Option Addr) (Γ : Ctx) (e : Expr) (f : TF) (Γ' : Ctx) : Prop :=
  ∃ t : TT, L2.PW X e t ∧ ∀ (B : Bs) (σ : L2.St) (env : List D) (F H : Hp) (b : Bool) (Q : Bool → Hp → Prop), Rel X.K B Γ σ env F H → Kx X.K i a cls dd σ env F → f env = some b → (∀ F' H', Same F F' → Same H H' → Rel X.K B Γ' σ env F' H' → Q b H') → t σ H Q
theorem STwe.ts {e : Expr} {f : TF} (h : STwe X i a cls dd Γ e f Γ') : STe X i a cls dd Γ e f Γ' := by
  obtain ⟨t, p, q⟩ := h
  exact ⟨t, p.pt, q⟩
theorem ste_val {e : Expr} {f : EF} (h : SEe X i a cls dd Γ e f 0 Γ1) (ht : ∀ (whole : Sem Value), PySem.isTrue e X.env whole = (whole >>= fun v => standAt e.pos >>= fun _ => holding [v] (truthy v)) := by intro _; rfl) : STe X i a cls dd Γ e (tV f) Γ1 := by
  obtain ⟨t, p, q⟩ := h
  refine ⟨_, pt_val p ht, fun B σ env F H b Q r kx e k => ?_⟩
  obtain ⟨d, hd, e⟩ := Option.bind_eq_some_iff.mp e
  refine q B σ env F H d _ r kx hd fun v F1 H1 s1 t1 r1 => ?_
  exact ⟨b, r1.bw.bo e, k F1 H1 s1 t1 r1.rel⟩
theorem ste_not {a0 : Expr} {pos : Pos} {fa : TF} (ha : STe X i a cls dd Γ a0 fa Γ1) : STe X i a cls dd Γ (.UnaryOp .Not a0 pos) (tNotF fa) Γ1 := by
  obtain ⟨ta, pa, qa⟩ := ha
  refine ⟨_, pt_not pa, fun B σ env F H b Q rr kx e k => ?_⟩
  obtain ⟨c, hx, e⟩ := Option.map_eq_some_iff.mp e
  subst e
  exact qa B σ env F H c _ rr kx hx fun F1 H1 s1 t1 r1 => k F1 H1 s1 t1 r1
theorem ste_ne {e1 e2 : Expr} {pos : Pos} {fa fb : EF} {nb : Nat} (hu : X.A.units + 64 < cLine) (ha : SEe X i a cls dd Γ e1 fa 0 Γ1) (hb : SB X Γ1 e2 fb nb Γ2) (hm : behindInMarks .NotEq e2 = false := by rfl) :
    STe X i a cls dd Γ (.Compare e1 [.NotEq] [e2] pos) (tV (Pf.e2 pNe fa fb)) Γ2 := by
  obtain ⟨ta, pa, qa⟩ := ha
  obtain ⟨tb, pb, qb⟩ := hb
  refine ⟨_, pt_cmpR (op_neA hu) pa pb hm, fun B σ env F H b Q rr kx e k => ?_⟩
  obtain ⟨d, e, hbo⟩ := Option.bind_eq_some_iff.mp e
  obtain ⟨x, y, hx, hy, hg⟩ := bind2 e
  refine qa B σ env F H x _ rr kx hx fun v F1 H1 s1 t1 r1 => ?_
  refine qb B σ env F1 H1 y _ r1.rel hy fun u F2 H2 s2 t2 r2 b2 => ?_
  refine s2_ne (na := 0) (nb := nb) F2 H2 v u x y d _ r2.fh (r1.bw.mono s2 t2 0) b2 hg fun w F3 H3 got => ?_
  obtain ⟨s3, t3, r3⟩ := r2.got got
  exact ⟨b, r3.bw.bo hbo, k F3 H3 ((s1.trans s2).trans s3) ((t1.trans t2).trans t3) r3.rel⟩
theorem swe_or1 {a0 : Expr} {pos : Pos} {fa : TF} (ha : STe X i a cls dd Γ a0 fa Γ1) : STwe X i a cls dd Γ (.BoolOp .Or [a0] pos) fa Γ1 := by
  obtain ⟨ta, pa, qa⟩ := ha
  exact ⟨_, pw_or1 pa, qa⟩
theorem kx_up {σ : L2.St} {env : List D} {F F1 : Hp} (kx : Kx K i a cls dd σ env F) (s1 : Same F F1) : Kx K i a cls dd σ env F1 := ⟨kx.1, kx.2.elim fun x h => ⟨x, h.1, h.2.up s1⟩⟩
theorem swe_or {a0 b : Expr} {rest : List Expr} {pos : Pos} {fa fb : TF} (ha : STe X i a cls dd Γ a0 fa Γ1) (hb : STwe X i a cls dd Γ1 (.BoolOp .Or (b :: rest) pos) fb Γ2) (l : LeC Γ2 Γ1 = true := by rfl) : STwe X i a cls dd Γ (.BoolOp .Or (a0 :: b :: rest) pos) (tOrF fa fb) Γ2 := by
  obtain ⟨ta, pa, qa⟩ := ha
  obtain ⟨tb, pb, qb⟩ := hb
  refine ⟨_, pw_or pa pb, fun B σ env F H b Q rr kx e k => ?_⟩
  obtain ⟨c, hx, e⟩ := Option.bind_eq_some_iff.mp e
  refine qa B σ env F H c _ rr kx hx fun F1 H1 s1 t1 r1 => ?_
  cases c with
  | false => exact qb B σ env F1 H1 b Q r1 (kx_up kx s1) (by simpa using e) fun F2 H2 s2 t2 r2 => k F2 H2 (s1.trans s2) (t1.trans t2) r2
  | true =>
    simp at e
    subst e
    obtain ⟨F2, u, r2⟩ := r1.down l
    exact k F2 H1 (s1.trans u) t1 r2
theorem see_isXB {Y : Cx} {oe : Obj} {pn : List (Addr × Obj)} {C : Addr} {nm x y : Str} {T2 : String} {b : Bool} {p px py pos : Pos} (T : ExcC Y.K C) (hns : PySem.W.nsIn Y.K mainGlobals nm = some (some (.ref C))) (hz : Zc cls dd oe) (hf : ∃ vs, oe.data = .fields vs)
    (hk : PySem.W.kitOne Y.K (.ref C) (.type T2) = some b) (hg : Gl Y "isinstance") (hm : Y.mg "isinstance" = none) (hgy : Gl Y y) (hmy : Y.mg y = none) (hvy : bootBuiltins y = some (.type T2))
    (hN : Y.N[i]? = some x := by rfl) (hv : Vis Y.env.scope x := by first | exact Or.inl rfl | exact Or.inr (Or.inl rfl) | exact Or.inr (Or.inr rfl)) (hd : (x == ("__debug__" : Str)) = false := by decide) (hcd : (x == ("__classdict__" : Str)) = false := by decide) (hny : y ≠ ("__name__" : Str) := by decide) (hdy : (y == ("__debug__" : Str)) = false := by decide)
    (he : starEach (.Name x px :: [.Name y py]) Y.env = (false, eval (.Name x px) Y.env) :: starEach [.Name y py] Y.env := by rfl) (he2 : starEach [.Name y py] Y.env = (false, eval (.Name y py) Y.env) :: starEach [] Y.env := by rfl) (hpl : (backTo pos (starEach [.Name y py] Y.env)).any (·.1) = false := by rfl) :
    SEe (Y.suite a ((a, oe) :: pn)) i a cls dd Γ (.Call (.Name "isinstance" p) [.Name x px, .Name y py] [] pos) (eIsX i nm b) 0 Γ := by
  refine ⟨_, pe_callB (X := Y.suite a ((a, oe) :: pn)) (call_isX T hz hf) hg hm boot_isinstance (pa_cons (pe_var (X := Y.suite a ((a, oe) :: pn)) hN hv hd hcd) (pa_cons (pe_bltn (X := Y.suite a ((a, oe) :: pn)) (v := .ty T2) hgy hmy hvy rfl hny hdy) pa_nil he2) he) (by decide) (by decide) he hpl, fun B σ env F H d Q r kx e k => ?_⟩
  obtain ⟨h1, x0, h2, nm', C', ks, fs, rfl, h3, h5, h4⟩ := kx
  rw [eIsX, h2, Option.bind_some] at e
  have ee : (if nm' = nm then some (PyData.bool b) else none) = some d := e
  clear e
  by_cases hc : nm' = nm
  · rw [if_pos hc] at ee
    cases ee
    subst hc
    rw [hns] at h3
    cases h3
    refine ⟨.ref a, h1, .ty T2, .type T2, b, h5, rfl, (fun u hu => hu), hk, ?_, k _ F H (Same.refl _) (Same.refl _) (r.t0 (.bl b))⟩
    rcases h4 with ⟨h4, _, _⟩ | ⟨da, xs, h5', h6, h7, h8⟩
    · exact .inl h4
    · exact .inr ⟨da, xs, h5', r.fh _ _ h6⟩
  · rw [if_neg hc] at ee
    cases ee
def sIfR (c : TF) (f g : SF) : SF := fun env => (c env).bind fun b => if b = true then (f env).bind fun o => match o with
    | .rt d => some (.rt d)
    | _ => none
  else g env
theorem sue_ifR {c : Expr} {b₀ : List Stmt} {rest : List Stmt} {pos : Pos} {fc : TF} {f g : SF} (hc : STe X i a cls dd Γ c fc Γ1) (hf : SUe X L i a cls dd Γ1 b₀ f Γ') (hg : SUe X L i a cls dd Γ1 rest g Γ') : SUe X L i a cls dd Γ (.If c b₀ [] pos :: rest) (sIfR fc f g) Γ' := by
  obtain ⟨tc, pc, qc⟩ := hc
  obtain ⟨tf, pf, qf⟩ := hf
  obtain ⟨tg, pg, qg⟩ := hg
  refine ⟨_, pss_cons (ps_if pc pf pss_nil) pg, fun B σ env F H o E r kx e k => ?_⟩
  obtain ⟨b, hb, e⟩ := Option.bind_eq_some_iff.mp e
  refine qc B σ env F H b _ r kx hb fun F1 H1 s1 t1 r1 => ?_
  cases b with
  | true =>
    rw [if_pos rfl] at e
    obtain ⟨o1, ho, e⟩ := Option.bind_eq_some_iff.mp e
    rw [if_pos rfl]
    cases o1 with
    | rt d =>
      cases e
      refine qf B σ env F1 H1 (.rt d) _ r1 (kx_up kx s1) ho ?_
      exact ⟨fun v F' H' s2 => k.1 v F' H' (s1.trans s2), fun x ex c dd σ' F' H' s2 => k.2 x ex c dd σ' F' H' (s1.trans s2)⟩
    | _ => cases e
  | false =>
    rw [if_neg (by decide)] at e
    rw [if_neg (by decide)]
    show tg E σ H1
    exact qg B σ env F1 H1 o E r1 (kx_up kx s1) e (k.up s1)
def isTup : D → Bool
  | .tuple _ => true
  | _ => false
theorem RelT.up1 {B : Bs} {σ : L2.St} {env : List D} {d : D} {v : V} (r : RelT K B Γ σ env F H 0 d v) (h : isTup d = true) : RelT K B Γ σ env F H 1 d v := by
  obtain ⟨f, g, s, o, k⟩ := r
  cases d with
  | tuple ds => exact ⟨f, g, s, o, k⟩
  | _ => cases h
theorem eTup_is {fs : AF} {env : List D} {d : D} (h : eTup fs env = some d) : isTup d = true := by
  unfold eTup at h
  obtain ⟨ds, _, h⟩ := Option.bind_eq_some_iff.mp h
  split at h
  · cases h; rfl
  · cases h
theorem see_tup1 {e : Expr} {fs : AF} (h : SEe X i a cls dd Γ e (eTup fs) 0 Γ1) : SEe X i a cls dd Γ e (eTup fs) 1 Γ1 := by
  obtain ⟨t, p, q⟩ := h
  exact ⟨t, p, fun B σ env F H d Q r kx e k => q B σ env F H d Q r kx e fun v F' H' s1 t1 r1 => k v F' H' s1 t1 (r1.up1 (eTup_is e))⟩
theorem se_tup1 {e : Expr} {fs : AF} (h : SE X Γ e (eTup fs) 0 Γ1) : SE X Γ e (eTup fs) 1 Γ1 := by
  obtain ⟨t, p, q⟩ := h
  exact ⟨t, p, fun B σ env F H d Q r e k => q B σ env F H d Q r e fun v F' H' s1 t1 r1 => k v F' H' s1 t1 (r1.up1 (eTup_is e))⟩
theorem se_glS {x : Str} {z : Str} {pos : Pos} (h : ∃ t, X.mg x = some (Value.str z t)) (hg : Gl X x) (hd : (x == ("__debug__" : Str)) = false := by decide) : SE X Γ (.Name x pos) (eC (.str z)) 0 Γ := by
  obtain ⟨t, hm⟩ := h
  exact se_glob (v := .str z) hg hm ⟨t, rfl⟩ (fun _ => .str z) hd
def aGl (ds : List D) : AF := fun _ => some ds
theorem si_glT {x : Str} {ds : List D} {tg : Expr} {pos : Pos} (T : GlT X.K X.mg x ds) (hg : Gl X x) (hdb : (x == ("__debug__" : Str)) = false := by decide) : SI X Γ tg (.Name x pos) (aGl ds) Γ := by
  obtain ⟨g, xs, hmg, hs, hf, hr⟩ := T.ex
  refine ⟨_, pi_tup (pe_glob (v := .ref g) hg hmg rfl hdb), fun B σ env F H ds' R r e k => ?_⟩
  cases e
  refine ⟨g, rfl, ⟨xs, hs H⟩, k _ F H (Same.refl _) (Same.refl _) r ⟨fun n F1 H1 e1 e2 hn => ?_, fun n F1 H1 x H2 e1 e2 hy d hd => ?_, fun n F1 H1 e1 e2 hn => ?_⟩⟩
  · have hx : n < xs.length := by rw [(hr F).length]; exact hn
    exact ⟨xs, xs[n], hs _, List.getElem?_eq_getElem hx⟩
  · obtain ⟨hH, hx⟩ := hy
    subst hH
    obtain ⟨v, q1, q2⟩ := (hr F1).get hd
    have q3 := hx xs (hs _)
    rw [q1] at q3
    cases q3
    exact ⟨F1, got_val e2 q2⟩
  · exact ⟨xs, hs _, by rw [(hr F).length]; exact hn⟩
end
end Pf

set_option Elab.async false
set_option linter.all false
set_option maxRecDepth 100000
set_option maxHeartbeats 4000000
namespace Pf
open PySem PySem.Spec PyProof.Rows L2
inductive GEnt : List DictEntry → List (Str × Int) → Prop
  | nil : GEnt [] []
  | cons {h : Int} {t t' : Tok} {s : Str} {i : Int} {r : List DictEntry} {l : List (Str × Int)} : GEnt r l → GEnt (⟨h, .str s t, .int i t'⟩ :: r) ((s, i) :: l)
structure GlD (K : PySem.W.Frag) (w : World) (mg : Str → Option Value) (x : Str) (l : List (Str × Int)) : Prop where
  ex : ∃ (d : Addr) (es : Array DictEntry) (n : Nat), mg x = some (.ref d) ∧ KDict K w d es n ∧ GEnt es.toList l
def lookS : List (Str × Int) → Str → Option Int
  | [], _ => none
  | (s, i) :: l, k => if s = k then some i else lookS l k
theorem gent_find {k : Str} : ∀ {es : List DictEntry} {l : List (Str × Int)}, GEnt es l → (∀ i, lookS l k = some i → ∃ t, (es.find? fun e => Value.isStrOf k e.key).map (·.val) = some (Value.int i t)) ∧ (lookS l k = none → (es.find? fun e => Value.isStrOf k e.key).map (·.val) = none)
  | _, _, .nil => ⟨fun i h => (nomatch h), fun _ => rfl⟩
  | _, _, .cons (h := h) (t := t) (t' := t') (s := s) (i := i) (r := r) (l := l) g => by
    have ih := gent_find (k := k) g
    by_cases c : s = k
    · have e : (fun e : DictEntry => Value.isStrOf k e.key) ⟨h, Value.str s t, Value.int i t'⟩ = true := by show (s == k) = true; rw [c]; exact beq_self_eq_true k
      refine ⟨fun j hj => ⟨t', ?_⟩, fun hn => ?_⟩
      · have hj : (if s = k then some i else lookS l k) = some j := hj
        rw [if_pos c] at hj
        cases hj
        rw [List.find?_cons_of_pos (p := fun e : DictEntry => Value.isStrOf k e.key) e]
        rfl
      · have hn : (if s = k then some i else lookS l k) = none := hn
        rw [if_pos c] at hn
        cases hn
    · have e : ¬ (fun e : DictEntry => Value.isStrOf k e.key) ⟨h, Value.str s t, Value.int i t'⟩ = true := by show ¬ (s == k) = true; rw [beq_iff_eq]; exact c
      have el : lookS ((s, i) :: l) k = lookS l k := if_neg c
      rw [List.find?_cons_of_neg (p := fun e : DictEntry => Value.isStrOf k e.key) e, el]
      exact ih
def eGetG (l : List (Str × Int)) (fa fb : EF) : EF := fun env => (fa env).bind fun k => (fb env).bind fun d => match k with
  | .str z => some (match lookS l z with | some i => .int i | none => d)
  | _ => none
section
variable {X : Cx} {Γ Γ1 Γ2 : Ctx}
theorem findBy_list {es : Array DictEntry} {k : Str} : findBy Value.isStrOf es k = (es.toList.find? fun e => Value.isStrOf k e.key).map (·.val) := by
  unfold findBy
  rw [← Array.find?_toList]
theorem pe_getG {d : Addr} {es : Array DictEntry} {n : Nat} {l : List (Str × Int)} {o e f : Expr} {apos cpos : Pos} {td ty tx : TE} (D : KDict X.K X.w d es n) (G : GEnt es.toList l) (ho : PE X o td) (he : PE X e ty) (hf : PE X f tx) (m : M2 X o "get" apos e f cpos) :
    PE X (.Call (.Attribute o "get" apos) [e, f] [] cpos) (fun σ H Q => td σ H fun x H1 => x = .ref d ∧ ty σ H1 fun y H2 => tx σ H2 fun z H3 => ∃ (k : Str), y = .str k ∧ Q (match lookS l k with | some i => V.int i | none => z) H3) := by
  refine ⟨fun pins s σ H Q I h => ?_⟩
  refine wpAny_Call_method m.base m.few m.line PySem.F.plainAttrs_dict PySem.F.slot_dict_get PySem.F.type_dict_get (thn (ho.run pins s σ H _ I h) fun u s1 ⟨v1, H1, I1, r1, q⟩ => ?_)
  obtain ⟨rfl, q⟩ := q
  have r1 : u = Value.ref d := r1
  subst r1
  have hob := I1.kIn _ _ D.at_
  refine ⟨⟨_, hob, rfl⟩, fun b eb => by cases eb; exact ⟨_, hob, rfl⟩, ?_⟩
  rw [m.trees]
  refine wpAny_dict_get2 (knd := strKind X.prog X.w) D.low (thn (he.run pins s1 σ H1 _ I1 q) fun uk s2 ⟨v2, H2, I2, r2, q2⟩ => thn (hf.run pins s2 σ H2 _ I2 q2) fun ud s3 ⟨v3, H3, I3, r3, q3⟩ => ?_)
  obtain ⟨k, rfl, q3⟩ := q3
  obtain ⟨tk, rfl⟩ := r2
  refine ⟨k, _, strKind_is _ _ _ _, PySem.W.mapOf_K I3.kIn D.at_ D.lit, ?_⟩
  obtain ⟨g1, g2⟩ := gent_find (k := k) G
  rw [findBy_list]
  cases c : lookS l k with
  | some i =>
    obtain ⟨t, e⟩ := g1 i c
    rw [c] at q3
    rw [e]
    exact ⟨.int i, H3, I3.tok _, ⟨t, rfl⟩, q3⟩
  | none =>
    rw [c] at q3
    rw [g2 c]
    exact ⟨v3, H3, I3.tok _, r3, q3⟩
theorem se_getG {x : Str} {l : List (Str × Int)} {a b : Expr} {apos pos xp : Pos} {fa fb : EF} {na : Nat} (T : GlD X.K X.w X.mg x l) (hg : Gl X x) (ha : SB X Γ a fa na Γ1) (hb : SE X Γ1 b fb 0 Γ2) (hdb : (x == ("__debug__" : Str)) = false := by decide)
    (m1 : attributeBase (.Name x xp) "get" X.env (eval (.Name x xp) X.env) = eval (.Name x xp) X.env := by rfl)
    (m2 : ((((PySem.backTo pos (PySem.starEach [a, b] X.env)).all fun x => !x.1) && (PySem.backToKw pos (PySem.keywordEach [] X.env)).all fun x => x.1.isSome) && decide (([a, b].length + ([] : List Keyword).length + if ([] : List Keyword).isEmpty = true then 0 else 1) < 30)) = true := by rfl)
    (m3 : (apos.endLine == pos.line) = true := by rfl)
    (m4 : PySem.backTo pos (PySem.starEach [a, b] X.env) = [(false, PySem.eval a X.env), (false, PySem.eval b X.env)] := by rfl) :
    SE X Γ (.Call (.Attribute (.Name x xp) "get" apos) [a, b] [] pos) (eGetG l fa fb) 0 Γ2 := by
  obtain ⟨ta, pa, qa⟩ := ha
  obtain ⟨tb, pb, qb⟩ := hb
  obtain ⟨d, es, n, hm, D, G⟩ := T.ex
  refine ⟨_, pe_getG D G (pe_glob (v := .ref d) hg hm rfl hdb) pa pb ⟨m1, m2, m3, m4⟩, fun B σ env F H dd Q rr e k => ?_⟩
  obtain ⟨dk, hk, e⟩ := Option.bind_eq_some_iff.mp e
  obtain ⟨dv, hv, e⟩ := Option.bind_eq_some_iff.mp e
  refine ⟨rfl, qa B σ env F H dk _ rr hk fun v F1 H1 s1 t1 r1 b1 => qb B σ env F1 H1 dv _ r1 hv fun u F2 H2 s2 t2 r2 => ?_⟩
  cases dk with
  | str z =>
    have e : some (match lookS l z with | some i => PyData.int i | none => dv) = some dd := e
    have ev : v = .str z := (b1.rp r1.fh na).vstr
    refine ⟨z, ev, ?_⟩
    generalize lookS l z = c at e ⊢
    cases c with
    | some i => cases e; exact k _ F2 H2 (s1.trans s2) (t1.trans t2) (r2.rel.t0 (.int i))
    | none => cases e; exact k _ F2 H2 (s1.trans s2) (t1.trans t2) r2
  | _ => cases e
end
end Pf

namespace My
open PySem L2 Pf
def topS (i : Nat) : Stmt := PySem.Challenge.pw_wardens_k01_words_of_a_source.main.body.getD i (.Pass ⟨0, 0, 0, 0⟩)
def k_LONGEST : List (Str × Int) := [(Str.ofString "word", 20), (Str.ofString "number", 7)]
def k_SIGNS : List D := ([":=", "..", "<=", ">=", "!=", "+-", "{", "}", "(", ")", "[", "]", ";", ":", ",", ".", "<", ">", "=", "+", "-", "*"] : List Str).map .str
structure Txt (w : World) (P : Program) (K : PySem.W.Frag) (mg : Str → Option Value) where
  se : SeAll P K mg "SourceError"
  exs : ExcC K se.C
  kiv : PySem.W.kitOne K (.ref se.C) (.type "ValueError") = some true
  CW : Addr
  mW : mg "WardenError" = some (.ref CW)
  ki_SourceError_WardenError : PySem.W.kitOne K (.ref se.C) (.ref CW) = some true
  xe_SourceError_SourceError : PySem.W.exmOne K (.ref se.C) (.ref se.C) = some true
  a_words_of : Addr
  d_words_of : FuncData
  F_words_of : Fun K "words_of" "words_of" (topS 9) a_words_of d_words_of
  m_words_of : mg "words_of" = some (.ref a_words_of)
  b_words_of : Binds K d_words_of ["text"] []
  a_find_piece : Addr
  d_find_piece : FuncData
  F_find_piece : Fun K "find_piece" "find_piece" (topS 10) a_find_piece d_find_piece
  m_find_piece : mg "find_piece" = some (.ref a_find_piece)
  b_find_piece : Binds K d_find_piece ["text", "place"] []
  a_comment_length : Addr
  d_comment_length : FuncData
  F_comment_length : Fun K "comment_length" "comment_length" (topS 11) a_comment_length d_comment_length
  m_comment_length : mg "comment_length" = some (.ref a_comment_length)
  b_comment_length : Binds K d_comment_length ["text", "place"] []
  a_length_of : Addr
  d_length_of : FuncData
  F_length_of : Fun K "length_of" "length_of" (topS 12) a_length_of d_length_of
  m_length_of : mg "length_of" = some (.ref a_length_of)
  b_length_of : Binds K d_length_of ["text", "place", "characters"] []
  a__law_cell : Addr
  d__law_cell : FuncData
  F__law_cell : Fun K "_law_cell" "_law_cell" (topS 14) a__law_cell d__law_cell
  m__law_cell : mg "_law_cell" = some (.ref a__law_cell)
  b__law_cell : Binds K d__law_cell ["script", "k"] []
  a__law_draw : Addr
  d__law_draw : FuncData
  F__law_draw : Fun K "_law_draw" "_law_draw" (topS 15) a__law_draw d__law_draw
  m__law_draw : mg "_law_draw" = some (.ref a__law_draw)
  b__law_draw : Binds K d__law_draw ["script", "k", "sizes"] []
  a__law_letters : Addr
  d__law_letters : FuncData
  F__law_letters : Fun K "_law_letters" "_law_letters" (topS 16) a__law_letters d__law_letters
  m__law_letters : mg "_law_letters" = some (.ref a__law_letters)
  b__law_letters : Binds K d__law_letters [] []
  a__law_end : Addr
  d__law_end : FuncData
  F__law_end : Fun K "_law_end" "_law_end" (topS 17) a__law_end d__law_end
  m__law_end : mg "_law_end" = some (.ref a__law_end)
  b__law_end : Binds K d__law_end ["text", "at", "chars"] []
  a__law_sign : Addr
  d__law_sign : FuncData
  F__law_sign : Fun K "_law_sign" "_law_sign" (topS 18) a__law_sign d__law_sign
  m__law_sign : mg "_law_sign" = some (.ref a__law_sign)
  b__law_sign : Binds K d__law_sign ["text", "at"] []
  a__law_place : Addr
  d__law_place : FuncData
  F__law_place : Fun K "_law_place" "_law_place" (topS 19) a__law_place d__law_place
  m__law_place : mg "_law_place" = some (.ref a__law_place)
  b__law_place : Binds K d__law_place ["text", "at"] []
  a__law_one : Addr
  d__law_one : FuncData
  F__law_one : Fun K "_law_one" "_law_one" (topS 20) a__law_one d__law_one
  m__law_one : mg "_law_one" = some (.ref a__law_one)
  b__law_one : Binds K d__law_one ["text", "at"] []
  a__law_words : Addr
  d__law_words : FuncData
  F__law_words : Fun K "_law_words" "_law_words" (topS 21) a__law_words d__law_words
  m__law_words : mg "_law_words" = some (.ref a__law_words)
  b__law_words : Binds K d__law_words ["text"] []
  a__law_piece : Addr
  d__law_piece : FuncData
  F__law_piece : Fun K "_law_piece" "_law_piece" (topS 22) a__law_piece d__law_piece
  m__law_piece : mg "_law_piece" = some (.ref a__law_piece)
  b__law_piece : Binds K d__law_piece ["script", "k", "odd"] []
  a__law_asked : Addr
  d__law_asked : FuncData
  F__law_asked : Fun K "_law_asked" "_law_asked" (topS 23) a__law_asked d__law_asked
  m__law_asked : mg "_law_asked" = some (.ref a__law_asked)
  b__law_asked : Binds K d__law_asked ["text"] []
  a__law_fine : Addr
  d__law_fine : FuncData
  F__law_fine : Fun K "_law_fine" "_law_fine" (topS 24) a__law_fine d__law_fine
  m__law_fine : mg "_law_fine" = some (.ref a__law_fine)
  b__law_fine : Binds K d__law_fine ["actual", "expected"] []
  a_law : Addr
  d_law : FuncData
  F_law : Fun K "law" "law" (topS 25) a_law d_law
  m_law : mg "law" = some (.ref a_law)
  b_law : Binds K d_law ["script"] []
  g_SIGNS : GlT K mg "SIGNS" k_SIGNS
  c_BLANKS : ∃ t, mg "BLANKS" = some (Value.str (Str.ofString " \t\n") t)
  c_DIGITS : ∃ t, mg "DIGITS" = some (Value.str (Str.ofString "0123456789") t)
  c_LETTERS : ∃ t, mg "LETTERS" = some (Value.str (Str.ofString "abcdefghijklmnopqrstuvwxyzABCDEFGHIJKLMNOPQRSTUVWXYZ_") t)
  g_LONGEST : GlD K w mg "LONGEST" k_LONGEST
  z_ValueError : mg "ValueError" = none
  z_bool : mg "bool" = none
  z_isinstance : mg "isinstance" = none
  z_len : mg "len" = none
  z_list : mg "list" = none
  z_min : mg "min" = none
  z_range : mg "range" = none
  z_str : mg "str" = none
  z_tuple : mg "tuple" = none
noncomputable section
variable {P : Program} {w : World} {K : PySem.W.Frag} {mg : Str → Option Value} {base : Heap}
def B_comment_length : SF :=
  (sSeq (sSet 2 (eM (mSI fun x y i => .int (Txt.find3 x y i)) (eV 0) (aC (eC (.str (Str.ofString "\n"))) (aC (eV 1) aN))))
  (sSeq (sIf (tV (e2 pEq (eV 2) (e1 pNeg (eC (.int 1))))) (sSet 2 (eL lenD (aC (eV 0) aN)))
  sSkip)
  (sRet (e2 pSub (eV 2) (eV 1)))))
def F_comment_length : List D → Option D := runF 0 2 3 B_comment_length
theorem sc_comment_length : FnScope ["text", "place", "stop"] ["text", "place"] (defScope (topS 11)) := ⟨rfl, rfl, rfl, by decide +kernel, rfl, by decide +kernel, by decide +kernel⟩
theorem ok_comment_length (T : Txt w P K mg) : FnOk P w K mg base CX0 1 T.a_comment_length T.d_comment_length ["text", "place"] (Pure K 2 0 F_comment_length) := by
  have sc := sc_comment_length
  exact fn_pure (Γ' := []) T.F_comment_length sc_comment_length rfl fun cdv A outer s H E hr =>
    (ss_cons (ss_set 2 (se_mS PySem.F.slot_str_find PySem.F.type_str_find mt_find3 (sm_SI (u := fun x y i => .int (Txt.find3 x y i)) fun _ _ _ _ _ => .int _) (sb_var 0 rfl) (sa_cons (SE.sb se_str) (sa_cons (sb_var 1 rfl) sa_nil))) sc.nd)
  (ss_cons (ss_if (st_eq (hu64 hr) (sb_var 2 rfl) (SE.sb (se_neg (SE.sb se_int)))) (SSs.sub (Γ' := [some 0, some 0, some 0]) (ss_one (ss_set 2 (se_len rfl T.z_len (sb_var 0 rfl)) sc.nd)) rfl)
  (SSs.sub (Γ' := [some 0, some 0, some 0]) ss_nil rfl))
  (ss_one (ss_ret (se_sub (sb_var 2 rfl) (sb_var 1 rfl)) (by decide)))))
def L_length_of_1 : SF :=
  (sSet 3 (e2 (iOp0 fun a b => .int (a + b)) (eV 3) (eC (.int 1))))
def B_length_of : SF :=
  (sSeq (sSet 3 (eV 1))
  (sSeq (sWhile (tAndF (tV (e2 pLt (eV 3) (eL lenD (aC (eV 0) aN)))) (tV (e2 pIn (e2 pIx (eV 0) (eV 3)) (eV 2)))) L_length_of_1)
  (sRet (e2 pSub (eV 3) (eV 1)))))
def F_length_of : List D → Option D := runF 0 3 4 B_length_of
theorem sc_length_of : FnScope ["text", "place", "characters", "stop"] ["text", "place", "characters"] (defScope (topS 12)) := ⟨rfl, rfl, rfl, by decide +kernel, rfl, by decide +kernel, by decide +kernel⟩
theorem ok_length_of (T : Txt w P K mg) : FnOk P w K mg base CX0 1 T.a_length_of T.d_length_of ["text", "place", "characters"] (Pure K 3 0 F_length_of) := by
  have sc := sc_length_of
  exact fn_pure (Γ' := []) T.F_length_of sc_length_of rfl fun cdv A outer s H E hr =>
    (ss_cons (ss_set 3 (SB.se (sb_var 1 rfl)) sc.nd)
  (ss_cons (ss_while (Γ' := [some 0, some 0, some 0, some 0]) [some 0, some 0, some 0, some 0] PySem.PassesOwn.never rfl (STw.ts (sw_and (st_lt (sb_var 3 rfl) (SE.sb (se_len rfl T.z_len (sb_var 0 rfl)))) (sw_and1 (st_in (hu65 hr) (SE.sb (se_ixA (sb_var 0 rfl) (sb_var 3 rfl))) (sb_var 2 rfl)))))
  (SSs.sub (Γ' := [some 0, some 0, some 0, some 0]) (ss_one (ss_aug ip_add sc.nd rfl se_int)) rfl) rfl)
  (ss_one (ss_ret (se_sub (sb_var 3 rfl) (sb_var 1 rfl)) (by decide)))))
def B__law_cell : SF :=
  (sSeq (sIf (tV (e2 pLt (eV 1) (eL lenD (aC (eV 0) aN)))) (sRet (e2 pIx (eV 0) (eV 1)))
  sSkip)
  (sRet (eC (.int 0))))
def F__law_cell : List D → Option D := runF 0 2 2 B__law_cell
theorem sc__law_cell : FnScope ["script", "k"] ["script", "k"] (defScope (topS 14)) := ⟨rfl, rfl, rfl, by decide +kernel, rfl, by decide +kernel, by decide +kernel⟩
theorem ok__law_cell (T : Txt w P K mg) : FnOk P w K mg base CX0 1 T.a__law_cell T.d__law_cell ["script", "k"] (Pure K 2 0 F__law_cell) := by
  have sc := sc__law_cell
  exact fn_pure (Γ' := []) T.F__law_cell sc__law_cell rfl fun cdv A outer s H E hr =>
    (ss_cons (ss_if (st_lt (sb_var 1 rfl) (SE.sb (se_len rfl T.z_len (sb_var 0 rfl)))) (ss_one (ss_ret (se_ixA (sb_var 0 rfl) (sb_var 1 rfl)) (by decide)))
  (SSs.sub (Γ' := [some 0, some 0]) ss_nil rfl))
  (ss_one (ss_ret se_int (by decide))))
def B__law_letters : SF :=
  (sRet (eC (.str (Str.ofString "abcdefghijklmnopqrstuvwxyzABCDEFGHIJKLMNOPQRSTUVWXYZ_"))))
def F__law_letters : List D → Option D := runF 0 0 0 B__law_letters
theorem sc__law_letters : FnScope [] [] (defScope (topS 16)) := ⟨rfl, rfl, rfl, by decide +kernel, rfl, by decide +kernel, by decide +kernel⟩
theorem ok__law_letters (T : Txt w P K mg) : FnOk P w K mg base CX0 1 T.a__law_letters T.d__law_letters [] (Pure K 0 0 F__law_letters) := by
  have sc := sc__law_letters
  exact fn_pure (Γ' := []) T.F__law_letters sc__law_letters rfl fun cdv A outer s H E hr =>
    (ss_one (ss_ret se_str (by decide)))
def L__law_end_1 : SF :=
  (sSeq (sIf (tOrF (tV (e2 pGe (eV 1) (eL lenD (aC (eV 0) aN)))) (tV (e2 pNotIn (e2 pIx (eV 0) (eV 1)) (eV 2)))) (sRet (eV 1))
  sSkip)
  (sSet 1 (e2 pAdd (eV 1) (eC (.int 1)))))
def B__law_end : SF :=
  (sSeq (sForE (aRng1 (aC (e2 pAdd (eL lenD (aC (eV 0) aN)) (eC (.int 1))) aN)) (gN 3) L__law_end_1)
  (sRet (eV 1)))
def F__law_end : List D → Option D := runF 0 3 4 B__law_end
theorem sc__law_end : FnScope ["text", "at", "chars", "k"] ["text", "at", "chars"] (defScope (topS 17)) := ⟨rfl, rfl, rfl, by decide +kernel, rfl, by decide +kernel, by decide +kernel⟩
theorem ok__law_end (T : Txt w P K mg) : FnOk P w K mg base CX0 1 T.a__law_end T.d__law_end ["text", "at", "chars"] (Pure K 3 0 F__law_end) := by
  have sc := sc__law_end
  exact fn_pure (Γ' := []) T.F__law_end sc__law_end rfl fun cdv A outer s H E hr =>
    (ss_cons (ss_for [some 0, some 0, some 0, none] PySem.PassesOwn.never rfl (si_range1 rfl T.z_range (SE.sb (se_add (SE.sb (se_len rfl T.z_len (sb_var 0 rfl))) (SE.sb se_int)))) rfl (sg_name 3 sc.nd)
  (SSs.sub (Γ' := [some 0, some 0, some 0, none]) (ss_cons (ss_if (STw.ts (sw_or (st_ge (sb_var 1 rfl) (SE.sb (se_len rfl T.z_len (sb_var 0 rfl)))) (sw_or1 (st_notIn (hu65 hr) (SE.sb (se_ixA (sb_var 0 rfl) (sb_var 1 rfl))) (sb_var 2 rfl))))) (ss_one (ss_ret (SB.se (sb_var 1 rfl)) (by decide)))
  (SSs.sub (Γ' := [some 0, some 0, some 0, some 0]) ss_nil rfl))
  (ss_one (ss_set 1 (se_add (sb_var 1 rfl) (SE.sb se_int)) sc.nd))) rfl))
  (ss_one (ss_ret (SB.se (sb_var 1 rfl)) (by decide))))
def L__law_sign_1 : SF :=
  (sIf (tV (e2 pEq (eSl pSlS (eV 0) (oS (eV 1)) (oS (e2 pAdd (eV 1) (eL lenD (aC (eV 2) aN))))) (eV 2))) (sRet (eV 2))
  sSkip)
def B__law_sign : SF :=
  (sSeq (sForE (aSeq (eLst (aC (eC (.str (Str.ofString ":="))) (aC (eC (.str (Str.ofString ".."))) (aC (eC (.str (Str.ofString "<="))) (aC (eC (.str (Str.ofString ">="))) (aC (eC (.str (Str.ofString "!="))) (aC (eC (.str (Str.ofString "+-"))) (aC (eC (.str (Str.ofString "{"))) (aC (eC (.str (Str.ofString "}"))) (aC (eC (.str (Str.ofString "("))) (aC (eC (.str (Str.ofString ")"))) (aC (eC (.str (Str.ofString "["))) (aC (eC (.str (Str.ofString "]"))) (aC (eC (.str (Str.ofString ";"))) (aC (eC (.str (Str.ofString ":"))) (aC (eC (.str (Str.ofString ","))) (aC (eC (.str (Str.ofString "."))) (aC (eC (.str (Str.ofString "<"))) (aC (eC (.str (Str.ofString ">"))) (aC (eC (.str (Str.ofString "="))) (aC (eC (.str (Str.ofString "+"))) (aC (eC (.str (Str.ofString "-"))) (aC (eC (.str (Str.ofString "*"))) aN)))))))))))))))))))))))) (gN 2) L__law_sign_1)
  (sRet (eC (.str (Str.ofString "")))))
def F__law_sign : List D → Option D := runF 0 2 3 B__law_sign
theorem sc__law_sign : FnScope ["text", "at", "sign"] ["text", "at"] (defScope (topS 18)) := ⟨rfl, rfl, rfl, by decide +kernel, rfl, by decide +kernel, by decide +kernel⟩
theorem ok__law_sign (T : Txt w P K mg) : FnOk P w K mg base CX0 1 T.a__law_sign T.d__law_sign ["text", "at"] (Pure K 2 0 F__law_sign) := by
  have sc := sc__law_sign
  exact fn_pure (Γ' := []) T.F__law_sign sc__law_sign rfl fun cdv A outer s H E hr =>
    (ss_cons (ss_for [some 0, some 0, none] PySem.PassesOwn.never rfl (si_seq (SE.sub (m := 0) (se_lst (sa_cons (SE.sb se_str) (sa_cons (SE.sb se_str) (sa_cons (SE.sb se_str) (sa_cons (SE.sb se_str) (sa_cons (SE.sb se_str) (sa_cons (SE.sb se_str) (sa_cons (SE.sb se_str) (sa_cons (SE.sb se_str) (sa_cons (SE.sb se_str) (sa_cons (SE.sb se_str) (sa_cons (SE.sb se_str) (sa_cons (SE.sb se_str) (sa_cons (SE.sb se_str) (sa_cons (SE.sb se_str) (sa_cons (SE.sb se_str) (sa_cons (SE.sb se_str) (sa_cons (SE.sb se_str) (sa_cons (SE.sb se_str) (sa_cons (SE.sb se_str) (sa_cons (SE.sb se_str) (sa_cons (SE.sb se_str) (sa_cons (SE.sb se_str) sa_nil))))))))))))))))))))))) (leC_refl _) (Nat.zero_le _))) rfl (sg_name 2 sc.nd)
  (SSs.sub (Γ' := [some 0, some 0, none]) (ss_one (ss_if (st_eq (hu64 hr) (SE.sb (se_slS (sb_var 0 rfl) (so_some (sb_var 1 rfl)) (so_some (SE.sb (se_add (sb_var 1 rfl) (SE.sb (se_len rfl T.z_len (sb_var 2 rfl)))))))) (sb_var 2 rfl)) (ss_one (ss_ret (SB.se (sb_var 2 rfl)) (by decide)))
  (SSs.sub (Γ' := [some 0, some 0, some 0]) ss_nil rfl))) rfl))
  (ss_one (ss_ret se_str (by decide))))
def B__law_place : SF :=
  (sSeq (sSet 2 (eSl pSlS (eV 0) oN (oS (eV 1))))
  (sSeq (sSet 3 (e2 pAdd (eM (mS1 fun x y => .int (Txt.count x y)) (eV 2) (aC (eC (.str (Str.ofString "\n"))) aN)) (eC (.int 1))))
  (sRet (eTup (aC (eV 3) (aC (e2 pAdd (e2 pSub (eV 1) (e2 pAdd (eM (mS1 fun x y => .int (Txt.rfind x y)) (eV 2) (aC (eC (.str (Str.ofString "\n"))) aN)) (eC (.int 1)))) (eC (.int 1))) aN))))))
def F__law_place : List D → Option D := runF 1 2 4 B__law_place
theorem sc__law_place : FnScope ["text", "at", "before", "line"] ["text", "at"] (defScope (topS 19)) := ⟨rfl, rfl, rfl, by decide +kernel, rfl, by decide +kernel, by decide +kernel⟩
theorem ok__law_place (T : Txt w P K mg) : FnOk P w K mg base CX0 1 T.a__law_place T.d__law_place ["text", "at"] (Pure K 2 1 F__law_place) := by
  have sc := sc__law_place
  exact fn_pure (Γ' := []) T.F__law_place sc__law_place rfl fun cdv A outer s H E hr =>
    (ss_cons (ss_set 2 (se_slS (sb_var 0 rfl) so_none (so_some (sb_var 1 rfl))) sc.nd)
  (ss_cons (ss_set 3 (se_add (SE.sb (se_mS PySem.F.slot_str_count PySem.F.type_str_count mt_count (sm_S1 (u := fun x y => .int (Txt.count x y)) fun _ _ _ _ => .int _) (sb_var 2 rfl) (sa_cons (SE.sb se_str) sa_nil))) (SE.sb se_int)) sc.nd)
  (ss_one (ss_ret (se_tup1 (se_tup (sa_cons (SE.sb (SB.se (sb_var 3 rfl))) (sa_cons (SE.sb (se_add (SE.sb (se_sub (sb_var 1 rfl) (SE.sb (se_add (SE.sb (se_mS PySem.F.slot_str_rfind PySem.F.type_str_rfind mt_rfind (sm_S1 (u := fun x y => .int (Txt.rfind x y)) fun _ _ _ _ => .int _) (sb_var 2 rfl) (sa_cons (SE.sb se_str) sa_nil))) (SE.sb se_int))))) (SE.sb se_int))) sa_nil)))) (by decide)))))
def L__law_fine_1 : SF :=
  (sSeq (sIf (tOrF (tNotF (tT (eIsi "tuple" (e2 pIx (eV 0) (eV 2))))) (tV (e2 pNe (e2 pIx (eV 0) (eV 2)) (e2 pIx (eV 1) (eV 2))))) (sRet (eC (.bool false)))
  sSkip)
  (sIf (tOrF (tT (eIsi "bool" (e2 pIx (e2 pIx (eV 0) (eV 2)) (eC (.int 2))))) (tT (eIsi "bool" (e2 pIx (e2 pIx (eV 0) (eV 2)) (eC (.int 3)))))) (sRet (eC (.bool false)))
  sSkip))
def B__law_fine : SF :=
  (sSeq (sIf (tT (eIsi "tuple" (eV 1))) (sRet (eAnd (eIsi "tuple" (eV 0)) (e2 pEq (eV 0) (eV 1))))
  sSkip)
  (sSeq (sIf (tOrF (tNotF (tT (eIsi "list" (eV 0)))) (tV (e2 pNe (eL lenD (aC (eV 0) aN)) (eL lenD (aC (eV 1) aN))))) (sRet (eC (.bool false)))
  sSkip)
  (sSeq (sForE (aRng1 (aC (eL lenD (aC (eV 1) aN)) aN)) (gN 2) L__law_fine_1)
  (sRet (eC (.bool true))))))
def F__law_fine : List D → Option D := runF 0 2 3 B__law_fine
theorem sc__law_fine : FnScope ["actual", "expected", "k"] ["actual", "expected"] (defScope (topS 24)) := ⟨rfl, rfl, rfl, by decide +kernel, rfl, by decide +kernel, by decide +kernel⟩
theorem ok__law_fine (T : Txt w P K mg) : FnOk P w K mg base CX0 1 T.a__law_fine T.d__law_fine ["actual", "expected"] (Pure K 2 0 F__law_fine) := by
  have sc := sc__law_fine
  exact fn_pure (Γ' := []) T.F__law_fine sc__law_fine rfl fun cdv A outer s H E hr =>
    (ss_cons (ss_if (st_truth (SE.sb (se_isi kitOk_tuple rfl T.z_isinstance rfl T.z_tuple (by decide +kernel) (sb_var 1 rfl)))) (ss_one (ss_ret (se_and (se_isi kitOk_tuple rfl T.z_isinstance rfl T.z_tuple (by decide +kernel) (sb_var 0 rfl)) (se_one (se_eq (hu64 hr) (sb_var 0 rfl) (sb_var 1 rfl)))) (by decide)))
  (SSs.sub (Γ' := [some 0, some 0, none]) ss_nil rfl))
  (ss_cons (ss_if (STw.ts (sw_or (st_not (st_truth (SE.sb (se_isi kitOk_list rfl T.z_isinstance rfl T.z_list (by decide +kernel) (sb_var 0 rfl))))) (sw_or1 (st_ne (hu64 hr) (SE.sb (se_len rfl T.z_len (sb_var 0 rfl))) (SE.sb (se_len rfl T.z_len (sb_var 1 rfl))))))) (ss_one (ss_ret se_bl (by decide)))
  (SSs.sub (Γ' := [some 0, some 0, none]) ss_nil rfl))
  (ss_cons (ss_for [some 0, some 0, none] PySem.PassesOwn.never rfl (si_range1 rfl T.z_range (SE.sb (se_len rfl T.z_len (sb_var 1 rfl)))) rfl (sg_name 2 sc.nd)
  (SSs.sub (Γ' := [some 0, some 0, none]) (ss_cons (ss_if (STw.ts (sw_or (st_not (st_truth (SE.sb (se_isi kitOk_tuple rfl T.z_isinstance rfl T.z_tuple (by decide +kernel) (SE.sb (se_ixA (sb_var 0 rfl) (sb_var 2 rfl))))))) (sw_or1 (st_ne (hu64 hr) (SE.sb (se_ixA (sb_var 0 rfl) (sb_var 2 rfl))) (SE.sb (se_ixA (sb_var 1 rfl) (sb_var 2 rfl))))))) (ss_one (ss_ret se_bl (by decide)))
  (SSs.sub (Γ' := [some 0, some 0, some 0]) ss_nil rfl))
  (ss_one (ss_if (STw.ts (sw_or (st_truth (SE.sb (se_isi kitOk_bool rfl T.z_isinstance rfl T.z_bool (by decide +kernel) (SE.sb (se_ixA (SE.sb (se_ixA (sb_var 0 rfl) (sb_var 2 rfl))) (SE.sb se_int)))))) (sw_or1 (st_truth (SE.sb (se_isi kitOk_bool rfl T.z_isinstance rfl T.z_bool (by decide +kernel) (SE.sb (se_ixA (SE.sb (se_ixA (sb_var 0 rfl) (sb_var 2 rfl))) (SE.sb se_int))))))))) (ss_one (ss_ret se_bl (by decide)))
  (SSs.sub (Γ' := [some 0, some 0, some 0]) ss_nil rfl)))) rfl))
  (ss_one (ss_ret se_bl (by decide))))))
def L_find_piece_1 : SF :=
  (sIf (tT (eM (mSI fun x y i => .bool (Txt.startswith3 x y i)) (eV 0) (aC (eV 3) (aC (eV 1) aN)))) (sRet (eTup (aC (eC (.str (Str.ofString "sign"))) (aC (eL lenD (aC (eV 3) aN)) aN))))
  sSkip)
def B_find_piece : SF :=
  (sSeq (sSet 2 (e2 pIx (eV 0) (eV 1)))
  (sSeq (sIf (tV (e2 pIn (eV 2) (eC (.str (Str.ofString " \t\n"))))) (sRet (eTup (aC (eC (.str (Str.ofString "blank"))) (aC (eC (.int 1)) aN))))
  sSkip)
  (sSeq (sIf (tV (e2 pEq (eV 2) (eC (.str (Str.ofString "#"))))) (sRet (eTup (aC (eC (.str (Str.ofString "blank"))) (aC (eL F_comment_length (aC (eV 0) (aC (eV 1) aN))) aN))))
  sSkip)
  (sSeq (sIf (tV (e2 pIn (eV 2) (eC (.str (Str.ofString "abcdefghijklmnopqrstuvwxyzABCDEFGHIJKLMNOPQRSTUVWXYZ_"))))) (sRet (eTup (aC (eC (.str (Str.ofString "word"))) (aC (eL F_length_of (aC (eV 0) (aC (eV 1) (aC (e2 pAdd (eC (.str (Str.ofString "abcdefghijklmnopqrstuvwxyzABCDEFGHIJKLMNOPQRSTUVWXYZ_"))) (eC (.str (Str.ofString "0123456789")))) aN)))) aN))))
  sSkip)
  (sSeq (sIf (tV (e2 pIn (eV 2) (eC (.str (Str.ofString "0123456789"))))) (sRet (eTup (aC (eC (.str (Str.ofString "number"))) (aC (eL F_length_of (aC (eV 0) (aC (eV 1) (aC (eC (.str (Str.ofString "0123456789"))) aN)))) aN))))
  sSkip)
  (sSeq (sForE (aGl k_SIGNS) (gN 3) L_find_piece_1)
  (sRet (eTup (aC (eC (.str (Str.ofString "unknown"))) (aC (eC (.int 1)) aN))))))))))
def F_find_piece : List D → Option D := runF 1 2 4 B_find_piece
theorem sc_find_piece : FnScope ["text", "place", "first", "sign"] ["text", "place"] (defScope (topS 10)) := ⟨rfl, rfl, rfl, by decide +kernel, rfl, by decide +kernel, by decide +kernel⟩
theorem ok_find_piece (T : Txt w P K mg) : FnOk P w K mg base CX0 2 T.a_find_piece T.d_find_piece ["text", "place"] (Pure K 2 1 F_find_piece) := by
  have sc := sc_find_piece
  exact fn_pure (Γ' := []) T.F_find_piece sc_find_piece rfl fun cdv A outer s H E hr =>
    (ss_cons (ss_set 2 (se_ixA (sb_var 0 rfl) (sb_var 1 rfl)) sc.nd)
  (ss_cons (ss_if (st_in (hu65 hr) (sb_var 2 rfl) (SE.sb (se_glS T.c_BLANKS rfl))) (ss_one (ss_ret (se_tup1 (se_tup (sa_cons (SE.sb se_str) (sa_cons (SE.sb se_int) sa_nil)))) (by decide)))
  (SSs.sub (Γ' := [some 0, some 0, some 0, none]) ss_nil rfl))
  (ss_cons (ss_if (st_eq (hu64 hr) (sb_var 2 rfl) (SE.sb se_str)) (ss_one (ss_ret (se_tup1 (se_tup (sa_cons (SE.sb se_str) (sa_cons (SE.sb (se_call (ok_comment_length T) (hr.mono (by decide)) rfl T.m_comment_length T.F_comment_length.kp T.b_comment_length (sa_cons (SE.sb (SB.se (sb_var 0 rfl))) (sa_cons (SE.sb (SB.se (sb_var 1 rfl))) sa_nil)))) sa_nil)))) (by decide)))
  (SSs.sub (Γ' := [some 0, some 0, some 0, none]) ss_nil rfl))
  (ss_cons (ss_if (st_in (hu65 hr) (sb_var 2 rfl) (SE.sb (se_glS T.c_LETTERS rfl))) (ss_one (ss_ret (se_tup1 (se_tup (sa_cons (SE.sb se_str) (sa_cons (SE.sb (se_call (ok_length_of T) (hr.mono (by decide)) rfl T.m_length_of T.F_length_of.kp T.b_length_of (sa_cons (SE.sb (SB.se (sb_var 0 rfl))) (sa_cons (SE.sb (SB.se (sb_var 1 rfl))) (sa_cons (SE.sb (se_add (SE.sb (se_glS T.c_LETTERS rfl)) (SE.sb (se_glS T.c_DIGITS rfl)))) sa_nil))))) sa_nil)))) (by decide)))
  (SSs.sub (Γ' := [some 0, some 0, some 0, none]) ss_nil rfl))
  (ss_cons (ss_if (st_in (hu65 hr) (sb_var 2 rfl) (SE.sb (se_glS T.c_DIGITS rfl))) (ss_one (ss_ret (se_tup1 (se_tup (sa_cons (SE.sb se_str) (sa_cons (SE.sb (se_call (ok_length_of T) (hr.mono (by decide)) rfl T.m_length_of T.F_length_of.kp T.b_length_of (sa_cons (SE.sb (SB.se (sb_var 0 rfl))) (sa_cons (SE.sb (SB.se (sb_var 1 rfl))) (sa_cons (SE.sb (se_glS T.c_DIGITS rfl)) sa_nil))))) sa_nil)))) (by decide)))
  (SSs.sub (Γ' := [some 0, some 0, some 0, none]) ss_nil rfl))
  (ss_cons (ss_for [some 0, some 0, some 0, none] PySem.PassesOwn.never rfl (si_glT T.g_SIGNS rfl) rfl (sg_name 3 sc.nd)
  (SSs.sub (Γ' := [some 0, some 0, some 0, none]) (ss_one (ss_if (st_truth (SE.sb (se_mS PySem.F.slot_str_startswith PySem.F.type_str_startswith mt_startswith3 (sm_SI (u := fun x y i => .bl (Txt.startswith3 x y i)) fun _ _ _ _ _ => .bl _) (sb_var 0 rfl) (sa_cons (sb_var 3 rfl) (sa_cons (sb_var 1 rfl) sa_nil))))) (ss_one (ss_ret (se_tup1 (se_tup (sa_cons (SE.sb se_str) (sa_cons (SE.sb (se_len rfl T.z_len (sb_var 3 rfl))) sa_nil)))) (by decide)))
  (SSs.sub (Γ' := [some 0, some 0, some 0, some 0]) ss_nil rfl))) rfl))
  (ss_one (ss_ret (se_tup1 (se_tup (sa_cons (SE.sb se_str) (sa_cons (SE.sb se_int) sa_nil)))) (by decide)))))))))
def L__law_draw_1 : SF :=
  (sSeq (sApp 4 (e2 pMod (eV 3) (eV 7)))
  (sSet 3 (e2 pDiv (eV 3) (eV 7))))
def L__law_draw_2 : SF :=
  (sSeq (sSet 5 (e2 pMod (e2 pAdd (e2 pAdd (e2 pMul (eV 5) (eC (.int 48271))) (eC (.int 11))) (eV 6)) (eC (.int 2147483647))))
  (sSeq (sSet 5 (e2 pMod (e2 pAdd (e2 pMul (eV 5) (eC (.int 69621))) (eC (.int 3))) (eC (.int 2147483647))))
  (sApp 4 (e2 pMod (e2 pDiv (eV 5) (eC (.int 7))) (e2 pIx (eV 2) (eV 6))))))
def B__law_draw : SF :=
  (sSeq (sSet 3 (eL F__law_cell (aC (eV 0) (aC (eV 1) aN))))
  (sSeq (sIf (tV (e2 pLt (eV 3) (eC (.int 0)))) (sSet 3 (e1 pNeg (eV 3)))
  sSkip)
  (sSeq (sSet 4 (eLst aN))
  (sSeq (sIf (tV (e2 pGe (eV 3) (e2 pPow (eC (.int 10)) (eC (.int 18))))) (sSeq (sSet 3 (e2 pSub (eV 3) (e2 pPow (eC (.int 10)) (eC (.int 18)))))
  (sSeq (sForE (aSeq (eV 2)) (gN 7) L__law_draw_1)
  (sRet (eV 4))))
  sSkip)
  (sSeq (sSet 5 (e2 pMod (e2 pAdd (e2 pAdd (eV 3) (eC (.int 1))) (e2 pMul (eC (.int 31)) (eV 1))) (eC (.int 2147483647))))
  (sSeq (sForE (aRng1 (aC (eL lenD (aC (eV 2) aN)) aN)) (gN 6) L__law_draw_2)
  (sRet (eV 4))))))))
def F__law_draw : List D → Option D := runF 1 3 8 B__law_draw
theorem sc__law_draw : FnScope ["script", "k", "sizes", "cell", "drawn", "mixed", "j", "size"] ["script", "k", "sizes"] (defScope (topS 15)) := ⟨rfl, rfl, rfl, by decide +kernel, rfl, by decide +kernel, by decide +kernel⟩
theorem ok__law_draw (T : Txt w P K mg) : FnOk P w K mg base CX0 2 T.a__law_draw T.d__law_draw ["script", "k", "sizes"] (Pure K 3 1 F__law_draw) := by
  have sc := sc__law_draw
  exact fn_pure (Γ' := []) T.F__law_draw sc__law_draw rfl fun cdv A outer s H E hr =>
    (ss_cons (ss_set 3 (se_call (ok__law_cell T) (hr.mono (by decide)) rfl T.m__law_cell T.F__law_cell.kp T.b__law_cell (sa_cons (SE.sb (SB.se (sb_var 0 rfl))) (sa_cons (SE.sb (SB.se (sb_var 1 rfl))) sa_nil))) sc.nd)
  (ss_cons (ss_if (st_lt (sb_var 3 rfl) (SE.sb se_int)) (SSs.sub (Γ' := [some 0, some 0, some 0, some 0, none, none, none, none]) (ss_one (ss_set 3 (se_neg (sb_var 3 rfl)) sc.nd)) rfl)
  (SSs.sub (Γ' := [some 0, some 0, some 0, some 0, none, none, none, none]) ss_nil rfl))
  (ss_cons (ss_set 4 (se_lst sa_nil) sc.nd)
  (ss_cons (ss_if (st_ge (sb_var 3 rfl) (SE.sb (se_pow (SE.sb se_int) (SE.sb se_int)))) (ss_cons (ss_set 3 (se_sub (sb_var 3 rfl) (SE.sb (se_pow (SE.sb se_int) (SE.sb se_int)))) sc.nd)
  (ss_cons (ss_for [some 0, some 0, some 0, some 0, some 1, none, none, none] PySem.PassesOwn.never rfl (si_seq (SB.se (sb_var 2 rfl))) rfl (sg_name 7 sc.nd)
  (SSs.sub (Γ' := [some 0, some 0, some 0, some 0, some 1, none, none, none]) (ss_cons (ss_append 4 (n := 0) rfl (se_mod (sb_var 3 rfl) (sb_var 7 rfl)) (by decide) (pv 4) rfl app_pe)
  (ss_one (ss_set 3 (se_div (sb_var 3 rfl) (sb_var 7 rfl)) sc.nd))) rfl))
  (ss_one (ss_ret (se_mv 4 rfl) (by decide)))))
  (SSs.sub (Γ' := [some 0, some 0, some 0, some 0, some 1, none, none, none]) ss_nil rfl))
  (ss_cons (ss_set 5 (se_mod (SE.sb (se_add (SE.sb (se_add (sb_var 3 rfl) (SE.sb se_int))) (SE.sb (se_mul (SE.sb se_int) (sb_var 1 rfl))))) (SE.sb se_int)) sc.nd)
  (ss_cons (ss_for [some 0, some 0, some 0, some 0, some 1, some 0, none, none] PySem.PassesOwn.never rfl (si_range1 rfl T.z_range (SE.sb (se_len rfl T.z_len (sb_var 2 rfl)))) rfl (sg_name 6 sc.nd)
  (SSs.sub (Γ' := [some 0, some 0, some 0, some 0, some 1, some 0, none, none]) (ss_cons (ss_set 5 (se_mod (SE.sb (se_add (SE.sb (se_add (SE.sb (se_mul (sb_var 5 rfl) (SE.sb se_int))) (SE.sb se_int))) (sb_var 6 rfl))) (SE.sb se_int)) sc.nd)
  (ss_cons (ss_set 5 (se_mod (SE.sb (se_add (SE.sb (se_mul (sb_var 5 rfl) (SE.sb se_int))) (SE.sb se_int))) (SE.sb se_int)) sc.nd)
  (ss_one (ss_append 4 (n := 0) rfl (se_mod (SE.sb (se_div (sb_var 5 rfl) (SE.sb se_int))) (SE.sb (se_ixA (sb_var 2 rfl) (sb_var 6 rfl)))) (by decide) (pv 4) rfl app_pe)))) rfl))
  (ss_one (ss_ret (se_mv 4 rfl) (by decide)))))))))
def B__law_one : SF :=
  (sSeq (sSet 2 (e2 pIx (eV 0) (eV 1)))
  (sSeq (sIf (tV (e2 pIn (eV 2) (eC (.str (Str.ofString " \t\n"))))) (sRet (eTup (aC (eC (.str (Str.ofString "blank"))) (aC (eV 2) aN))))
  sSkip)
  (sSeq (sIf (tV (e2 pEq (eV 2) (eC (.str (Str.ofString "#"))))) (sSeq (sSet 4 (eM (mSI fun x y i => .int (Txt.find3 x y i)) (eV 0) (aC (eC (.str (Str.ofString "\n"))) (aC (eV 1) aN))))
  (sSeq (sIf (tV (e2 pLt (eV 4) (eC (.int 0)))) (sSet 4 (eL lenD (aC (eV 0) aN)))
  sSkip)
  (sRet (eTup (aC (eC (.str (Str.ofString "blank"))) (aC (eSl pSlS (eV 0) (oS (eV 1)) (oS (eV 4))) aN))))))
  sSkip)
  (sSeq (sIf (tV (e2 pIn (eV 2) (eL F__law_letters aN))) (sSeq (sSet 5 (eSl pSlS (eV 0) (oS (eV 1)) (oS (eL F__law_end (aC (eV 0) (aC (eV 1) (aC (e2 pAdd (eL F__law_letters aN) (eC (.str (Str.ofString "0123456789")))) aN)))))))
  (sSeq (sIf (tV (e2 pLe (eL lenD (aC (eV 5) aN)) (eC (.int 20)))) (sRet (eTup (aC (eC (.str (Str.ofString "word"))) (aC (eV 5) aN))))
  sSkip)
  (sRet (eTup (aC (eC (.str (Str.ofString "bad"))) (aC (eV 5) aN))))))
  sSkip)
  (sSeq (sIf (tV (e2 pIn (eV 2) (eC (.str (Str.ofString "0123456789"))))) (sSeq (sSet 5 (eSl pSlS (eV 0) (oS (eV 1)) (oS (eL F__law_end (aC (eV 0) (aC (eV 1) (aC (eC (.str (Str.ofString "0123456789"))) aN)))))))
  (sSeq (sIf (tV (e2 pLe (eL lenD (aC (eV 5) aN)) (eC (.int 7)))) (sRet (eTup (aC (eC (.str (Str.ofString "number"))) (aC (eV 5) aN))))
  sSkip)
  (sRet (eTup (aC (eC (.str (Str.ofString "bad"))) (aC (eV 5) aN))))))
  sSkip)
  (sSeq (sSet 3 (eL F__law_sign (aC (eV 0) (aC (eV 1) aN))))
  (sSeq (sIf (tV (e2 pEq (eV 3) (eC (.str (Str.ofString ""))))) (sRet (eTup (aC (eC (.str (Str.ofString "bad"))) (aC (eV 2) aN))))
  sSkip)
  (sRet (eTup (aC (eC (.str (Str.ofString "sign"))) (aC (eV 3) aN)))))))))))
def F__law_one : List D → Option D := runF 1 2 6 B__law_one
theorem sc__law_one : FnScope ["text", "at", "char", "sign", "end", "word"] ["text", "at"] (defScope (topS 20)) := ⟨rfl, rfl, rfl, by decide +kernel, rfl, by decide +kernel, by decide +kernel⟩
theorem ok__law_one (T : Txt w P K mg) : FnOk P w K mg base CX0 2 T.a__law_one T.d__law_one ["text", "at"] (Pure K 2 1 F__law_one) := by
  have sc := sc__law_one
  exact fn_pure (Γ' := []) T.F__law_one sc__law_one rfl fun cdv A outer s H E hr =>
    (ss_cons (ss_set 2 (se_ixA (sb_var 0 rfl) (sb_var 1 rfl)) sc.nd)
  (ss_cons (ss_if (st_in (hu65 hr) (sb_var 2 rfl) (SE.sb se_str)) (ss_one (ss_ret (se_tup1 (se_tup (sa_cons (SE.sb se_str) (sa_cons (SE.sb (SB.se (sb_var 2 rfl))) sa_nil)))) (by decide)))
  (SSs.sub (Γ' := [some 0, some 0, some 0, none, none, none]) ss_nil rfl))
  (ss_cons (ss_if (st_eq (hu64 hr) (sb_var 2 rfl) (SE.sb se_str)) (ss_cons (ss_set 4 (se_mS PySem.F.slot_str_find PySem.F.type_str_find mt_find3 (sm_SI (u := fun x y i => .int (Txt.find3 x y i)) fun _ _ _ _ _ => .int _) (sb_var 0 rfl) (sa_cons (SE.sb se_str) (sa_cons (sb_var 1 rfl) sa_nil))) sc.nd)
  (ss_cons (ss_if (st_lt (sb_var 4 rfl) (SE.sb se_int)) (SSs.sub (Γ' := [some 0, some 0, some 0, none, some 0, none]) (ss_one (ss_set 4 (se_len rfl T.z_len (sb_var 0 rfl)) sc.nd)) rfl)
  (SSs.sub (Γ' := [some 0, some 0, some 0, none, some 0, none]) ss_nil rfl))
  (ss_one (ss_ret (se_tup1 (se_tup (sa_cons (SE.sb se_str) (sa_cons (SE.sb (se_slS (sb_var 0 rfl) (so_some (sb_var 1 rfl)) (so_some (sb_var 4 rfl)))) sa_nil)))) (by decide)))))
  (SSs.sub (Γ' := [some 0, some 0, some 0, none, none, none]) ss_nil rfl))
  (ss_cons (ss_if (st_in (hu65 hr) (sb_var 2 rfl) (SE.sb (se_call0 (ok__law_letters T) (hr.mono (by decide)) rfl T.m__law_letters T.F__law_letters.kp T.b__law_letters ))) (ss_cons (ss_set 5 (se_slS (sb_var 0 rfl) (so_some (sb_var 1 rfl)) (so_some (SE.sb (se_call (ok__law_end T) (hr.mono (by decide)) rfl T.m__law_end T.F__law_end.kp T.b__law_end (sa_cons (SE.sb (SB.se (sb_var 0 rfl))) (sa_cons (SE.sb (SB.se (sb_var 1 rfl))) (sa_cons (SE.sb (se_add (SE.sb (se_call0 (ok__law_letters T) (hr.mono (by decide)) rfl T.m__law_letters T.F__law_letters.kp T.b__law_letters )) (SE.sb se_str))) sa_nil))))))) sc.nd)
  (ss_cons (ss_if (st_le (SE.sb (se_len rfl T.z_len (sb_var 5 rfl))) (SE.sb se_int)) (ss_one (ss_ret (se_tup1 (se_tup (sa_cons (SE.sb se_str) (sa_cons (SE.sb (SB.se (sb_var 5 rfl))) sa_nil)))) (by decide)))
  (SSs.sub (Γ' := [some 0, some 0, some 0, none, none, some 0]) ss_nil rfl))
  (ss_one (ss_ret (se_tup1 (se_tup (sa_cons (SE.sb se_str) (sa_cons (SE.sb (SB.se (sb_var 5 rfl))) sa_nil)))) (by decide)))))
  (SSs.sub (Γ' := [some 0, some 0, some 0, none, none, none]) ss_nil rfl))
  (ss_cons (ss_if (st_in (hu65 hr) (sb_var 2 rfl) (SE.sb se_str)) (ss_cons (ss_set 5 (se_slS (sb_var 0 rfl) (so_some (sb_var 1 rfl)) (so_some (SE.sb (se_call (ok__law_end T) (hr.mono (by decide)) rfl T.m__law_end T.F__law_end.kp T.b__law_end (sa_cons (SE.sb (SB.se (sb_var 0 rfl))) (sa_cons (SE.sb (SB.se (sb_var 1 rfl))) (sa_cons (SE.sb se_str) sa_nil))))))) sc.nd)
  (ss_cons (ss_if (st_le (SE.sb (se_len rfl T.z_len (sb_var 5 rfl))) (SE.sb se_int)) (ss_one (ss_ret (se_tup1 (se_tup (sa_cons (SE.sb se_str) (sa_cons (SE.sb (SB.se (sb_var 5 rfl))) sa_nil)))) (by decide)))
  (SSs.sub (Γ' := [some 0, some 0, some 0, none, none, some 0]) ss_nil rfl))
  (ss_one (ss_ret (se_tup1 (se_tup (sa_cons (SE.sb se_str) (sa_cons (SE.sb (SB.se (sb_var 5 rfl))) sa_nil)))) (by decide)))))
  (SSs.sub (Γ' := [some 0, some 0, some 0, none, none, none]) ss_nil rfl))
  (ss_cons (ss_set 3 (se_call (ok__law_sign T) (hr.mono (by decide)) rfl T.m__law_sign T.F__law_sign.kp T.b__law_sign (sa_cons (SE.sb (SB.se (sb_var 0 rfl))) (sa_cons (SE.sb (SB.se (sb_var 1 rfl))) sa_nil))) sc.nd)
  (ss_cons (ss_if (st_eq (hu64 hr) (sb_var 3 rfl) (SE.sb se_str)) (ss_one (ss_ret (se_tup1 (se_tup (sa_cons (SE.sb se_str) (sa_cons (SE.sb (SB.se (sb_var 2 rfl))) sa_nil)))) (by decide)))
  (SSs.sub (Γ' := [some 0, some 0, some 0, some 0, none, none]) ss_nil rfl))
  (ss_one (ss_ret (se_tup1 (se_tup (sa_cons (SE.sb se_str) (sa_cons (SE.sb (SB.se (sb_var 3 rfl))) sa_nil)))) (by decide))))))))))
def L__law_words_1 : SF :=
  (sIf (tV (e2 pLt (eV 2) (eL lenD (aC (eV 0) aN)))) (sSeq (sAsg (gTpl (gMore (gN 6) (gMore (gN 7) gEmp)) 2) (eL F__law_one (aC (eV 0) (aC (eV 2) aN))))
  (sSeq (sAsg (gTpl (gMore (gN 4) (gMore (gN 5) gEmp)) 2) (eL F__law_place (aC (eV 0) (aC (eV 2) aN))))
  (sSeq (sIf (tV (e2 pEq (eV 6) (eC (.str (Str.ofString "bad"))))) (sRet (eTup (aC (eV 4) (aC (eV 5) aN))))
  sSkip)
  (sSeq (sIf (tV (e2 pNe (eV 6) (eC (.str (Str.ofString "blank"))))) (sApp 1 (eTup (aC (eV 6) (aC (eV 7) (aC (eV 4) (aC (eV 5) aN))))))
  sSkip)
  (sSet 2 (e2 pAdd (eV 2) (eL lenD (aC (eV 7) aN))))))))
  sSkip)
def B__law_words : SF :=
  (sSeq (sSet 1 (eLst aN))
  (sSeq (sSet 2 (eC (.int 0)))
  (sSeq (sForE (aRng1 (aC (e2 pAdd (eL lenD (aC (eV 0) aN)) (eC (.int 1))) aN)) (gN 3) L__law_words_1)
  (sSeq (sAsg (gTpl (gMore (gN 4) (gMore (gN 5) gEmp)) 2) (eL F__law_place (aC (eV 0) (aC (eL lenD (aC (eV 0) aN)) aN))))
  (sRet (e2 pCat (eV 1) (eLst (aC (eTup (aC (eC (.str (Str.ofString "end"))) (aC (eC (.str (Str.ofString ""))) (aC (eV 4) (aC (eV 5) aN))))) aN))))))))
def F__law_words : List D → Option D := runF 1 1 8 B__law_words
theorem sc__law_words : FnScope ["text", "found", "at", "k", "line", "column", "kind", "word"] ["text"] (defScope (topS 21)) := ⟨rfl, rfl, rfl, by decide +kernel, rfl, by decide +kernel, by decide +kernel⟩
theorem ok__law_words (T : Txt w P K mg) : FnOk P w K mg base CX0 3 T.a__law_words T.d__law_words ["text"] (Pure K 1 1 F__law_words) := by
  have sc := sc__law_words
  exact fn_pure (Γ' := []) T.F__law_words sc__law_words rfl fun cdv A outer s H E hr =>
    (ss_cons (ss_set 1 (se_lst sa_nil) sc.nd)
  (ss_cons (ss_set 2 se_int sc.nd)
  (ss_cons (ss_for [some 0, some 1, some 0, none, none, none, none, none] PySem.PassesOwn.never rfl (si_range1 rfl T.z_range (SE.sb (se_add (SE.sb (se_len rfl T.z_len (sb_var 0 rfl))) (SE.sb se_int)))) rfl (sg_name 3 sc.nd)
  (SSs.sub (Γ' := [some 0, some 1, some 0, none, none, none, none, none]) (ss_one (ss_if (st_lt (sb_var 2 rfl) (SE.sb (se_len rfl T.z_len (sb_var 0 rfl)))) (SSs.sub (Γ' := [some 0, some 1, some 0, some 0, none, none, none, none]) (ss_cons (ss_asg (SE.sub (m := 0) (se_call (ok__law_one T) (hr.mono (by decide)) rfl T.m__law_one T.F__law_one.kp T.b__law_one (sa_cons (SE.sb (SB.se (sb_var 0 rfl))) (sa_cons (SE.sb (SB.se (sb_var 2 rfl))) sa_nil))) (leC_refl _) (Nat.zero_le _)) (sg_tup rfl (sgs_cons (sg_name 6 sc.nd) (sgs_cons (sg_name 7 sc.nd) sgs_nil))))
  (ss_cons (ss_asg (SE.sub (m := 0) (se_call (ok__law_place T) (hr.mono (by decide)) rfl T.m__law_place T.F__law_place.kp T.b__law_place (sa_cons (SE.sb (SB.se (sb_var 0 rfl))) (sa_cons (SE.sb (SB.se (sb_var 2 rfl))) sa_nil))) (leC_refl _) (Nat.zero_le _)) (sg_tup rfl (sgs_cons (sg_name 4 sc.nd) (sgs_cons (sg_name 5 sc.nd) sgs_nil))))
  (ss_cons (ss_if (st_eq (hu64 hr) (sb_var 6 rfl) (SE.sb se_str)) (ss_one (ss_ret (se_tup1 (se_tup (sa_cons (SE.sb (SB.se (sb_var 4 rfl))) (sa_cons (SE.sb (SB.se (sb_var 5 rfl))) sa_nil)))) (by decide)))
  (SSs.sub (Γ' := [some 0, some 1, some 0, some 0, some 0, some 0, some 0, some 0]) ss_nil rfl))
  (ss_cons (ss_if (st_ne (hu64 hr) (sb_var 6 rfl) (SE.sb se_str)) (SSs.sub (Γ' := [some 0, some 1, some 0, some 0, some 0, some 0, some 0, some 0]) (ss_one (ss_append 1 (n := 0) rfl (se_tup (sa_cons (SE.sb (SB.se (sb_var 6 rfl))) (sa_cons (SE.sb (SB.se (sb_var 7 rfl))) (sa_cons (SE.sb (SB.se (sb_var 4 rfl))) (sa_cons (SE.sb (SB.se (sb_var 5 rfl))) sa_nil))))) (by decide) (pv 1) rfl app_pe)) rfl)
  (SSs.sub (Γ' := [some 0, some 1, some 0, some 0, some 0, some 0, some 0, some 0]) ss_nil rfl))
  (ss_one (ss_set 2 (se_add (sb_var 2 rfl) (SE.sb (se_len rfl T.z_len (sb_var 7 rfl)))) sc.nd)))))) rfl)
  (SSs.sub (Γ' := [some 0, some 1, some 0, some 0, none, none, none, none]) ss_nil rfl))) rfl))
  (ss_cons (ss_asg (SE.sub (m := 0) (se_call (ok__law_place T) (hr.mono (by decide)) rfl T.m__law_place T.F__law_place.kp T.b__law_place (sa_cons (SE.sb (SB.se (sb_var 0 rfl))) (sa_cons (SE.sb (se_len rfl T.z_len (sb_var 0 rfl))) sa_nil))) (leC_refl _) (Nat.zero_le _)) (sg_tup rfl (sgs_cons (sg_name 4 sc.nd) (sgs_cons (sg_name 5 sc.nd) sgs_nil))))
  (ss_one (ss_ret (se_cat (sb_var 1 rfl) (SE.sb (se_lst (sa_cons (SE.sb (se_tup (sa_cons (SE.sb se_str) (sa_cons (SE.sb se_str) (sa_cons (SE.sb (SB.se (sb_var 4 rfl))) (sa_cons (SE.sb (SB.se (sb_var 5 rfl))) sa_nil)))))) sa_nil)))) (by decide)))))))
def L__law_piece_1 : SF :=
  (sIf (tAndF (tV (e2 pGt (eV 6) (eC (.int 0)))) (tV (e2 pEq (e2 pMod (e2 pIx (eV 3) (e2 pAdd (eC (.int 2)) (e2 pMod (eV 6) (eC (.int 4))))) (eC (.int 5))) (eC (.int 1))))) (sSet 5 (e2 pAdd (eV 5) (eL strD (aC (e2 pMod (e2 pAdd (e2 pIx (eV 3) (eC (.int 6))) (eV 6)) (eC (.int 10))) aN))))
  (sSet 5 (e2 pAdd (eV 5) (e2 pIx (eL F__law_letters aN) (e2 pMod (e2 pAdd (e2 pIx (eV 3) (e2 pAdd (eC (.int 2)) (e2 pMod (eV 6) (eC (.int 4))))) (e2 pMul (e2 pDiv (eV 6) (eC (.int 4))) (e2 pIx (eV 3) (eC (.int 1))))) (eC (.int 53)))))))
def L__law_piece_2 : SF :=
  (sSet 7 (e2 pAdd (eV 7) (eL strD (aC (e2 pMod (e2 pAdd (e2 pIx (eV 3) (eC (.int 6))) (e2 pMul (eV 6) (e2 pIx (eV 3) (eC (.int 7))))) (eC (.int 10))) aN))))
def B__law_piece : SF :=
  (sSeq (sSet 3 (eL F__law_draw (aC (eV 0) (aC (eV 1) (aC (eLst (aC (eC (.int 12)) (aC (eC (.int 24)) (aC (eC (.int 53)) (aC (eC (.int 53)) (aC (eC (.int 53)) (aC (eC (.int 53)) (aC (eC (.int 10)) (aC (eC (.int 22)) (aC (eC (.int 13)) (aC (eC (.int 9)) aN))))))))))) aN)))))
  (sSeq (sSet 4 (e2 pIx (eV 3) (eC (.int 0))))
  (sSeq (sIf (tV (e2 pLt (eV 4) (eC (.int 3)))) (sSeq (sSet 5 (eC (.str (Str.ofString ""))))
  (sSeq (sForE (aRng1 (aC (e2 pAdd (eC (.int 1)) (e2 pMod (e2 pIx (eV 3) (eC (.int 1))) (e2 pAdd (eC (.int 6)) (e2 pMul (eC (.int 19)) (e2 pMod (e2 pIx (eV 3) (eC (.int 8))) (eC (.int 2))))))) aN)) (gN 6) L__law_piece_1)
  (sRet (eV 5))))
  sSkip)
  (sSeq (sIf (tV (e2 pLt (eV 4) (eC (.int 5)))) (sSeq (sSet 7 (eC (.str (Str.ofString ""))))
  (sSeq (sForE (aRng1 (aC (e2 pAdd (eC (.int 1)) (e2 pMod (e2 pIx (eV 3) (eC (.int 9))) (e2 pAdd (eC (.int 7)) (e2 pMod (e2 pIx (eV 3) (eC (.int 8))) (eC (.int 3)))))) aN)) (gN 6) L__law_piece_2)
  (sRet (eV 7))))
  sSkip)
  (sSeq (sIf (tV (e2 pLt (eV 4) (eC (.int 8)))) (sSeq (sSet 8 (eLst (aC (eC (.str (Str.ofString ":="))) (aC (eC (.str (Str.ofString ".."))) (aC (eC (.str (Str.ofString "<="))) (aC (eC (.str (Str.ofString ">="))) (aC (eC (.str (Str.ofString "!="))) (aC (eC (.str (Str.ofString "+-"))) (aC (eC (.str (Str.ofString "{"))) (aC (eC (.str (Str.ofString "}"))) (aC (eC (.str (Str.ofString "("))) (aC (eC (.str (Str.ofString ")"))) (aC (eC (.str (Str.ofString "["))) (aC (eC (.str (Str.ofString "]"))) (aC (eC (.str (Str.ofString ";"))) (aC (eC (.str (Str.ofString ":"))) (aC (eC (.str (Str.ofString ","))) (aC (eC (.str (Str.ofString "."))) (aC (eC (.str (Str.ofString "<"))) (aC (eC (.str (Str.ofString ">"))) (aC (eC (.str (Str.ofString "="))) (aC (eC (.str (Str.ofString "+"))) (aC (eC (.str (Str.ofString "-"))) (aC (eC (.str (Str.ofString "*"))) aN))))))))))))))))))))))))
  (sSeq (sIf (tV (e2 pEq (eV 4) (eC (.int 7)))) (sRet (e2 pAdd (e2 pAdd (e2 pIx (eV 8) (e2 pIx (eV 3) (eC (.int 7)))) (e2 pIx (eV 8) (e2 pMod (e2 pIx (eV 3) (eC (.int 1))) (eC (.int 22))))) (e2 pIx (eV 8) (e2 pMod (e2 pIx (eV 3) (eC (.int 2))) (eC (.int 22))))))
  sSkip)
  (sRet (e2 pIx (eV 8) (e2 pIx (eV 3) (eC (.int 7)))))))
  sSkip)
  (sSeq (sIf (tV (e2 pEq (eV 4) (eC (.int 8)))) (sRet (eC (.str (Str.ofString " "))))
  sSkip)
  (sSeq (sIf (tV (e2 pEq (eV 4) (eC (.int 9)))) (sRet (e2 pIx (eLst (aC (eC (.str (Str.ofString "\n"))) (aC (eC (.str (Str.ofString "\t"))) (aC (eC (.str (Str.ofString "  "))) (aC (eC (.str (Str.ofString "\n\n"))) aN))))) (e2 pMod (e2 pIx (eV 3) (eC (.int 1))) (eC (.int 4)))))
  sSkip)
  (sSeq (sIf (tV (e2 pEq (eV 4) (eC (.int 10)))) (sRet (e2 pIx (eLst (aC (eC (.str (Str.ofString "#"))) (aC (eC (.str (Str.ofString "# a\n"))) (aC (eC (.str (Str.ofString "#b := 1"))) (aC (eC (.str (Str.ofString "#\n"))) aN))))) (e2 pMod (e2 pIx (eV 3) (eC (.int 1))) (eC (.int 4)))))
  sSkip)
  (sSeq (sIf (tT (eV 2)) (sRet (e2 pIx (eC (.str (Str.ofString "!&?@$'~^|/\"\\`"))) (e2 pIx (eV 3) (eC (.int 8)))))
  sSkip)
  (sRet (eC (.str (Str.ofString ";")))))))))))))
def F__law_piece : List D → Option D := runF 0 3 9 B__law_piece
theorem sc__law_piece : FnScope ["script", "k", "odd", "digits", "kind", "word", "j", "number", "signs"] ["script", "k", "odd"] (defScope (topS 22)) := ⟨rfl, rfl, rfl, by decide +kernel, rfl, by decide +kernel, by decide +kernel⟩
theorem ok__law_piece (T : Txt w P K mg) : FnOk P w K mg base CX0 3 T.a__law_piece T.d__law_piece ["script", "k", "odd"] (Pure K 3 0 F__law_piece) := by
  have sc := sc__law_piece
  exact fn_pure (Γ' := []) T.F__law_piece sc__law_piece rfl fun cdv A outer s H E hr =>
    (ss_cons (ss_set 3 (se_call (ok__law_draw T) (hr.mono (by decide)) rfl T.m__law_draw T.F__law_draw.kp T.b__law_draw (sa_cons (SE.sb (SB.se (sb_var 0 rfl))) (sa_cons (SE.sb (SB.se (sb_var 1 rfl))) (sa_cons (SE.sb (SE.sub (m := 0) (se_lst (sa_cons (SE.sb se_int) (sa_cons (SE.sb se_int) (sa_cons (SE.sb se_int) (sa_cons (SE.sb se_int) (sa_cons (SE.sb se_int) (sa_cons (SE.sb se_int) (sa_cons (SE.sb se_int) (sa_cons (SE.sb se_int) (sa_cons (SE.sb se_int) (sa_cons (SE.sb se_int) sa_nil))))))))))) (leC_refl _) (Nat.zero_le _))) sa_nil)))) sc.nd)
  (ss_cons (ss_set 4 (se_ixA (sb_var 3 rfl) (SE.sb se_int)) sc.nd)
  (ss_cons (ss_if (st_lt (sb_var 4 rfl) (SE.sb se_int)) (ss_cons (ss_set 5 se_str sc.nd)
  (ss_cons (ss_for [some 0, some 0, some 0, some 1, some 0, some 0, none, none, none] PySem.PassesOwn.never rfl (si_range1 rfl T.z_range (SE.sb (se_add (SE.sb se_int) (SE.sb (se_mod (SE.sb (se_ixA (sb_var 3 rfl) (SE.sb se_int))) (SE.sb (se_add (SE.sb se_int) (SE.sb (se_mul (SE.sb se_int) (SE.sb (se_mod (SE.sb (se_ixA (sb_var 3 rfl) (SE.sb se_int))) (SE.sb se_int)))))))))))) rfl (sg_name 6 sc.nd)
  (SSs.sub (Γ' := [some 0, some 0, some 0, some 1, some 0, some 0, none, none, none]) (ss_one (ss_if (STw.ts (sw_and (st_gt (sb_var 6 rfl) (SE.sb se_int)) (sw_and1 (st_eq (hu64 hr) (SE.sb (se_mod (SE.sb (se_ixA (sb_var 3 rfl) (SE.sb (se_add (SE.sb se_int) (SE.sb (se_mod (sb_var 6 rfl) (SE.sb se_int))))))) (SE.sb se_int))) (SE.sb se_int))))) (SSs.sub (Γ' := [some 0, some 0, some 0, some 1, some 0, some 0, some 0, none, none]) (ss_one (ss_set 5 (se_add (sb_var 5 rfl) (SE.sb (se_strOf rfl T.z_str (SE.sb (se_mod (SE.sb (se_add (SE.sb (se_ixA (sb_var 3 rfl) (SE.sb se_int))) (sb_var 6 rfl))) (SE.sb se_int)))))) sc.nd)) rfl)
  (SSs.sub (Γ' := [some 0, some 0, some 0, some 1, some 0, some 0, some 0, none, none]) (ss_one (ss_set 5 (se_add (sb_var 5 rfl) (SE.sb (se_ixA (SE.sb (se_call0 (ok__law_letters T) (hr.mono (by decide)) rfl T.m__law_letters T.F__law_letters.kp T.b__law_letters )) (SE.sb (se_mod (SE.sb (se_add (SE.sb (se_ixA (sb_var 3 rfl) (SE.sb (se_add (SE.sb se_int) (SE.sb (se_mod (sb_var 6 rfl) (SE.sb se_int))))))) (SE.sb (se_mul (SE.sb (se_div (sb_var 6 rfl) (SE.sb se_int))) (SE.sb (se_ixA (sb_var 3 rfl) (SE.sb se_int))))))) (SE.sb se_int)))))) sc.nd)) rfl))) rfl))
  (ss_one (ss_ret (SB.se (sb_var 5 rfl)) (by decide)))))
  (SSs.sub (Γ' := [some 0, some 0, some 0, some 1, some 0, none, none, none, none]) ss_nil rfl))
  (ss_cons (ss_if (st_lt (sb_var 4 rfl) (SE.sb se_int)) (ss_cons (ss_set 7 se_str sc.nd)
  (ss_cons (ss_for [some 0, some 0, some 0, some 1, some 0, none, none, some 0, none] PySem.PassesOwn.never rfl (si_range1 rfl T.z_range (SE.sb (se_add (SE.sb se_int) (SE.sb (se_mod (SE.sb (se_ixA (sb_var 3 rfl) (SE.sb se_int))) (SE.sb (se_add (SE.sb se_int) (SE.sb (se_mod (SE.sb (se_ixA (sb_var 3 rfl) (SE.sb se_int))) (SE.sb se_int)))))))))) rfl (sg_name 6 sc.nd)
  (SSs.sub (Γ' := [some 0, some 0, some 0, some 1, some 0, none, none, some 0, none]) (ss_one (ss_set 7 (se_add (sb_var 7 rfl) (SE.sb (se_strOf rfl T.z_str (SE.sb (se_mod (SE.sb (se_add (SE.sb (se_ixA (sb_var 3 rfl) (SE.sb se_int))) (SE.sb (se_mul (sb_var 6 rfl) (SE.sb (se_ixA (sb_var 3 rfl) (SE.sb se_int))))))) (SE.sb se_int)))))) sc.nd)) rfl))
  (ss_one (ss_ret (SB.se (sb_var 7 rfl)) (by decide)))))
  (SSs.sub (Γ' := [some 0, some 0, some 0, some 1, some 0, none, none, none, none]) ss_nil rfl))
  (ss_cons (ss_if (st_lt (sb_var 4 rfl) (SE.sb se_int)) (ss_cons (ss_set 8 (se_lst (sa_cons (SE.sb se_str) (sa_cons (SE.sb se_str) (sa_cons (SE.sb se_str) (sa_cons (SE.sb se_str) (sa_cons (SE.sb se_str) (sa_cons (SE.sb se_str) (sa_cons (SE.sb se_str) (sa_cons (SE.sb se_str) (sa_cons (SE.sb se_str) (sa_cons (SE.sb se_str) (sa_cons (SE.sb se_str) (sa_cons (SE.sb se_str) (sa_cons (SE.sb se_str) (sa_cons (SE.sb se_str) (sa_cons (SE.sb se_str) (sa_cons (SE.sb se_str) (sa_cons (SE.sb se_str) (sa_cons (SE.sb se_str) (sa_cons (SE.sb se_str) (sa_cons (SE.sb se_str) (sa_cons (SE.sb se_str) (sa_cons (SE.sb se_str) sa_nil))))))))))))))))))))))) sc.nd)
  (ss_cons (ss_if (st_eq (hu64 hr) (sb_var 4 rfl) (SE.sb se_int)) (ss_one (ss_ret (se_add (SE.sb (se_add (SE.sb (se_ixA (sb_var 8 rfl) (SE.sb (se_ixA (sb_var 3 rfl) (SE.sb se_int))))) (SE.sb (se_ixA (sb_var 8 rfl) (SE.sb (se_mod (SE.sb (se_ixA (sb_var 3 rfl) (SE.sb se_int))) (SE.sb se_int))))))) (SE.sb (se_ixA (sb_var 8 rfl) (SE.sb (se_mod (SE.sb (se_ixA (sb_var 3 rfl) (SE.sb se_int))) (SE.sb se_int)))))) (by decide)))
  (SSs.sub (Γ' := [some 0, some 0, some 0, some 1, some 0, none, none, none, some 1]) ss_nil rfl))
  (ss_one (ss_ret (se_ixA (sb_var 8 rfl) (SE.sb (se_ixA (sb_var 3 rfl) (SE.sb se_int)))) (by decide)))))
  (SSs.sub (Γ' := [some 0, some 0, some 0, some 1, some 0, none, none, none, none]) ss_nil rfl))
  (ss_cons (ss_if (st_eq (hu64 hr) (sb_var 4 rfl) (SE.sb se_int)) (ss_one (ss_ret se_str (by decide)))
  (SSs.sub (Γ' := [some 0, some 0, some 0, some 1, some 0, none, none, none, none]) ss_nil rfl))
  (ss_cons (ss_if (st_eq (hu64 hr) (sb_var 4 rfl) (SE.sb se_int)) (ss_one (ss_ret (se_ixA (SE.sb (se_lst (sa_cons (SE.sb se_str) (sa_cons (SE.sb se_str) (sa_cons (SE.sb se_str) (sa_cons (SE.sb se_str) sa_nil)))))) (SE.sb (se_mod (SE.sb (se_ixA (sb_var 3 rfl) (SE.sb se_int))) (SE.sb se_int)))) (by decide)))
  (SSs.sub (Γ' := [some 0, some 0, some 0, some 1, some 0, none, none, none, none]) ss_nil rfl))
  (ss_cons (ss_if (st_eq (hu64 hr) (sb_var 4 rfl) (SE.sb se_int)) (ss_one (ss_ret (se_ixA (SE.sb (se_lst (sa_cons (SE.sb se_str) (sa_cons (SE.sb se_str) (sa_cons (SE.sb se_str) (sa_cons (SE.sb se_str) sa_nil)))))) (SE.sb (se_mod (SE.sb (se_ixA (sb_var 3 rfl) (SE.sb se_int))) (SE.sb se_int)))) (by decide)))
  (SSs.sub (Γ' := [some 0, some 0, some 0, some 1, some 0, none, none, none, none]) ss_nil rfl))
  (ss_cons (ss_if (st_truth (sb_var 2 rfl)) (ss_one (ss_ret (se_ixA (SE.sb se_str) (SE.sb (se_ixA (sb_var 3 rfl) (SE.sb se_int)))) (by decide)))
  (SSs.sub (Γ' := [some 0, some 0, some 0, some 1, some 0, none, none, none, none]) ss_nil rfl))
  (ss_one (ss_ret se_str (by decide))))))))))))
def L_words_of_1 : SF :=
  (sSeq (sAsg (gTpl (gMore (gN 6) (gMore (gN 7) gEmp)) 2) (eL F_find_piece (aC (eV 0) (aC (eV 2) aN))))
  (sSeq (sIf (tOrF (tV (e2 pEq (eV 6) (eC (.str (Str.ofString "unknown"))))) (tV (e2 pGt (eV 7) (eGetG k_LONGEST (eV 6) (eV 7))))) (sRaise (eSe "SourceError" (aC (eV 3) (aC (eV 4) (aC (eC (.str (Str.ofString "unknown character"))) aN)))))
  sSkip)
  (sSeq (sSet 5 (eSl pSlS (eV 0) (oS (eV 2)) (oS (e2 pAdd (eV 2) (eV 7)))))
  (sSeq (sIf (tV (e2 pNe (eV 6) (eC (.str (Str.ofString "blank"))))) (sApp 1 (eTup (aC (eV 6) (aC (eV 5) (aC (eV 3) (aC (eV 4) aN))))))
  sSkip)
  (sSeq (sSet 2 (e2 (iOp0 fun a b => .int (a + b)) (eV 2) (eV 7)))
  (sSeq (sSet 4 (e2 (iOp0 fun a b => .int (a + b)) (eV 4) (eV 7)))
  (sIf (tV (e2 pEq (eV 5) (eC (.str (Str.ofString "\n"))))) (sSeq (sSet 3 (e2 (iOp0 fun a b => .int (a + b)) (eV 3) (eC (.int 1))))
  (sSet 4 (eC (.int 1))))
  sSkip)))))))
def B_words_of : SF :=
  (sSeq (sSet 1 (eLst aN))
  (sSeq (sAsg (gTpl (gMore (gN 2) (gMore (gN 3) (gMore (gN 4) gEmp))) 3) (eTup (aC (eC (.int 0)) (aC (eC (.int 1)) (aC (eC (.int 1)) aN)))))
  (sSeq (sWhile (tV (e2 pLt (eV 2) (eL lenD (aC (eV 0) aN)))) L_words_of_1)
  (sSeq (sApp 1 (eTup (aC (eC (.str (Str.ofString "end"))) (aC (eC (.str (Str.ofString ""))) (aC (eV 3) (aC (eV 4) aN))))))
  (sRet (eV 1))))))
def F_words_of : List D → Option D := runF 1 1 8 B_words_of
theorem sc_words_of : FnScope ["text", "words", "place", "line", "column", "piece", "kind", "size"] ["text"] (defScope (topS 9)) := ⟨rfl, rfl, rfl, by decide +kernel, rfl, by decide +kernel, by decide +kernel⟩
theorem ok_words_of (T : Txt w P K mg) : FnOk P w K mg base (L2.CX P w) 4 T.a_words_of T.d_words_of ["text"] (PureX K 1 1 F_words_of) := by
  have sc := sc_words_of
  exact fn_pureX (Γ' := []) T.F_words_of sc_words_of rfl fun cdv A outer s H E hr =>
    (ss_cons (ss_set 1 (se_lst sa_nil) sc.nd)
  (ss_cons (ss_asg (se_tup (sa_cons (SE.sb se_int) (sa_cons (SE.sb se_int) (sa_cons (SE.sb se_int) sa_nil)))) (sg_tup rfl (sgs_cons (sg_name 2 sc.nd) (sgs_cons (sg_name 3 sc.nd) (sgs_cons (sg_name 4 sc.nd) sgs_nil)))))
  (ss_cons (ss_while (Γ' := [some 0, some 1, some 0, some 0, some 0, none, none, none]) [some 0, some 1, some 0, some 0, some 0, none, none, none] (passes_of rfl) rfl (st_lt (sb_var 2 rfl) (SE.sb (se_len rfl T.z_len (sb_var 0 rfl))))
  (SSs.sub (Γ' := [some 0, some 1, some 0, some 0, some 0, none, none, none]) (ss_cons (ss_asg (SE.sub (m := 0) (se_call (ok_find_piece T) (hr.mono (by decide)) rfl T.m_find_piece T.F_find_piece.kp T.b_find_piece (sa_cons (SE.sb (SB.se (sb_var 0 rfl))) (sa_cons (SE.sb (SB.se (sb_var 2 rfl))) sa_nil))) (leC_refl _) (Nat.zero_le _)) (sg_tup rfl (sgs_cons (sg_name 6 sc.nd) (sgs_cons (sg_name 7 sc.nd) sgs_nil))))
  (ss_cons (ss_if (STw.ts (sw_or (st_eq (hu64 hr) (sb_var 6 rfl) (SE.sb se_str)) (sw_or1 (st_gt (sb_var 7 rfl) (SE.sb (se_getG T.g_LONGEST rfl (sb_var 6 rfl) (SB.se (sb_var 7 rfl)))))))) (ss_one (ss_raiseSe T.se rfl (takes_of rfl rfl rfl rfl) (hr.mono (by decide)) rfl (sa_cons (SE.sb (SB.se (sb_var 3 rfl))) (sa_cons (SE.sb (SB.se (sb_var 4 rfl))) (sa_cons (SE.sb se_str) sa_nil)))))
  (SSs.sub (Γ' := [some 0, some 1, some 0, some 0, some 0, none, some 0, some 0]) ss_nil rfl))
  (ss_cons (ss_set 5 (se_slS (sb_var 0 rfl) (so_some (sb_var 2 rfl)) (so_some (SE.sb (se_add (sb_var 2 rfl) (sb_var 7 rfl))))) sc.nd)
  (ss_cons (ss_if (st_ne (hu64 hr) (sb_var 6 rfl) (SE.sb se_str)) (SSs.sub (Γ' := [some 0, some 1, some 0, some 0, some 0, some 0, some 0, some 0]) (ss_one (ss_append 1 (n := 0) rfl (se_tup (sa_cons (SE.sb (SB.se (sb_var 6 rfl))) (sa_cons (SE.sb (SB.se (sb_var 5 rfl))) (sa_cons (SE.sb (SB.se (sb_var 3 rfl))) (sa_cons (SE.sb (SB.se (sb_var 4 rfl))) sa_nil))))) (by decide) (pv 1) rfl app_pe)) rfl)
  (SSs.sub (Γ' := [some 0, some 1, some 0, some 0, some 0, some 0, some 0, some 0]) ss_nil rfl))
  (ss_cons (ss_aug ip_add sc.nd rfl (SB.se (sb_var 7 rfl)))
  (ss_cons (ss_aug ip_add sc.nd rfl (SB.se (sb_var 7 rfl)))
  (ss_one (ss_if (st_eq (hu64 hr) (sb_var 5 rfl) (SE.sb se_str)) (SSs.sub (Γ' := [some 0, some 1, some 0, some 0, some 0, some 0, some 0, some 0]) (ss_cons (ss_aug ip_add sc.nd rfl se_int)
  (ss_one (ss_set 4 se_int sc.nd))) rfl)
  (SSs.sub (Γ' := [some 0, some 1, some 0, some 0, some 0, some 0, some 0, some 0]) ss_nil rfl))))))))) rfl) rfl)
  (ss_cons (ss_append 1 (n := 0) rfl (se_tup (sa_cons (SE.sb se_str) (sa_cons (SE.sb se_str) (sa_cons (SE.sb (SB.se (sb_var 3 rfl))) (sa_cons (SE.sb (SB.se (sb_var 4 rfl))) sa_nil))))) (by decide) (pv 1) rfl app_pe)
  (ss_one (ss_ret (se_mv 1 rfl) (Nat.le_of_ble_eq_true rfl)))))))
def B__law_asked : SF :=
  (sTryMany 1 (sRet (eL F_words_of (aC (eV 0) aN)))
  [(pCls [("SourceError", true)], (sIfR (tOrF (tNotF (tV (eIsX 1 "SourceError" true))) (tOrF (tNotF (tV (eIsX 1 "SourceError" true))) (tV (e2 pNe (eXfG 1 "SourceError" "what") (eC (.str (Str.ofString "unknown character"))))))) (sRet (eC .none))
  (sRet (eTup (aC (eXfG 1 "SourceError" "line") (aC (eXfG 1 "SourceError" "column") aN))))))])
def F__law_asked : List D → Option D := runN 1 1 2 B__law_asked
theorem sc__law_asked : FnScope ["text", "e"] ["text"] (defScope (topS 23)) := ⟨rfl, rfl, rfl, by decide +kernel, rfl, by decide +kernel, by decide +kernel⟩
theorem ok__law_asked (T : Txt w P K mg) : FnOk P w K mg base CX0 5 T.a__law_asked T.d__law_asked ["text"] (Pure K 1 1 F__law_asked) := by
  have sc := sc__law_asked
  exact fn_pureN T.F__law_asked sc__law_asked rfl fun cdv A outer s H E hr =>
    (ss_one (ss_try_many (Γ' := [some 0, none]) 1 rfl rfl sc.nd takes0 (fun W pn xe tk1 _ => (sb_ret (sex_call (ok_words_of T) (hr.mono (by decide)) rfl T.m_words_of T.F_words_of.kp T.b_words_of tk1 (sa_cons (SE.sb (SB.se (sb_var 0 rfl))) sa_nil)) (Nat.le_of_ble_eq_true rfl))) (.cons ⟨rfl, by decide, .inl T.se.m⟩ (hp_cons T.se.hns T.xe_SourceError_SourceError hp_nil) (fun a oe cls d pn hz hf => (sue_ifR (STwe.ts (swe_or (ste_not (ste_val (see_isXB T.exs T.se.hns hz hf T.kiv rfl T.z_isinstance rfl T.z_ValueError rfl))) (swe_or (ste_not (ste_val (see_isX T.exs T.se.hns hz hf T.ki_SourceError_WardenError rfl T.z_isinstance rfl T.mW))) (swe_or1 (ste_ne (hu64h (roomH_suite hr)) (see_xfG T.exs T.se.hns T.se.T.n3 hz hf) (SE.sb se_str)))))) (sue_ret (see_of (se_nonN 0)))
  (sue_ret (see_tup1 (see_tup (sae_cons (see_xfG T.exs T.se.hns T.se.T.n1 hz hf) (sae_cons (see_xfG T.exs T.se.hns T.se.T.n2 hz hf) sae_nil))))))) .nil)))
def I_law_1 : SF :=
  (sIf (tV (e2 pEq (e2 pMod (e2 pDiv (eL F__law_cell (aC (eV 0) (aC (eC (.int 0)) aN))) (eC (.int 3))) (eC (.int 2))) (eC (.int 0)))) (sSet 2 (e2 pAdd (eV 2) (eC (.str (Str.ofString " ")))))
  sSkip)
def L_law_2 : SF :=
  (sSeq (sSet 2 (e2 pAdd (eV 2) (eL F__law_piece (aC (eV 0) (aC (eV 3) (aC (eV 1) aN))))))
  I_law_1)
def I_law_3 : SF :=
  (sIf (tT (eIsi "list" (eV 5))) (sSeq (sApp 5 (eTup (aC (eC (.str (Str.ofString "word"))) (aC (eC (.str (Str.ofString "x"))) (aC (eC (.int 1)) (aC (eC (.int 1)) aN))))))
  (sRet (eL (flatF F__law_fine) (aC (eL F__law_asked (aC (eV 2) aN)) (aC (eV 4) aN)))))
  sSkip)
def B_law : SF :=
  (sSeq (sSet 1 (e2 pEq (e2 pMod (eL F__law_cell (aC (eV 0) (aC (eC (.int 0)) aN))) (eC (.int 3))) (eC (.int 1))))
  (sSeq (sSet 2 (eC (.str (Str.ofString ""))))
  (sSeq (sForE (aRng2 (aC (eC (.int 1)) (aC (eL minD (aC (eL lenD (aC (eV 0) aN)) (aC (eC (.int 63)) aN))) aN))) (gN 3) L_law_2)
  (sSeq (sSet 2 (eSl pSlS (eV 2) oN (oS (eC (.int 4000)))))
  (sSeq (sSet 4 (eL F__law_words (aC (eV 2) aN)))
  (sSeq (sSet 5 (eL F__law_asked (aC (eV 2) aN)))
  (sSeq (sIf (tNotF (tT (eL (flatF F__law_fine) (aC (eV 5) (aC (eV 4) aN))))) (sRet (eC (.bool false)))
  sSkip)
  (sSeq I_law_3
  (sRet (eC (.bool true)))))))))))
def F_law : List D → Option D := runF 0 1 6 B_law
theorem sc_law : FnScope ["script", "odd", "text", "k", "expected", "first"] ["script"] (defScope (topS 25)) := ⟨rfl, rfl, rfl, by decide +kernel, rfl, by decide +kernel, by decide +kernel⟩
theorem ok_law (T : Txt w P K mg) : FnOk P w K mg base CX0 6 T.a_law T.d_law ["script"] (Pure K 1 0 F_law) := by
  have sc := sc_law
  exact fn_pure (Γ' := []) T.F_law sc_law rfl fun cdv A outer s H E hr =>
    (ss_cons (ss_set 1 (se_eq (hu64 hr) (SE.sb (se_mod (SE.sb (se_call (ok__law_cell T) (hr.mono (by decide)) rfl T.m__law_cell T.F__law_cell.kp T.b__law_cell (sa_cons (SE.sb (SB.se (sb_var 0 rfl))) (sa_cons (SE.sb se_int) sa_nil)))) (SE.sb se_int))) (SE.sb se_int)) sc.nd)
  (ss_cons (ss_set 2 se_str sc.nd)
  (ss_cons (ss_for [some 0, some 0, some 0, none, none, none] PySem.PassesOwn.never rfl (si_range2 rfl T.z_range (SE.sb se_int) (SE.sb (se_min2 rfl rfl T.z_min (sa_cons (SE.sb (se_len rfl T.z_len (sb_var 0 rfl))) (sa_cons (SE.sb se_int) sa_nil))))) rfl (sg_name 3 sc.nd)
  (SSs.sub (Γ' := [some 0, some 0, some 0, none, none, none]) (ss_cons (ss_set 2 (se_add (sb_var 2 rfl) (SE.sb (se_call (ok__law_piece T) (hr.mono (by decide)) rfl T.m__law_piece T.F__law_piece.kp T.b__law_piece (sa_cons (SE.sb (SB.se (sb_var 0 rfl))) (sa_cons (SE.sb (SB.se (sb_var 3 rfl))) (sa_cons (SE.sb (SB.se (sb_var 1 rfl))) sa_nil)))))) sc.nd)
  (ss_one (ss_if (st_eq (hu64 hr) (SE.sb (se_mod (SE.sb (se_div (SE.sb (se_call (ok__law_cell T) (hr.mono (by decide)) rfl T.m__law_cell T.F__law_cell.kp T.b__law_cell (sa_cons (SE.sb (SB.se (sb_var 0 rfl))) (sa_cons (SE.sb se_int) sa_nil)))) (SE.sb se_int))) (SE.sb se_int))) (SE.sb se_int)) (SSs.sub (Γ' := [some 0, some 0, some 0, some 0, none, none]) (ss_one (ss_set 2 (se_add (sb_var 2 rfl) (SE.sb se_str)) sc.nd)) rfl)
  (SSs.sub (Γ' := [some 0, some 0, some 0, some 0, none, none]) ss_nil rfl)))) rfl))
  (ss_cons (ss_set 2 (se_slS (sb_var 2 rfl) so_none (so_some (SE.sb se_int))) sc.nd)
  (ss_cons (ss_set 4 (se_call (ok__law_words T) (hr.mono (by decide)) rfl T.m__law_words T.F__law_words.kp T.b__law_words (sa_cons (SE.sb (SB.se (sb_var 2 rfl))) sa_nil)) sc.nd)
  (ss_cons (ss_set 5 (se_call (ok__law_asked T) (hr.mono (by decide)) rfl T.m__law_asked T.F__law_asked.kp T.b__law_asked (sa_cons (SE.sb (SB.se (sb_var 2 rfl))) sa_nil)) sc.nd)
  (ss_cons (ss_if (st_not (st_truth (SE.sb (se_lend (ok__law_fine T) (hr.mono (by decide)) rfl T.m__law_fine T.F__law_fine.kp T.b__law_fine (sa_cons (sb_var 5 rfl) (sa_cons (sb_var 4 rfl) sa_nil)))))) (ss_one (ss_ret se_bl (by decide)))
  (SSs.sub (Γ' := [some 0, some 0, some 0, none, some 1, some 1]) ss_nil rfl))
  (ss_cons (ss_if (st_truth (SE.sb (se_isi kitOk_list rfl T.z_isinstance rfl T.z_list (by decide +kernel) (sb_var 5 rfl)))) (ss_cons (ss_append 5 (n := 0) rfl (se_tup (sa_cons (SE.sb se_str) (sa_cons (SE.sb se_str) (sa_cons (SE.sb se_int) (sa_cons (SE.sb se_int) sa_nil))))) (by decide) (pv 5) rfl app_pe)
  (ss_one (ss_ret (se_lend (ok__law_fine T) (hr.mono (by decide)) rfl T.m__law_fine T.F__law_fine.kp T.b__law_fine (sa_cons (SE.sb (se_call (ok__law_asked T) (hr.mono (by decide)) rfl T.m__law_asked T.F__law_asked.kp T.b__law_asked (sa_cons (SE.sb (SB.se (sb_var 2 rfl))) sa_nil))) (sa_cons (sb_var 4 rfl) sa_nil))) (by decide))))
  (SSs.sub (Γ' := [some 0, some 0, some 0, none, some 1, some 1]) ss_nil rfl))
  (ss_one (ss_ret se_bl (by decide)))))))))))
end
theorem all_mk {l : PySem.W.OpenLaw} {w : World} {K : PySem.W.Frag} {h : Heap} {mg : Str → Option Value} {fa : Addr} (X : K.In h) (G : h.Ns mainGlobals mg) (hfa : mg "law" = some (.ref fa))
    {f0 : Addr} {od0 an0 : Option Addr} {sl0 : Array (Option Value)} {oc0 kV0 dc0 pm0 cd0 ct0 : Value}
    (a0 : PySem.W.nsIn K mainGlobals "words_of" = some (some (.ref f0))) (l0 : K.lookup f0 = some ⟨oc0, od0, .func (PySem.W.fnOf "words_of" "words_of" (defArgs (topS 9)) (defBody (topS 9)) (defScope (topS 9)) .none kV0 dc0 pm0 an0 cd0 ct0), sl0⟩) (c0 : PySem.W.codeIn K cd0 "words_of" = true) (k0 : PySem.W.keepIn K (.ref f0) = true)
    {f1 : Addr} {od1 an1 : Option Addr} {sl1 : Array (Option Value)} {oc1 kV1 dc1 pm1 cd1 ct1 : Value}
    (a1 : PySem.W.nsIn K mainGlobals "find_piece" = some (some (.ref f1))) (l1 : K.lookup f1 = some ⟨oc1, od1, .func (PySem.W.fnOf "find_piece" "find_piece" (defArgs (topS 10)) (defBody (topS 10)) (defScope (topS 10)) .none kV1 dc1 pm1 an1 cd1 ct1), sl1⟩) (c1 : PySem.W.codeIn K cd1 "find_piece" = true) (k1 : PySem.W.keepIn K (.ref f1) = true)
    {f2 : Addr} {od2 an2 : Option Addr} {sl2 : Array (Option Value)} {oc2 kV2 dc2 pm2 cd2 ct2 : Value}
    (a2 : PySem.W.nsIn K mainGlobals "comment_length" = some (some (.ref f2))) (l2 : K.lookup f2 = some ⟨oc2, od2, .func (PySem.W.fnOf "comment_length" "comment_length" (defArgs (topS 11)) (defBody (topS 11)) (defScope (topS 11)) .none kV2 dc2 pm2 an2 cd2 ct2), sl2⟩) (c2 : PySem.W.codeIn K cd2 "comment_length" = true) (k2 : PySem.W.keepIn K (.ref f2) = true)
    {f3 : Addr} {od3 an3 : Option Addr} {sl3 : Array (Option Value)} {oc3 kV3 dc3 pm3 cd3 ct3 : Value}
    (a3 : PySem.W.nsIn K mainGlobals "length_of" = some (some (.ref f3))) (l3 : K.lookup f3 = some ⟨oc3, od3, .func (PySem.W.fnOf "length_of" "length_of" (defArgs (topS 12)) (defBody (topS 12)) (defScope (topS 12)) .none kV3 dc3 pm3 an3 cd3 ct3), sl3⟩) (c3 : PySem.W.codeIn K cd3 "length_of" = true) (k3 : PySem.W.keepIn K (.ref f3) = true)
    {f4 : Addr} {od4 an4 : Option Addr} {sl4 : Array (Option Value)} {oc4 kV4 dc4 pm4 cd4 ct4 : Value}
    (a4 : PySem.W.nsIn K mainGlobals "_law_cell" = some (some (.ref f4))) (l4 : K.lookup f4 = some ⟨oc4, od4, .func (PySem.W.fnOf "_law_cell" "_law_cell" (defArgs (topS 14)) (defBody (topS 14)) (defScope (topS 14)) .none kV4 dc4 pm4 an4 cd4 ct4), sl4⟩) (c4 : PySem.W.codeIn K cd4 "_law_cell" = true) (k4 : PySem.W.keepIn K (.ref f4) = true)
    {f5 : Addr} {od5 an5 : Option Addr} {sl5 : Array (Option Value)} {oc5 kV5 dc5 pm5 cd5 ct5 : Value}
    (a5 : PySem.W.nsIn K mainGlobals "_law_draw" = some (some (.ref f5))) (l5 : K.lookup f5 = some ⟨oc5, od5, .func (PySem.W.fnOf "_law_draw" "_law_draw" (defArgs (topS 15)) (defBody (topS 15)) (defScope (topS 15)) .none kV5 dc5 pm5 an5 cd5 ct5), sl5⟩) (c5 : PySem.W.codeIn K cd5 "_law_draw" = true) (k5 : PySem.W.keepIn K (.ref f5) = true)
    {f6 : Addr} {od6 an6 : Option Addr} {sl6 : Array (Option Value)} {oc6 kV6 dc6 pm6 cd6 ct6 : Value}
    (a6 : PySem.W.nsIn K mainGlobals "_law_letters" = some (some (.ref f6))) (l6 : K.lookup f6 = some ⟨oc6, od6, .func (PySem.W.fnOf "_law_letters" "_law_letters" (defArgs (topS 16)) (defBody (topS 16)) (defScope (topS 16)) .none kV6 dc6 pm6 an6 cd6 ct6), sl6⟩) (c6 : PySem.W.codeIn K cd6 "_law_letters" = true) (k6 : PySem.W.keepIn K (.ref f6) = true)
    {f7 : Addr} {od7 an7 : Option Addr} {sl7 : Array (Option Value)} {oc7 kV7 dc7 pm7 cd7 ct7 : Value}
    (a7 : PySem.W.nsIn K mainGlobals "_law_end" = some (some (.ref f7))) (l7 : K.lookup f7 = some ⟨oc7, od7, .func (PySem.W.fnOf "_law_end" "_law_end" (defArgs (topS 17)) (defBody (topS 17)) (defScope (topS 17)) .none kV7 dc7 pm7 an7 cd7 ct7), sl7⟩) (c7 : PySem.W.codeIn K cd7 "_law_end" = true) (k7 : PySem.W.keepIn K (.ref f7) = true)
    {f8 : Addr} {od8 an8 : Option Addr} {sl8 : Array (Option Value)} {oc8 kV8 dc8 pm8 cd8 ct8 : Value}
    (a8 : PySem.W.nsIn K mainGlobals "_law_sign" = some (some (.ref f8))) (l8 : K.lookup f8 = some ⟨oc8, od8, .func (PySem.W.fnOf "_law_sign" "_law_sign" (defArgs (topS 18)) (defBody (topS 18)) (defScope (topS 18)) .none kV8 dc8 pm8 an8 cd8 ct8), sl8⟩) (c8 : PySem.W.codeIn K cd8 "_law_sign" = true) (k8 : PySem.W.keepIn K (.ref f8) = true)
    {f9 : Addr} {od9 an9 : Option Addr} {sl9 : Array (Option Value)} {oc9 kV9 dc9 pm9 cd9 ct9 : Value}
    (a9 : PySem.W.nsIn K mainGlobals "_law_place" = some (some (.ref f9))) (l9 : K.lookup f9 = some ⟨oc9, od9, .func (PySem.W.fnOf "_law_place" "_law_place" (defArgs (topS 19)) (defBody (topS 19)) (defScope (topS 19)) .none kV9 dc9 pm9 an9 cd9 ct9), sl9⟩) (c9 : PySem.W.codeIn K cd9 "_law_place" = true) (k9 : PySem.W.keepIn K (.ref f9) = true)
    {f10 : Addr} {od10 an10 : Option Addr} {sl10 : Array (Option Value)} {oc10 kV10 dc10 pm10 cd10 ct10 : Value}
    (a10 : PySem.W.nsIn K mainGlobals "_law_one" = some (some (.ref f10))) (l10 : K.lookup f10 = some ⟨oc10, od10, .func (PySem.W.fnOf "_law_one" "_law_one" (defArgs (topS 20)) (defBody (topS 20)) (defScope (topS 20)) .none kV10 dc10 pm10 an10 cd10 ct10), sl10⟩) (c10 : PySem.W.codeIn K cd10 "_law_one" = true) (k10 : PySem.W.keepIn K (.ref f10) = true)
    {f11 : Addr} {od11 an11 : Option Addr} {sl11 : Array (Option Value)} {oc11 kV11 dc11 pm11 cd11 ct11 : Value}
    (a11 : PySem.W.nsIn K mainGlobals "_law_words" = some (some (.ref f11))) (l11 : K.lookup f11 = some ⟨oc11, od11, .func (PySem.W.fnOf "_law_words" "_law_words" (defArgs (topS 21)) (defBody (topS 21)) (defScope (topS 21)) .none kV11 dc11 pm11 an11 cd11 ct11), sl11⟩) (c11 : PySem.W.codeIn K cd11 "_law_words" = true) (k11 : PySem.W.keepIn K (.ref f11) = true)
    {f12 : Addr} {od12 an12 : Option Addr} {sl12 : Array (Option Value)} {oc12 kV12 dc12 pm12 cd12 ct12 : Value}
    (a12 : PySem.W.nsIn K mainGlobals "_law_piece" = some (some (.ref f12))) (l12 : K.lookup f12 = some ⟨oc12, od12, .func (PySem.W.fnOf "_law_piece" "_law_piece" (defArgs (topS 22)) (defBody (topS 22)) (defScope (topS 22)) .none kV12 dc12 pm12 an12 cd12 ct12), sl12⟩) (c12 : PySem.W.codeIn K cd12 "_law_piece" = true) (k12 : PySem.W.keepIn K (.ref f12) = true)
    {f13 : Addr} {od13 an13 : Option Addr} {sl13 : Array (Option Value)} {oc13 kV13 dc13 pm13 cd13 ct13 : Value}
    (a13 : PySem.W.nsIn K mainGlobals "_law_asked" = some (some (.ref f13))) (l13 : K.lookup f13 = some ⟨oc13, od13, .func (PySem.W.fnOf "_law_asked" "_law_asked" (defArgs (topS 23)) (defBody (topS 23)) (defScope (topS 23)) .none kV13 dc13 pm13 an13 cd13 ct13), sl13⟩) (c13 : PySem.W.codeIn K cd13 "_law_asked" = true) (k13 : PySem.W.keepIn K (.ref f13) = true)
    {f14 : Addr} {od14 an14 : Option Addr} {sl14 : Array (Option Value)} {oc14 kV14 dc14 pm14 cd14 ct14 : Value}
    (a14 : PySem.W.nsIn K mainGlobals "_law_fine" = some (some (.ref f14))) (l14 : K.lookup f14 = some ⟨oc14, od14, .func (PySem.W.fnOf "_law_fine" "_law_fine" (defArgs (topS 24)) (defBody (topS 24)) (defScope (topS 24)) .none kV14 dc14 pm14 an14 cd14 ct14), sl14⟩) (c14 : PySem.W.codeIn K cd14 "_law_fine" = true) (k14 : PySem.W.keepIn K (.ref f14) = true)
    {f15 : Addr} {od15 an15 : Option Addr} {sl15 : Array (Option Value)} {oc15 kV15 dc15 pm15 cd15 ct15 : Value}
    (a15 : PySem.W.nsIn K mainGlobals "law" = some (some (.ref f15))) (l15 : K.lookup f15 = some ⟨oc15, od15, .func (PySem.W.fnOf "law" "law" (defArgs (topS 25)) (defBody (topS 25)) (defScope (topS 25)) .none kV15 dc15 pm15 an15 cd15 ct15), sl15⟩) (c15 : PySem.W.codeIn K cd15 "law" = true) (k15 : PySem.W.keepIn K (.ref f15) = true)
    (z_ValueError : PySem.W.nsIn K mainGlobals "ValueError" = some none)
    (z_bool : PySem.W.nsIn K mainGlobals "bool" = some none)
    (z_isinstance : PySem.W.nsIn K mainGlobals "isinstance" = some none)
    (z_len : PySem.W.nsIn K mainGlobals "len" = some none)
    (z_list : PySem.W.nsIn K mainGlobals "list" = some none)
    (z_min : PySem.W.nsIn K mainGlobals "min" = some none)
    (z_range : PySem.W.nsIn K mainGlobals "range" = some none)
    (z_str : PySem.W.nsIn K mainGlobals "str" = some none)
    (z_tuple : PySem.W.nsIn K mainGlobals "tuple" = some none)
    {gA_SIGNS : Addr} {gD_SIGNS : Option Addr} {gN_SIGNS : Nat} {gS_SIGNS : Array (Option Value)} {gt0_SIGNS gt1_SIGNS gt2_SIGNS gt3_SIGNS gt4_SIGNS gt5_SIGNS gt6_SIGNS gt7_SIGNS gt8_SIGNS gt9_SIGNS gt10_SIGNS gt11_SIGNS gt12_SIGNS gt13_SIGNS gt14_SIGNS gt15_SIGNS gt16_SIGNS gt17_SIGNS gt18_SIGNS gt19_SIGNS gt20_SIGNS gt21_SIGNS : Tok}
    (gn_SIGNS : PySem.W.nsIn K mainGlobals "SIGNS" = some (some (.ref gA_SIGNS)))
    (gl_SIGNS : K.lookup gA_SIGNS = some ⟨.type "tuple", gD_SIGNS, .seq #[.str ":=" gt0_SIGNS, .str ".." gt1_SIGNS, .str "<=" gt2_SIGNS, .str ">=" gt3_SIGNS, .str "!=" gt4_SIGNS, .str "+-" gt5_SIGNS, .str "{" gt6_SIGNS, .str "}" gt7_SIGNS, .str "(" gt8_SIGNS, .str ")" gt9_SIGNS, .str "[" gt10_SIGNS, .str "]" gt11_SIGNS, .str ";" gt12_SIGNS, .str ":" gt13_SIGNS, .str "," gt14_SIGNS, .str "." gt15_SIGNS, .str "<" gt16_SIGNS, .str ">" gt17_SIGNS, .str "=" gt18_SIGNS, .str "+" gt19_SIGNS, .str "-" gt20_SIGNS, .str "*" gt21_SIGNS] gN_SIGNS, gS_SIGNS⟩)
    {CW : Addr}
    {sC sNC sfC sccC scda : Addr} {snmC sqC sqf : Str} {sbsC : List Value} {ssnC : List Str} {ssubC : List Value} {sabC : Bool} {scolC : Option Bool} {sddC : Option Addr} {s0C s1C s2C s3C s5C : Option Value} {sbmC : List Value} {socC sdcC spmC sctC : Value} {sodC sanC : Option Addr} {sslC : Array (Option Value)}
    {sa0 sa1 sa2 sa3 sb0 sb1 sb2 sb3 sb4 sb5 sb6 sb7 sb8 sb9 sb10 sb11 sb12 sb13 sb14 sc0 sc1 sc2 sc3 sc4 sc5 sc6 sc7 sc8 sc9 sc10 sc11 : Pos} {sccl : Value} {scdd : Option Addr} {svsC : Array Value} {sccs : Array (Option Value)} {sfileC : Str} {stfC : Tok} {sclC : Value} {scld : Option Addr} {scsl : Array (Option Value)}
    {gt_BLANKS : Tok}
    {gt_DIGITS : Tok}
    {gt_LETTERS : Tok}
    {gA_LONGEST : Addr} {gN_LONGEST : Nat} {gh0_LONGEST gh1_LONGEST : Int} {gt0_LONGEST gu0_LONGEST gt1_LONGEST gu1_LONGEST : Tok}
    (aW : PySem.W.nsIn K mainGlobals "WardenError" = some (some (.ref CW)))
    (s_aC : PySem.W.nsIn K mainGlobals "SourceError" = some (some (.ref sC)))
    (s_xL : K.lookup sC = some (excClassObj snmC sqC sC sNC sbsC sbmC true ssnC ssubC sabC scolC sddC s0C s1C s2C s3C s5C "ValueError.__new__"))
    (s_hbm : PySem.HandSPX.refsVE sbmC = true)
    (s_sa : PySem.W.findIn K (.ref sC) "__setattr__" = some (some (.builtin "object.__setattr__")))
    (s_eC : PySem.W.subIn K (.ref sC) (.type "BaseException") = some true)
    (s_tC : PySem.W.typeIn K (.ref sC) = some (.type "type"))
    (s_kC : PySem.W.keepIn K (.ref sC) = true)
    (s_ini : PySem.W.excInitIn K sC [.type "ValueError", .type "Exception", .type "BaseException", .type "object"] "ValueError.__new__" = true)
    (s_n1 : PySem.W.findIn K (.ref sC) "line" = some none)
    (s_n2 : PySem.W.findIn K (.ref sC) "column" = some none)
    (s_n3 : PySem.W.findIn K (.ref sC) "what" = some none)
    (s_sup : PySem.W.ks_superIn K sC sC "__init__" = some (some (.builtin "ValueError.__init__")))
    (s_sVE : PySem.W.subIn K (.ref sC) (.type "ValueError") = some true)
    (s_tpa : PySem.W.nsIn K cStatics "thirdparty.any" = some none)
    (s_mro : PySem.W.mroIn K sC (.ref sC) = some true)
    (s_noS : PySem.W.nsIn K mainGlobals "super" = some none)
    (s_top : (l.prog.main.scope.names.lookup ("super" : Str)).isSome = false)
    (s_iC : PySem.W.findIn K (.ref sC) "__init__" = some (some (.ref sfC)))
    (s_tI : PySem.W.typeIn K (.ref sfC) = some (.type "function"))
    (s_lI : K.lookup sfC = some ⟨socC, sodC, .func (PySem.W.ksFn "__init__" sqf (seA sa0 sa1 sa2 sa3) (seB sb0 sb1 sb2 sb3 sb4 sb5 sb6 sb7 sb8 sb9 sb10 sb11 sb12 sb13 sb14 sc0 sc1 sc2 sc3 sc4 sc5 sc6 sc7 sc8 sc9 sc10 sc11) seS .none .none sdcC spmC sanC (.ref scda) sctC sccC), sslC⟩)
    (s_cI : PySem.W.codeIn K (.ref scda) sqf = true)
    (s_hli : (sb2.endLine == sb13.line) = true)
    (s_lc : K.lookup scda = some ⟨sccl, scdd, .fields svsC, sccs⟩)
    (s_hv : svsC[2]? = some (.str sfileC stfC))
    (s_hf : ((l.prog.main.file : Str) == sfileC) = true)
    (s_lcc : K.lookup sccC = some ⟨sclC, scld, .cell (some (.ref sC)), scsl⟩)
    (s_te : PySem.W.exmOne K (.ref sC) (.ref sC) = some true)
    (s_xga : PySem.W.findIn K (.ref sC) "__getattribute__" = some (some (.builtin "BaseException.__getattribute__")))
    (s_xgg : PySem.W.findIn K (.ref sC) "__getattr__" = some none)
    (s_xhd : PySem.W.hasDictIn K sC = true)
    (s_xca : PySem.W.findIn K (.ref sC) "__class__" = some (some (.builtin "object.__class__")))
    (s_xsp : PySem.W.specialIn K (.builtin "object.__class__") "__get__" = some (some (.builtin "getset_descriptor.__get__")))
    (s_xtk : PySem.W.takesIn K (.builtin "object.__class__") = some true)
    (s_xmo : PySem.W.mroIn K sC (.type "object") = some true)
    (s_kiv : PySem.W.kitOne K (.ref sC) (.type "ValueError") = some true)
    (gc_BLANKS : PySem.W.nsIn K mainGlobals "BLANKS" = some (some (Value.str (Str.ofString " \t\n") gt_BLANKS)))
    (gc_DIGITS : PySem.W.nsIn K mainGlobals "DIGITS" = some (some (Value.str (Str.ofString "0123456789") gt_DIGITS)))
    (gc_LETTERS : PySem.W.nsIn K mainGlobals "LETTERS" = some (some (Value.str (Str.ofString "abcdefghijklmnopqrstuvwxyzABCDEFGHIJKLMNOPQRSTUVWXYZ_") gt_LETTERS)))
    (gn_LONGEST : PySem.W.nsIn K mainGlobals "LONGEST" = some (some (.ref gA_LONGEST)))
    (gl_LONGEST : K.lookup gA_LONGEST = some { cls := .type "dict", data := .dict #[⟨gh0_LONGEST, .str (Str.ofString "word") gt0_LONGEST, .int 20 gu0_LONGEST⟩, ⟨gh1_LONGEST, .str (Str.ofString "number") gt1_LONGEST, .int 7 gu1_LONGEST⟩] gN_LONGEST })
    (gk_LONGEST : PySem.W.KeysLit w.params [⟨gh0_LONGEST, .str (Str.ofString "word") gt0_LONGEST, .int 20 gu0_LONGEST⟩, ⟨gh1_LONGEST, .str (Str.ofString "number") gt1_LONGEST, .int 7 gu1_LONGEST⟩])
    (gs_LONGEST : (gA_LONGEST == sysModules) = false)
    (ki_SourceError_WardenError : PySem.W.kitOne K (.ref sC) (.ref CW) = some true)
    (xe_SourceError_SourceError : PySem.W.exmOne K (.ref sC) (.ref sC) = some true)
    : ∃ fd : FuncData, (∀ (s : Shared) (v : Value), BindsTo s fd ⟨[v], []⟩ [("script", v)]) ∧ ∀ base : Heap, K.In base → base.Ns mainGlobals mg → FnOk l.prog w K mg base CX0 6 fa fd ["script"] (Pure K 1 0 F_law) := by
  have e := hfa.symm.trans (PySem.W.mg_of X G a15)
  cases e
  have F0 := fun_mk (st := topS 9) l0 c0 k0
  have b0 := F0.binds (ps := ["text"]) fun _ _ _ _ _ _ us hl => match us, hl with | [_], _ => rfl
  have F1 := fun_mk (st := topS 10) l1 c1 k1
  have b1 := F1.binds (ps := ["text", "place"]) fun _ _ _ _ _ _ us hl => match us, hl with | [_, _], _ => rfl
  have F2 := fun_mk (st := topS 11) l2 c2 k2
  have b2 := F2.binds (ps := ["text", "place"]) fun _ _ _ _ _ _ us hl => match us, hl with | [_, _], _ => rfl
  have F3 := fun_mk (st := topS 12) l3 c3 k3
  have b3 := F3.binds (ps := ["text", "place", "characters"]) fun _ _ _ _ _ _ us hl => match us, hl with | [_, _, _], _ => rfl
  have F4 := fun_mk (st := topS 14) l4 c4 k4
  have b4 := F4.binds (ps := ["script", "k"]) fun _ _ _ _ _ _ us hl => match us, hl with | [_, _], _ => rfl
  have F5 := fun_mk (st := topS 15) l5 c5 k5
  have b5 := F5.binds (ps := ["script", "k", "sizes"]) fun _ _ _ _ _ _ us hl => match us, hl with | [_, _, _], _ => rfl
  have F6 := fun_mk (st := topS 16) l6 c6 k6
  have b6 := F6.binds (ps := []) fun _ _ _ _ _ _ us hl => match us, hl with | [], _ => rfl
  have F7 := fun_mk (st := topS 17) l7 c7 k7
  have b7 := F7.binds (ps := ["text", "at", "chars"]) fun _ _ _ _ _ _ us hl => match us, hl with | [_, _, _], _ => rfl
  have F8 := fun_mk (st := topS 18) l8 c8 k8
  have b8 := F8.binds (ps := ["text", "at"]) fun _ _ _ _ _ _ us hl => match us, hl with | [_, _], _ => rfl
  have F9 := fun_mk (st := topS 19) l9 c9 k9
  have b9 := F9.binds (ps := ["text", "at"]) fun _ _ _ _ _ _ us hl => match us, hl with | [_, _], _ => rfl
  have F10 := fun_mk (st := topS 20) l10 c10 k10
  have b10 := F10.binds (ps := ["text", "at"]) fun _ _ _ _ _ _ us hl => match us, hl with | [_, _], _ => rfl
  have F11 := fun_mk (st := topS 21) l11 c11 k11
  have b11 := F11.binds (ps := ["text"]) fun _ _ _ _ _ _ us hl => match us, hl with | [_], _ => rfl
  have F12 := fun_mk (st := topS 22) l12 c12 k12
  have b12 := F12.binds (ps := ["script", "k", "odd"]) fun _ _ _ _ _ _ us hl => match us, hl with | [_, _, _], _ => rfl
  have F13 := fun_mk (st := topS 23) l13 c13 k13
  have b13 := F13.binds (ps := ["text"]) fun _ _ _ _ _ _ us hl => match us, hl with | [_], _ => rfl
  have F14 := fun_mk (st := topS 24) l14 c14 k14
  have b14 := F14.binds (ps := ["actual", "expected"]) fun _ _ _ _ _ _ us hl => match us, hl with | [_, _], _ => rfl
  have F15 := fun_mk (st := topS 25) l15 c15 k15
  have b15 := F15.binds (ps := ["script"]) fun _ _ _ _ _ _ us hl => match us, hl with | [_], _ => rfl
  have SeT : SeTxt l.prog K sC sfC _ := { oex := ⟨⟨snmC, sqC, sNC, sbsC, sbmC, ssnC, ssubC, sabC, scolC, sddC, s0C, s1C, s2C, s3C, s5C, s_xL, s_hbm⟩, s_sa, s_eC, s_tC, s_kC⟩, ini := s_ini, n1 := s_n1, n2 := s_n2, n3 := s_n3, sup := s_sup, sVE := s_sVE, tpa := s_tpa, mro := s_mro, noS := s_noS, top := s_top, fn := ⟨_, _, _, _, _, _, _, _, _, _, _, _, _, _, _, _, _, _, _, _, _, _, _, _, _, _, _, _, _, _, _, _, _, _, _, _, _, _, _, _, _, rfl, s_lI, s_cI, s_hli, ⟨_, _, _, _, _, _, s_lc, s_hv, s_hf⟩, _, _, _, s_lcc⟩ }
  let T : Txt w l.prog K mg := {
    se := ⟨sC, sfC, _, SeT, s_iC, s_tI, s_aC, PySem.W.mg_of X G s_aC, s_te⟩,
    exs := ⟨s_xga, s_xgg, s_eC, s_xhd, s_xca, s_xsp, s_xtk, s_xmo⟩,
    kiv := s_kiv,
    ki_SourceError_WardenError := ki_SourceError_WardenError,
    xe_SourceError_SourceError := xe_SourceError_SourceError,
    CW := CW,
    mW := PySem.W.mg_of X G aW,
    a_words_of := _,
    d_words_of := _,
    F_words_of := F0,
    m_words_of := PySem.W.mg_of X G a0,
    b_words_of := b0,
    a_find_piece := _,
    d_find_piece := _,
    F_find_piece := F1,
    m_find_piece := PySem.W.mg_of X G a1,
    b_find_piece := b1,
    a_comment_length := _,
    d_comment_length := _,
    F_comment_length := F2,
    m_comment_length := PySem.W.mg_of X G a2,
    b_comment_length := b2,
    a_length_of := _,
    d_length_of := _,
    F_length_of := F3,
    m_length_of := PySem.W.mg_of X G a3,
    b_length_of := b3,
    a__law_cell := _,
    d__law_cell := _,
    F__law_cell := F4,
    m__law_cell := PySem.W.mg_of X G a4,
    b__law_cell := b4,
    a__law_draw := _,
    d__law_draw := _,
    F__law_draw := F5,
    m__law_draw := PySem.W.mg_of X G a5,
    b__law_draw := b5,
    a__law_letters := _,
    d__law_letters := _,
    F__law_letters := F6,
    m__law_letters := PySem.W.mg_of X G a6,
    b__law_letters := b6,
    a__law_end := _,
    d__law_end := _,
    F__law_end := F7,
    m__law_end := PySem.W.mg_of X G a7,
    b__law_end := b7,
    a__law_sign := _,
    d__law_sign := _,
    F__law_sign := F8,
    m__law_sign := PySem.W.mg_of X G a8,
    b__law_sign := b8,
    a__law_place := _,
    d__law_place := _,
    F__law_place := F9,
    m__law_place := PySem.W.mg_of X G a9,
    b__law_place := b9,
    a__law_one := _,
    d__law_one := _,
    F__law_one := F10,
    m__law_one := PySem.W.mg_of X G a10,
    b__law_one := b10,
    a__law_words := _,
    d__law_words := _,
    F__law_words := F11,
    m__law_words := PySem.W.mg_of X G a11,
    b__law_words := b11,
    a__law_piece := _,
    d__law_piece := _,
    F__law_piece := F12,
    m__law_piece := PySem.W.mg_of X G a12,
    b__law_piece := b12,
    a__law_asked := _,
    d__law_asked := _,
    F__law_asked := F13,
    m__law_asked := PySem.W.mg_of X G a13,
    b__law_asked := b13,
    a__law_fine := _,
    d__law_fine := _,
    F__law_fine := F14,
    m__law_fine := PySem.W.mg_of X G a14,
    b__law_fine := b14,
    a_law := _,
    d_law := _,
    F_law := F15,
    m_law := PySem.W.mg_of X G a15,
    b_law := b15,
    c_BLANKS := ⟨_, PySem.W.mg_of X G gc_BLANKS⟩,
    c_DIGITS := ⟨_, PySem.W.mg_of X G gc_DIGITS⟩,
    c_LETTERS := ⟨_, PySem.W.mg_of X G gc_LETTERS⟩,
    g_LONGEST := ⟨⟨gA_LONGEST, _, gN_LONGEST, PySem.W.mg_of X G gn_LONGEST, ⟨gl_LONGEST, gk_LONGEST, gs_LONGEST⟩, (.cons (.cons .nil))⟩⟩,
    g_SIGNS := glT_mk (PySem.W.mg_of X G gn_SIGNS) gl_SIGNS (Nat.le_of_ble_eq_true rfl) (.cons ⟨gt0_SIGNS, rfl⟩ (.cons ⟨gt1_SIGNS, rfl⟩ (.cons ⟨gt2_SIGNS, rfl⟩ (.cons ⟨gt3_SIGNS, rfl⟩ (.cons ⟨gt4_SIGNS, rfl⟩ (.cons ⟨gt5_SIGNS, rfl⟩ (.cons ⟨gt6_SIGNS, rfl⟩ (.cons ⟨gt7_SIGNS, rfl⟩ (.cons ⟨gt8_SIGNS, rfl⟩ (.cons ⟨gt9_SIGNS, rfl⟩ (.cons ⟨gt10_SIGNS, rfl⟩ (.cons ⟨gt11_SIGNS, rfl⟩ (.cons ⟨gt12_SIGNS, rfl⟩ (.cons ⟨gt13_SIGNS, rfl⟩ (.cons ⟨gt14_SIGNS, rfl⟩ (.cons ⟨gt15_SIGNS, rfl⟩ (.cons ⟨gt16_SIGNS, rfl⟩ (.cons ⟨gt17_SIGNS, rfl⟩ (.cons ⟨gt18_SIGNS, rfl⟩ (.cons ⟨gt19_SIGNS, rfl⟩ (.cons ⟨gt20_SIGNS, rfl⟩ (.cons ⟨gt21_SIGNS, rfl⟩ .nil)))))))))))))))))))))),
    z_ValueError := PySem.W.mg_none_of X G z_ValueError,
    z_bool := PySem.W.mg_none_of X G z_bool,
    z_isinstance := PySem.W.mg_none_of X G z_isinstance,
    z_len := PySem.W.mg_none_of X G z_len,
    z_list := PySem.W.mg_none_of X G z_list,
    z_min := PySem.W.mg_none_of X G z_min,
    z_range := PySem.W.mg_none_of X G z_range,
    z_str := PySem.W.mg_none_of X G z_str,
    z_tuple := PySem.W.mg_none_of X G z_tuple }
  refine ⟨PySem.W.fnOf "law" "law" (defArgs (topS 25)) (defBody (topS 25)) (defScope (topS 25)) .none kV15 dc15 pm15 an15 cd15 ct15, fun s v => .of_eq rfl, fun base _ _ => ?_⟩
  exact ok_law (P := l.prog) (w := w) (base := base) T
end My

namespace My
open PySem L2 Pf
def tx (cs : List Nat) : Str := ⟨cs.toArray⟩
def tS (cs : List Nat) : D := .str (tx cs)
theorem tx_cps (cs : List Nat) : (tx cs).cps.toList = cs := rfl
theorem tx_len (cs : List Nat) : (tx cs).length = cs.length := by
  show cs.toArray.size = _
  simp
theorem tx_inj {a b : List Nat} (h : tx a = tx b) : a = b := by
  have := congrArg (fun z : Str => z.cps.toList) h
  exact this
theorem tx_beq (a b : List Nat) : (tx a == tx b) = decide (a = b) := by
  by_cases h : a = b
  · subst h; simp
  · rw [decide_eq_false h]
    exact beq_false_of_ne fun e => h (tx_inj e)
theorem tx_add (a b : List Nat) : tx a ++ tx b = tx (a ++ b) := by
  show Str.mk (a.toArray ++ b.toArray) = Str.mk (a ++ b).toArray
  simp
theorem tx_lenD {cs : List Nat} (h : cs.length ≤ 16777216) : lenD [tS cs] = some (.int cs.length) := by
  show (if (tx cs).length ≤ 16777216 then some (PyData.int (tx cs).length) else none) = _
  rw [tx_len, if_pos h]
theorem tx_pAdd {a b : List Nat} (h : a.length + b.length ≤ 16777216) : pAdd (tS a) (tS b) = some (tS (a ++ b)) := by
  show (if (tx a).length + (tx b).length ≤ 16777216 then some (PyData.str (tx a ++ tx b)) else none) = _
  rw [tx_len, tx_len, if_pos h, tx_add]
  rfl
theorem tx_ix {cs : List Nat} {p c : Nat} (h : cs.length ≤ 16777216) (hc : cs[p]? = some c) : pIx (tS cs) (.int p) = some (tS [c]) := by
  show (if (tx cs).length ≤ 16777216 then (atI (tx cs).cps.toList (p : Int)).map fun c => PyData.str ⟨#[c]⟩ else none) = _
  rw [tx_len, if_pos h, tx_cps, atI_lit cs p hc]
  rfl
theorem tx_inD (c : Nat) (ws : List Nat) : inD (tS [c]) (tS ws) = some (decide (c ∈ ws)) := by
  show some (!(Builtin.Str.occurrences (tx ws) (tx [c]) 0 (tx ws).length 1).isEmpty) = _
  have := StrLaws.found_one (tx ws) c
  rw [tx_cps] at this
  rw [← this]
  rfl
theorem tx_in (c : Nat) (ws : List Nat) : pIn (tS [c]) (tS ws) = some (.bool (decide (c ∈ ws))) := by
  unfold pIn
  rw [tx_inD]
  rfl
theorem tx_notin (c : Nat) (ws : List Nat) : pNotIn (tS [c]) (tS ws) = some (.bool (!decide (c ∈ ws))) := by
  unfold pNotIn
  rw [tx_inD]
  rfl
theorem tx_eq (a b : List Nat) : pEq (tS a) (tS b) = some (.bool (decide (a = b))) := by
  show pEq (.str (tx a)) (.str (tx b)) = _
  rw [pEq_str, tx_beq]
theorem sIx_nat (n d k : Nat) : HT.sIx n d (some (k : Int)) = min k n := by
  unfold HT.sIx
  show (if (k : Int) < 0 then ((k : Int) + (n : Int)).toNat else min (k : Int).toNat n) = _
  rw [if_neg (by omega), Int.toNat_natCast]
theorem tx_cut {cs : List Nat} (h : cs.length ≤ 16777216) (lo hi : Nat) : pSlS (tS cs) (some (lo : Int)) (some (hi : Int)) = some (tS ((cs.drop lo).take (hi - lo))) := by
  show (if (tx cs).length ≤ 16777216 then some (PyData.str (cutS (tx cs) (some (lo : Int)) (some (hi : Int)))) else none) = _
  rw [tx_len, if_pos h]
  unfold cutS
  rw [sIx_nat, sIx_nat, tx_cps, tx_len]
  congr 2
  show Str.mk _ = Str.mk _
  congr 2
  by_cases c : lo ≤ cs.length
  · rw [Nat.min_eq_left c]
    by_cases c2 : hi ≤ cs.length
    · rw [Nat.min_eq_left c2]
    · rw [Nat.min_eq_right (by omega), List.take_of_length_le (by rw [List.length_drop]; omega), List.take_of_length_le (by rw [List.length_drop]; omega)]
  · rw [Nat.min_eq_right (a := lo) (by omega), List.drop_eq_nil_of_le (Nat.le_refl _), List.drop_eq_nil_of_le (by omega)]
    simp
theorem tx_cutTo {cs : List Nat} (h : cs.length ≤ 16777216) (hi : Nat) : pSlS (tS cs) none (some (hi : Int)) = some (tS (cs.take hi)) := by
  have e := tx_cut h 0 hi
  rw [List.drop_zero, Nat.sub_zero] at e
  rw [← e]
  show (if (tx cs).length ≤ 16777216 then some (PyData.str (cutS (tx cs) none (some (hi : Int)))) else none) = (if (tx cs).length ≤ 16777216 then some (PyData.str (cutS (tx cs) (some ((0 : Nat) : Int)) (some (hi : Int)))) else none)
  unfold cutS
  rw [sIx_nat, sIx_nat, Nat.zero_min]
  rfl
theorem fromIx (n p : Nat) : fromIndex n (p : Int) = p := by
  unfold fromIndex
  rw [if_neg (by omega)]
  omega
theorem tx_sw {cs s : List Nat} {p : Nat} (hp : p ≤ cs.length) : Txt.startswith3 (tx cs) (tx s) (p : Int) = decide ((cs.drop p).take s.length = s) := by
  unfold Txt.startswith3
  rw [fromIx, StrLaws.subAt_eq, tx_len, tx_len, tx_cps, tx_cps]
  by_cases c : (cs.drop p).take s.length = s
  · have l := congrArg List.length c
    rw [List.length_take, List.length_drop] at l
    rw [decide_eq_true c, c, decide_eq_true (by omega)]
    simp
  · rw [decide_eq_false c]
    have : (List.take s.length (List.drop p cs) == s) = false := beq_false_of_ne c
    rw [this, Bool.and_false]
theorem tw_le {P : Nat → Bool} : ∀ r : List Nat, (r.takeWhile P).length ≤ r.length
  | [] => Nat.le_refl _
  | c :: r => by
    rw [List.takeWhile_cons]
    split
    · have := tw_le (P := P) r
      simp only [List.length_cons]
      omega
    · exact Nat.zero_le _
theorem tw_in {P : Nat → Bool} : ∀ (r : List Nat) (j : Nat), j < (r.takeWhile P).length → ∃ c, r[j]? = some c ∧ P c = true
  | [], j, h => by simp at h
  | c :: r, j, h => by
    rw [List.takeWhile_cons] at h
    by_cases k : P c = true
    · rw [if_pos k, List.length_cons] at h
      cases j with
      | zero => exact ⟨c, rfl, k⟩
      | succ j =>
        obtain ⟨d, h1, h2⟩ := tw_in (P := P) r j (by omega)
        exact ⟨d, h1, h2⟩
    · rw [if_neg k] at h
      exact absurd h (Nat.not_lt_zero _)
theorem tw_out {P : Nat → Bool} : ∀ (r : List Nat) (c : Nat), r[(r.takeWhile P).length]? = some c → P c = false
  | [], c, h => by simp at h
  | d :: r, c, h => by
    rw [List.takeWhile_cons] at h
    by_cases k : P d = true
    · rw [if_pos k, List.length_cons, List.getElem?_cons_succ] at h
      exact tw_out r c h
    · rw [if_neg k] at h
      have h : some d = some c := h
      cases h
      cases e : P d with
      | true => exact absurd e k
      | false => rfl
theorem tw_take {P : Nat → Bool} : ∀ r : List Nat, r.take (r.takeWhile P).length = r.takeWhile P
  | [] => rfl
  | c :: r => by
    rw [List.takeWhile_cons]
    by_cases k : P c = true
    · rw [if_pos k, List.length_cons, List.take_succ_cons, tw_take r]
    · rw [if_neg k]
      rfl
theorem getD_drop (cs : List Nat) (p j : Nat) : (tx cs).cps.getD (p + j) 0 = ((cs.drop p)[j]?).getD 0 := by
  rw [List.getElem?_drop]
  show cs.toArray.getD (p + j) 0 = _
  rw [Array.getD_eq_getD_getElem?]
  simp
theorem tx_find {cs : List Nat} {p c : Nat} (hp : p ≤ cs.length) : (Txt.find3 (tx cs) (tx [c]) (p : Int) = -1 ∧ p + ((cs.drop p).takeWhile (· != c)).length = cs.length) ∨
    (Txt.find3 (tx cs) (tx [c]) (p : Int) = ((p + ((cs.drop p).takeWhile (· != c)).length : Nat) : Int) ∧ p + ((cs.drop p).takeWhile (· != c)).length < cs.length) := by
  have le := tw_le (P := (· != c)) (cs.drop p)
  rw [List.length_drop] at le
  have sp := StrLaws.find3_spec (tx cs) c (p : Int)
  rw [fromIx, tx_len] at sp
  rcases sp with ⟨e, h⟩ | ⟨k, e, h1, h2, h3, h4⟩
  · refine .inl ⟨e, ?_⟩
    rcases Nat.lt_or_ge (p + ((cs.drop p).takeWhile (· != c)).length) cs.length with q | q
    · exfalso
      obtain ⟨d, hd⟩ : ∃ d, (cs.drop p)[((cs.drop p).takeWhile (· != c)).length]? = some d := by
        refine ⟨_, List.getElem?_eq_getElem ?_⟩
        rw [List.length_drop]
        omega
      have o := tw_out _ d hd
      have g := h (p + ((cs.drop p).takeWhile (· != c)).length) (by omega) q
      rw [getD_drop, hd] at g
      exact g (by simpa using o)
    · omega
  · refine .inr ?_
    have key : ((cs.drop p).takeWhile (· != c)).length = k - p := by
      rcases Nat.lt_trichotomy ((cs.drop p).takeWhile (· != c)).length (k - p) with q | q | q
      · exfalso
        obtain ⟨d, hd⟩ : ∃ d, (cs.drop p)[((cs.drop p).takeWhile (· != c)).length]? = some d := by
          refine ⟨_, List.getElem?_eq_getElem ?_⟩
          rw [List.length_drop]
          omega
        have o := tw_out _ d hd
        have g := h4 (p + ((cs.drop p).takeWhile (· != c)).length) (by omega) (by omega)
        rw [getD_drop, hd] at g
        exact g (by simpa using o)
      · exact q
      · exfalso
        obtain ⟨d, hd, hP⟩ := tw_in _ (k - p) q
        have g := getD_drop cs p (k - p)
        rw [show p + (k - p) = k by omega, h3, hd] at g
        have g : c = d := g
        simp [g] at hP
    rw [key]
    have ek : p + (k - p) = k := by omega
    rw [ek]
    exact ⟨e, h2⟩
def nls (ws : List Nat) : Nat := ws.count 10
theorem tx_count (ws : List Nat) : Txt.count (tx ws) (tx [10]) = (nls ws : Int) := by
  have e : Txt.count (tx ws) (tx [10]) = PyProof.Rows.cnt 10 ws := PyProof.Rows.count_cnt (tx ws) 10
  rw [e]
  unfold nls
  induction ws with
  | nil => rfl
  | cons c ws ih =>
    rw [PyProof.Rows.cnt_cons, ih (by exact PyProof.Rows.count_cnt (tx ws) 10), List.count_cons]
    by_cases k : c = 10
    · rw [if_pos k, k]
      simp
      omega
    · have k2 : (c == 10) = false := beq_false_of_ne k
      rw [if_neg k, k2]
      simp
def tl (ws : List Nat) : Nat := (ws.reverse.takeWhile (· != 10)).length
theorem nl_split : ∀ ws : List Nat, (10 ∉ ws) ∨ ∃ a b, ws = a ++ 10 :: b ∧ 10 ∉ b
  | [] => .inl (by simp)
  | c :: ws => by
    rcases nl_split ws with h | ⟨a, b, rfl, h⟩
    · by_cases k : c = 10
      · subst k
        exact .inr ⟨[], ws, rfl, h⟩
      · exact .inl (by simp only [List.mem_cons, not_or]; exact ⟨fun e => k e.symm, h⟩)
    · exact .inr ⟨c :: a, b, rfl, h⟩
theorem tw_all {P : Nat → Bool} : ∀ {r : List Nat}, (∀ c ∈ r, P c = true) → r.takeWhile P = r
  | [], _ => rfl
  | c :: r, h => by
    rw [List.takeWhile_cons, if_pos (h c List.mem_cons_self), tw_all fun d hd => h d (List.mem_cons_of_mem _ hd)]
theorem tw_app {P : Nat → Bool} {r t : List Nat} : (∀ c ∈ r, P c = true) → (r ++ t).takeWhile P = r ++ t.takeWhile P := by
  induction r with
  | nil => intro _; rfl
  | cons c r ih =>
    intro h
    rw [List.cons_append, List.takeWhile_cons, if_pos (h c List.mem_cons_self), ih fun d hd => h d (List.mem_cons_of_mem _ hd)]
    rfl
theorem no10 {b : List Nat} (h : 10 ∉ b) : ∀ c ∈ b.reverse, (c != 10) = true := fun c hc => by
  have : c ≠ 10 := fun e => h (by rw [← e]; exact List.mem_reverse.mp hc)
  simpa using this
theorem tl_none {ws : List Nat} (h : 10 ∉ ws) : tl ws = ws.length := by
  unfold tl
  rw [tw_all (no10 h), List.length_reverse]
theorem tl_some {a b : List Nat} (h : 10 ∉ b) : tl (a ++ 10 :: b) = b.length := by
  unfold tl
  rw [List.reverse_append, List.reverse_cons, List.append_assoc, tw_app (no10 h)]
  simp
theorem tl_app {ws w : List Nat} (h : 10 ∉ w) : tl (ws ++ w) = tl ws + w.length := by
  unfold tl
  rw [List.reverse_append, tw_app (no10 h), List.length_append, List.length_reverse]
  omega
theorem tl_nl {ws : List Nat} : tl (ws ++ [10]) = 0 := tl_some (b := []) (by simp)
theorem nls_app {ws w : List Nat} (h : 10 ∉ w) : nls (ws ++ w) = nls ws := by
  unfold nls
  rw [List.count_append, List.count_eq_zero.mpr h, Nat.add_zero]
theorem nls_nl {ws : List Nat} : nls (ws ++ [10]) = nls ws + 1 := by
  unfold nls
  rw [List.count_append]
  rfl
theorem at_iff10 (ws : List Nat) (i : Nat) : StrLaws.At (tx ws) (tx [10]) (tx ws).length i ↔ ws[i]? = some 10 := StrLaws.subAt_one (tx ws) 10 i
theorem tx_rfind (ws : List Nat) : Txt.rfind (tx ws) (tx [10]) = (ws.length : Int) - (tl ws : Int) - 1 := by
  unfold Txt.rfind
  have sp := StrLaws.last_spec (tx ws) (tx [10])
  rcases nl_split ws with h | ⟨a, b, rfl, h⟩
  · rw [tl_none h]
    rcases sp with ⟨e, _⟩ | ⟨i, e, hi, _⟩
    · rw [e]
      show (-1 : Int) = _
      omega
    · exfalso
      exact h (List.mem_of_getElem? ((at_iff10 ws i).mp hi))
  · rw [tl_some h]
    have at0 : StrLaws.At (tx (a ++ 10 :: b)) (tx [10]) (tx (a ++ 10 :: b)).length a.length := (at_iff10 _ _).mpr (by simp)
    rcases sp with ⟨_, hn⟩ | ⟨i, e, hi, hm⟩
    · exact absurd at0 (hn _)
    · have hi := (at_iff10 _ _).mp hi
      have : i = a.length := by
        rcases Nat.lt_trichotomy i a.length with q | q | q
        · exact absurd at0 (hm _ q)
        · exact q
        · exfalso
          rw [List.getElem?_append_right (by omega), show i - a.length = (i - a.length - 1) + 1 by omega, List.getElem?_cons_succ] at hi
          exact h (List.mem_of_getElem? hi)
      rw [e, this]
      show ((a.length : Nat) : Int) = _
      simp only [List.length_append, List.length_cons]
      omega
end My

namespace My
open PySem L2 Pf
theorem tnot_ok {f : EF} {env : List D} {b : Bool} (h : f env = some (.bool b)) : tNotF (tT f) env = some (!b) := by
  unfold tNotF tT
  rw [h]
  rfl
theorem tor_ff {a b : TF} {env : List D} (h : a env = some false) (k : b env = some false) : tOrF a b env = some false := by
  unfold tOrF
  rw [h]
  exact k
theorem tand_tt {a b : TF} {env : List D} (h : a env = some true) : tAndF a b env = b env := by
  unfold tAndF
  rw [h]
  rfl
theorem tand_ff {a b : TF} {env : List D} (h : a env = some false) : tAndF a b env = some false := by
  unfold tAndF
  rw [h]
  rfl
end My

namespace My
open PySem L2 Pf
def Bc : List Nat := [32, 9, 10]
def Lc : List Nat := (Str.ofString "abcdefghijklmnopqrstuvwxyzABCDEFGHIJKLMNOPQRSTUVWXYZ_").cps.toList
def Dc : List Nat := (Str.ofString "0123456789").cps.toList
def SG : List (List Nat) := ([":=", "..", "<=", ">=", "!=", "+-", "{", "}", "(", ")", "[", "]", ";", ":", ",", ".", "<", ">", "=", "+", "-", "*"] : List Str).map fun s => s.cps.toList
def tw (P : Nat → Bool) (cs : List Nat) (p : Nat) : Nat := ((cs.drop p).takeWhile P).length
def inP (ws : List Nat) (c : Nat) : Bool := decide (c ∈ ws)
theorem tw_bound {P : Nat → Bool} {cs : List Nat} {p : Nat} (hp : p ≤ cs.length) : p + tw P cs p ≤ cs.length := by
  have := tw_le (P := P) (cs.drop p)
  rw [List.length_drop] at this
  unfold tw
  omega
theorem tw_lt {P : Nat → Bool} {cs : List Nat} {p s : Nat} (h1 : p ≤ s) (h2 : s < p + tw P cs p) : ∃ d, cs[s]? = some d ∧ P d = true := by
  obtain ⟨d, h, k⟩ := tw_in (P := P) (cs.drop p) (s - p) (by unfold tw at h2; omega)
  rw [List.getElem?_drop, show p + (s - p) = s by omega] at h
  exact ⟨d, h, k⟩
theorem tw_end {P : Nat → Bool} {cs : List Nat} {p d : Nat} (h : cs[p + tw P cs p]? = some d) : P d = false := by
  refine tw_out (cs.drop p) d ?_
  rw [List.getElem?_drop]
  exact h
theorem at_lt {cs : List Nat} {p c : Nat} (h : cs[p]? = some c) : p < cs.length := (List.getElem?_eq_some_iff.mp h).1
theorem lt_at {cs : List Nat} {p : Nat} (h : p < cs.length) : ∃ c, cs[p]? = some c := ⟨_, List.getElem?_eq_getElem h⟩
section
variable {cs : List Nat} {p : Nat} (hN : cs.length ≤ 4000)
include hN
theorem lenT : lenD [tS cs] = some (.int cs.length) := tx_lenD (by omega)
theorem length_eq (hp : p ≤ cs.length) (ws : List Nat) : F_length_of [tS cs, .int (p : Int), tS ws] = some (.int (tw (inP ws) cs p : Nat)) := by
  have bd := tw_bound (P := inP ws) hp
  have key := while_inv (c := tAndF (tV (e2 pLt (eV 3) (eL lenD (aC (eV 0) aN)))) (tV (e2 pIn (e2 pIx (eV 0) (eV 3)) (eV 2)))) (body := L_length_of_1)
    (fun n e => ∃ s : Nat, e = [tS cs, .int (p : Int), tS ws, .int (s : Int)] ∧ p ≤ s ∧ s + n = p + tw (inP ws) cs p)
    (fun e => e = [tS cs, .int (p : Int), tS ws, .int ((p + tw (inP ws) cs p : Nat) : Int)]) (by
      rintro n e ⟨s, rfl, h1, h2⟩
      have t1 : tV (e2 pLt (eV 3) (eL lenD (aC (eV 0) aN))) [tS cs, .int (p : Int), tS ws, .int (s : Int)] = some (decide ((s : Int) < (cs.length : Int))) := tV_ok (e2_ok rfl (eL_ok (aC_ok rfl rfl) (lenT hN)) rfl)
      have t2 : ∀ d, cs[s]? = some d → tV (e2 pIn (e2 pIx (eV 0) (eV 3)) (eV 2)) [tS cs, .int (p : Int), tS ws, .int (s : Int)] = some (decide (d ∈ ws)) := fun d hd => tV_ok (e2_ok (e2_ok rfl rfl (tx_ix (by omega) hd)) rfl (tx_in d ws))
      by_cases n0 : n = 0
      · refine .inl ⟨?_, by rw [show s = p + tw (inP ws) cs p by omega]⟩
        by_cases c : s < cs.length
        · obtain ⟨d, hd⟩ := lt_at c
          rw [decide_eq_true (by omega)] at t1
          rw [tand_tt t1, t2 d hd]
          have : inP ws d = false := tw_end (P := inP ws) (p := p) (by rw [show p + tw (inP ws) cs p = s by omega]; exact hd)
          exact congrArg some this
        · rw [decide_eq_false (by omega)] at t1
          exact tand_ff t1
      · obtain ⟨d, hd, hP⟩ := tw_lt (P := inP ws) h1 (show s < p + tw (inP ws) cs p by omega)
        have := at_lt hd
        rw [decide_eq_true (by omega)] at t1
        refine .inr ⟨by rw [tand_tt t1, t2 d hd]; exact congrArg some hP, ?_⟩
        have b : L_length_of_1 [tS cs, .int (p : Int), tS ws, .int (s : Int)] = some (.nx [tS cs, .int (p : Int), tS ws, .int ((s + 1 : Nat) : Int)]) := rfl
        rw [b]
        exact ⟨n - 1, by omega, s + 1, rfl, by omega, by omega⟩)
  obtain ⟨e', w, rfl⟩ := key (tw (inP ws) cs p) [tS cs, .int (p : Int), tS ws, .int (p : Int)] ⟨p, rfl, Nat.le_refl _, rfl⟩
  refine runF_rt rfl ?_
  show B_length_of [tS cs, .int (p : Int), tS ws, .none] = _
  have s3 : sSet 3 (eV 1) [tS cs, .int (p : Int), tS ws, .none] = some (.nx [tS cs, .int (p : Int), tS ws, .int (p : Int)]) := rfl
  unfold B_length_of
  rw [r_seq, s3, r_nx, r_seq, w, r_nx]
  refine ret_rt ((e2_ok rfl rfl rfl : _ = some (PyData.int (((p + tw (inP ws) cs p : Nat) : Int) - (p : Int)))).trans ?_)
  congr 2
  omega
theorem comment_eq (hp : p ≤ cs.length) : F_comment_length [tS cs, .int (p : Int)] = some (.int (tw (· != 10) cs p : Nat)) := by
  refine runF_rt rfl ?_
  show B_comment_length [tS cs, .int (p : Int), .none] = _
  have ln := lenT hN
  unfold B_comment_length
  rcases tx_find (c := 10) hp with ⟨e, h⟩ | ⟨e, h⟩
  · have s2 : sSet 2 (eM (mSI fun x y i => .int (Txt.find3 x y i)) (eV 0) (aC (eC (.str (Str.ofString "\n"))) (aC (eV 1) aN))) [tS cs, .int (p : Int), .none] = some (.nx [tS cs, .int (p : Int), .int (-1)]) := set_nx (by
      show some (PyData.int (Txt.find3 (tx cs) (tx [10]) (p : Int))) = _
      rw [e])
    rw [r_seq, s2, r_nx, r_seq, if_tt (by rfl)]
    have s3 : sSet 2 (eL lenD (aC (eV 0) aN)) [tS cs, .int (p : Int), .int (-1)] = some (.nx [tS cs, .int (p : Int), .int (cs.length : Int)]) := set_nx (eL_ok (aC_ok rfl rfl) ln)
    rw [s3, r_nx]
    refine ret_rt ((e2_ok rfl rfl rfl : _ = some (PyData.int ((cs.length : Int) - (p : Int)))).trans ?_)
    unfold tw
    congr 2
    omega
  · have s2 : sSet 2 (eM (mSI fun x y i => .int (Txt.find3 x y i)) (eV 0) (aC (eC (.str (Str.ofString "\n"))) (aC (eV 1) aN))) [tS cs, .int (p : Int), .none] = some (.nx [tS cs, .int (p : Int), .int ((p + tw (· != 10) cs p : Nat) : Int)]) := set_nx (by
      show some (PyData.int (Txt.find3 (tx cs) (tx [10]) (p : Int))) = _
      rw [e]
      rfl)
    have t : tV (e2 pEq (eV 2) (e1 pNeg (eC (.int 1)))) [tS cs, .int (p : Int), .int ((p + tw (· != 10) cs p : Nat) : Int)] = some false := tV_ok (e2_ok rfl rfl (by
      rw [pEq_int]
      exact congrArg (fun b => some (PyData.bool b)) (beq_false_of_ne (by omega))))
    rw [r_seq, s2, r_nx, r_seq, if_ff t, r_skip, r_nx]
    exact ret_rt ((e2_ok rfl rfl rfl : _ = some (PyData.int (((p + tw (· != 10) cs p : Nat) : Int) - (p : Int)))).trans (congrArg (fun z => some (PyData.int z)) (by omega)))
def one (cs : List Nat) (p c : Nat) : Str × Nat :=
  if c ∈ Bc then (Str.ofString "blank", 1) else if c = 35 then (Str.ofString "blank", tw (· != 10) cs p) else if c ∈ Lc then (Str.ofString "word", tw (inP (Lc ++ Dc)) cs p) else if c ∈ Dc then (Str.ofString "number", tw (inP Dc) cs p)
  else match SG.find? fun s => decide ((cs.drop p).take s.length = s) with
    | some s => (Str.ofString "sign", s.length)
    | none => (Str.ofString "unknown", 1)
end
end My

namespace My
open PySem L2 Pf
section
variable {cs : List Nat} {p c : Nat} (hN : cs.length ≤ 4000) (hc : cs[p]? = some c)
theorem then_rt {o : Option Out} {d : D} {g : SF} (h : o = some (.rt d)) : thenO o g = some (.rt d) := by rw [h]; rfl
theorem add_ld (env : List D) : e2 pAdd (eC (.str (Str.ofString "abcdefghijklmnopqrstuvwxyzABCDEFGHIJKLMNOPQRSTUVWXYZ_"))) (eC (.str (Str.ofString "0123456789"))) env = some (tS (Lc ++ Dc)) := e2_ok rfl rfl (tx_pAdd (a := Lc) (b := Dc) (by decide +kernel))
include hN hc
theorem sg_loop : ∀ (gs : List (List Nat)) (x3 : D), (∀ s ∈ gs, s.length ≤ 100) → match gs.find? fun s => decide ((cs.drop p).take s.length = s) with
    | some s => sFor (gN 3) L_find_piece_1 (gs.map tS) [tS cs, .int (p : Int), tS [c], x3] = some (.rt (.tuple [.str (Str.ofString "sign"), .int (s.length : Nat)]))
    | none => ∃ y3, sFor (gN 3) L_find_piece_1 (gs.map tS) [tS cs, .int (p : Int), tS [c], x3] = some (.nx [tS cs, .int (p : Int), tS [c], y3])
  | [], x3, _ => ⟨x3, rfl⟩
  | s :: gs, x3, hs => by
    have g : gN 3 (tS s) [tS cs, .int (p : Int), tS [c], x3] = some [tS cs, .int (p : Int), tS [c], tS s] := rfl
    have pl := at_lt hc
    have t : tT (eM (mSI fun x y i => .bool (Txt.startswith3 x y i)) (eV 0) (aC (eV 3) (aC (eV 1) aN))) [tS cs, .int (p : Int), tS [c], tS s] = some (decide ((cs.drop p).take s.length = s)) := by
      refine tT_ok (d := .bool (Txt.startswith3 (tx cs) (tx s) (p : Int))) rfl ?_
      rw [tx_sw (by omega)]
      rfl
    have ih := sg_loop gs (tS s) fun r hr => hs r (List.mem_cons_of_mem _ hr)
    by_cases k : (cs.drop p).take s.length = s
    · rw [decide_eq_true k] at t
      rw [List.find?_cons_of_pos (by exact decide_eq_true k)]
      have b : L_find_piece_1 [tS cs, .int (p : Int), tS [c], tS s] = some (.rt (.tuple [.str (Str.ofString "sign"), .int (s.length : Nat)])) := by
        unfold L_find_piece_1
        rw [if_tt t]
        exact ret_rt (tup_ok (aC_ok rfl (aC_ok (eL_ok (aC_ok rfl rfl) (tx_lenD (by have := hs s List.mem_cons_self; omega))) rfl)) (by show 2 ≤ 16777216; decide))
      simp only [List.map_cons, sFor, g, Option.bind_some, b]
    · rw [decide_eq_false k] at t
      rw [List.find?_cons_of_neg (by rw [decide_eq_false k]; decide)]
      have b : L_find_piece_1 [tS cs, .int (p : Int), tS [c], tS s] = some (.nx [tS cs, .int (p : Int), tS [c], tS s]) := by
        unfold L_find_piece_1
        rw [if_ff t]
        rfl
      simp only [List.map_cons, sFor, g, Option.bind_some, b]
      exact ih
theorem fp_eq : F_find_piece [tS cs, .int (p : Int)] = some (.tuple [.str (one cs p c).1, .int ((one cs p c).2 : Nat)]) := by
  have pl := at_lt hc
  have two : ∀ a b : D, [a, b].length ≤ 16777216 := fun a b => by show 2 ≤ 16777216; decide
  have le := length_eq hN (p := p) (by omega)
  have ce := comment_eq hN (p := p) (by omega)
  refine runF_rt rfl ?_
  show B_find_piece [tS cs, .int (p : Int), .none, .none] = _
  have s2 : sSet 2 (e2 pIx (eV 0) (eV 1)) [tS cs, .int (p : Int), .none, .none] = some (.nx [tS cs, .int (p : Int), tS [c], .none]) := set_nx (e2_ok rfl rfl (tx_ix (by omega) hc))
  have t1 : tV (e2 pIn (eV 2) (eC (.str (Str.ofString " \t\n")))) [tS cs, .int (p : Int), tS [c], .none] = some (decide (c ∈ Bc)) := tV_ok (e2_ok rfl rfl (tx_in c Bc))
  have t2 : tV (e2 pEq (eV 2) (eC (.str (Str.ofString "#")))) [tS cs, .int (p : Int), tS [c], .none] = some (decide ([c] = [35])) := tV_ok (e2_ok rfl rfl (tx_eq [c] [35]))
  have t3 : tV (e2 pIn (eV 2) (eC (.str (Str.ofString "abcdefghijklmnopqrstuvwxyzABCDEFGHIJKLMNOPQRSTUVWXYZ_")))) [tS cs, .int (p : Int), tS [c], .none] = some (decide (c ∈ Lc)) := tV_ok (e2_ok rfl rfl (tx_in c Lc))
  have t4 : tV (e2 pIn (eV 2) (eC (.str (Str.ofString "0123456789")))) [tS cs, .int (p : Int), tS [c], .none] = some (decide (c ∈ Dc)) := tV_ok (e2_ok rfl rfl (tx_in c Dc))
  unfold B_find_piece one
  rw [r_seq, s2, r_nx, r_seq]
  by_cases c1 : c ∈ Bc
  · rw [if_tt (t1.trans (congrArg some (decide_eq_true c1))), if_pos c1]
    rfl
  rw [if_ff (t1.trans (congrArg some (decide_eq_false c1))), if_neg c1, r_skip, r_nx, r_seq]
  by_cases c2 : c = 35
  · rw [if_tt (t2.trans (congrArg some (decide_eq_true (by rw [c2])))), if_pos c2]
    exact then_rt (ret_rt (tup_ok (aC_ok rfl (aC_ok (eL_ok (aC_ok rfl (aC_ok rfl rfl)) ce) rfl)) (two _ _)))
  rw [if_ff (t2.trans (congrArg some (decide_eq_false (by simpa using c2)))), if_neg c2, r_skip, r_nx, r_seq]
  by_cases c3 : c ∈ Lc
  · rw [if_tt (t3.trans (congrArg some (decide_eq_true c3))), if_pos c3]
    exact then_rt (ret_rt (tup_ok (aC_ok rfl (aC_ok (eL_ok (aC_ok rfl (aC_ok rfl (aC_ok (add_ld _) rfl))) (le (Lc ++ Dc))) rfl)) (two _ _)))
  rw [if_ff (t3.trans (congrArg some (decide_eq_false c3))), if_neg c3, r_skip, r_nx, r_seq]
  by_cases c4 : c ∈ Dc
  · rw [if_tt (t4.trans (congrArg some (decide_eq_true c4))), if_pos c4]
    exact then_rt (ret_rt (tup_ok (aC_ok rfl (aC_ok (eL_ok (aC_ok rfl (aC_ok rfl (aC_ok rfl rfl))) (le Dc)) rfl)) (two _ _)))
  rw [if_ff (t4.trans (congrArg some (decide_eq_false c4))), if_neg c4, r_skip, r_nx, r_seq, for_run (show aGl k_SIGNS _ = some (SG.map tS) from rfl)]
  have lp := sg_loop hN hc SG .none (by decide +kernel)
  generalize (SG.find? fun s => decide ((cs.drop p).take s.length = s)) = o at lp ⊢
  cases o with
  | some s =>
    have lp : sFor _ _ _ _ = _ := lp
    rw [lp]
    rfl
  | none =>
    obtain ⟨y3, lp⟩ := lp
    rw [lp]
    rfl
end
end My

namespace My
open PySem L2 Pf
section
variable {cs : List Nat} {p c : Nat} (hN : cs.length ≤ 4000)
include hN
theorem lend_eq (hp : p ≤ cs.length) (ws : List Nat) : F__law_end [tS cs, .int (p : Int), tS ws] = some (.int ((p + tw (inP ws) cs p : Nat) : Int)) := by
  have bd := tw_bound (P := inP ws) hp
  have lp := for_rngS (lo := 0) (n := cs.length + 1) (g := gN 3) (body := L__law_end_1) (env := [tS cs, .int (p : Int), tS ws, .none])
    (fun k e => k ≤ tw (inP ws) cs p ∧ ∃ x3, e = [tS cs, .int ((p + k : Nat) : Int), tS ws, x3]) (fun _ d => d = .int ((p + tw (inP ws) cs p : Nat) : Int)) (fun _ _ => False) ⟨Nat.zero_le _, .none, rfl⟩ (by
      rintro k e hk ⟨h1, x3, rfl⟩
      rw [Int.zero_add]
      show Stp (L__law_end_1 [tS cs, .int ((p + k : Nat) : Int), tS ws, .int (k : Int)]) _ _ _
      have t1 : tV (e2 pGe (eV 1) (eL lenD (aC (eV 0) aN))) [tS cs, .int ((p + k : Nat) : Int), tS ws, .int (k : Int)] = some (decide ((cs.length : Int) ≤ ((p + k : Nat) : Int))) := tV_ok (e2_ok rfl (eL_ok (aC_ok rfl rfl) (lenT hN)) rfl)
      have t2 : ∀ d, cs[p + k]? = some d → tV (e2 pNotIn (e2 pIx (eV 0) (eV 1)) (eV 2)) [tS cs, .int ((p + k : Nat) : Int), tS ws, .int (k : Int)] = some (!decide (d ∈ ws)) := fun d hd => tV_ok (e2_ok (e2_ok rfl rfl (tx_ix (by omega) hd)) rfl (tx_notin d ws))
      have ret : ∀ b : Bool, b = true → tOrF (tV (e2 pGe (eV 1) (eL lenD (aC (eV 0) aN)))) (tV (e2 pNotIn (e2 pIx (eV 0) (eV 1)) (eV 2))) [tS cs, .int ((p + k : Nat) : Int), tS ws, .int (k : Int)] = some b → L__law_end_1 [tS cs, .int ((p + k : Nat) : Int), tS ws, .int (k : Int)] = some (.rt (.int ((p + k : Nat) : Int))) := fun b hb h => by
        subst hb
        unfold L__law_end_1
        rw [r_seq, if_tt h]
        rfl
      by_cases k0 : k = tw (inP ws) cs p
      · by_cases cl : p + k < cs.length
        · obtain ⟨d, hd⟩ := lt_at cl
          have hP : inP ws d = false := tw_end (P := inP ws) (p := p) (by rw [← k0]; exact hd)
          have hP : decide (d ∈ ws) = false := hP
          rw [decide_eq_false (by omega)] at t1
          rw [ret true rfl (by
            unfold tOrF
            rw [t1, Option.bind_some, if_neg (by decide), t2 d hd, hP]
            rfl)]
          show PyData.int _ = PyData.int _
          rw [k0]
        · rw [decide_eq_true (by omega)] at t1
          rw [ret true rfl (by
            unfold tOrF
            rw [t1]
            rfl)]
          show PyData.int _ = PyData.int _
          rw [k0]
      · obtain ⟨d, hd, hP⟩ := tw_lt (P := inP ws) (cs := cs) (p := p) (s := p + k) (by omega) (by omega)
        have hP : decide (d ∈ ws) = true := hP
        have := at_lt hd
        rw [decide_eq_false (by omega)] at t1
        have b : L__law_end_1 [tS cs, .int ((p + k : Nat) : Int), tS ws, .int (k : Int)] = some (.nx [tS cs, .int ((p + (k + 1) : Nat) : Int), tS ws, .int (k : Int)]) := by
          unfold L__law_end_1
          rw [r_seq, if_ff (tor_ff t1 ((t2 d hd).trans (by rw [hP]; rfl))), r_skip, r_nx]
          rfl
        rw [b]
        exact ⟨by omega, _, rfl⟩)
  have er : aRng1 (aC (e2 pAdd (eL lenD (aC (eV 0) aN)) (eC (.int 1))) aN) [tS cs, .int (p : Int), tS ws, .none] = some (rngD 0 (cs.length + 1)) :=
    aRng1_ok (aC_ok (e2_ok (eL_ok (aC_ok rfl rfl) (lenT hN)) rfl rfl) rfl) (by omega)
  refine runF_rt rfl ?_
  show B__law_end [tS cs, .int (p : Int), tS ws, .none] = _
  unfold B__law_end
  rw [r_seq, for_run er]
  rcases lp with ⟨e', h1, h2, _⟩ | ⟨i, d, _, h1, h2⟩ | ⟨i, e', _, _, h2⟩
  · omega
  · rw [h1, h2]
    rfl
  · exact h2.elim
def sgn (cs : List Nat) (p : Nat) : Option (List Nat) := SG.find? fun s => decide ((cs.drop p).take s.length = s)
theorem lsg_loop : ∀ (gs : List (List Nat)) (x2 : D), (∀ s ∈ gs, s.length ≤ 100) → match gs.find? fun s => decide ((cs.drop p).take s.length = s) with
    | some s => sFor (gN 2) L__law_sign_1 (gs.map tS) [tS cs, .int (p : Int), x2] = some (.rt (tS s))
    | none => ∃ y2, sFor (gN 2) L__law_sign_1 (gs.map tS) [tS cs, .int (p : Int), x2] = some (.nx [tS cs, .int (p : Int), y2])
  | [], x2, _ => ⟨x2, rfl⟩
  | s :: gs, x2, hs => by
    have g : gN 2 (tS s) [tS cs, .int (p : Int), x2] = some [tS cs, .int (p : Int), tS s] := rfl
    have ls := hs s List.mem_cons_self
    have sl : eSl pSlS (eV 0) (oS (eV 1)) (oS (e2 pAdd (eV 1) (eL lenD (aC (eV 2) aN)))) [tS cs, .int (p : Int), tS s] = some (tS ((cs.drop p).take s.length)) := by
      have e1 : e2 pAdd (eV 1) (eL lenD (aC (eV 2) aN)) [tS cs, .int (p : Int), tS s] = some (.int ((p + s.length : Nat) : Int)) := e2_ok rfl (eL_ok (aC_ok rfl rfl) (tx_lenD (by omega))) rfl
      rw [r_sl, r_oS, r_oS, e1]
      refine (tx_cut (by omega) p (p + s.length)).trans ?_
      rw [Nat.add_sub_cancel_left]
    have t : tV (e2 pEq (eSl pSlS (eV 0) (oS (eV 1)) (oS (e2 pAdd (eV 1) (eL lenD (aC (eV 2) aN))))) (eV 2)) [tS cs, .int (p : Int), tS s] = some (decide ((cs.drop p).take s.length = s)) := tV_ok (e2_ok sl rfl (tx_eq _ _))
    have ih := lsg_loop gs (tS s) fun r hr => hs r (List.mem_cons_of_mem _ hr)
    by_cases k : (cs.drop p).take s.length = s
    · rw [decide_eq_true k] at t
      rw [List.find?_cons_of_pos (by exact decide_eq_true k)]
      have b : L__law_sign_1 [tS cs, .int (p : Int), tS s] = some (.rt (tS s)) := by
        unfold L__law_sign_1
        rw [if_tt t]
        rfl
      simp only [List.map_cons, sFor, g, Option.bind_some, b]
    · rw [decide_eq_false k] at t
      rw [List.find?_cons_of_neg (by rw [decide_eq_false k]; decide)]
      have b : L__law_sign_1 [tS cs, .int (p : Int), tS s] = some (.nx [tS cs, .int (p : Int), tS s]) := by
        unfold L__law_sign_1
        rw [if_ff t]
        rfl
      simp only [List.map_cons, sFor, g, Option.bind_some, b]
      exact ih
theorem lsign_eq : F__law_sign [tS cs, .int (p : Int)] = some (tS ((sgn cs p).getD [])) := by
  refine runF_rt rfl ?_
  show B__law_sign [tS cs, .int (p : Int), .none] = _
  unfold B__law_sign sgn
  have lp := lsg_loop hN (p := p) SG .none (by decide +kernel)
  rw [r_seq, for_run (ds := SG.map tS) (by rfl)]
  generalize (SG.find? fun s => decide ((cs.drop p).take s.length = s)) = o at lp ⊢
  cases o with
  | some s =>
    have lp : sFor _ _ _ _ = _ := lp
    rw [lp]
    rfl
  | none =>
    obtain ⟨y2, lp⟩ := lp
    rw [lp]
    rfl
def bad (k : Str) (n : Nat) : Bool := k == Str.ofString "unknown" || (match lookS k_LONGEST k with | some i => decide (i < (n : Int)) | none => false)
def kd (k : Str) (n : Nat) : Str := if bad k n = true then Str.ofString "bad" else k
def wd (cs : List Nat) (p n : Nat) : List Nat := (cs.drop p).take n
theorem take_one {cs : List Nat} {p c : Nat} (h : cs[p]? = some c) : wd cs p 1 = [c] := by
  unfold wd
  obtain ⟨hl, he⟩ := List.getElem?_eq_some_iff.mp h
  rw [List.drop_eq_getElem_cons hl, he]
  rfl
theorem sg_pos : ∀ s ∈ SG, 1 ≤ s.length ∧ s.length ≤ 100 ∧ 10 ∉ s := by decide +kernel
theorem lo_eq (hc : cs[p]? = some c) : F__law_one [tS cs, .int (p : Int)] = some (.tuple [.str (kd (one cs p c).1 (one cs p c).2), tS (wd cs p (one cs p c).2)]) := by
  have pl := at_lt hc
  have two : ∀ a b : D, [a, b].length ≤ 16777216 := fun a b => by show 2 ≤ 16777216; decide
  have le := lend_eq hN (p := p) (by omega)
  have sg := lsign_eq hN (p := p)
  refine runF_rt rfl ?_
  show B__law_one [tS cs, .int (p : Int), .none, .none, .none, .none] = _
  have s2 : sSet 2 (e2 pIx (eV 0) (eV 1)) [tS cs, .int (p : Int), .none, .none, .none, .none] = some (.nx [tS cs, .int (p : Int), tS [c], .none, .none, .none]) := set_nx (e2_ok rfl rfl (tx_ix (by omega) hc))
  have t1 : tV (e2 pIn (eV 2) (eC (.str (Str.ofString " \t\n")))) [tS cs, .int (p : Int), tS [c], .none, .none, .none] = some (decide (c ∈ Bc)) := tV_ok (e2_ok rfl rfl (tx_in c Bc))
  have t2 : tV (e2 pEq (eV 2) (eC (.str (Str.ofString "#")))) [tS cs, .int (p : Int), tS [c], .none, .none, .none] = some (decide ([c] = [35])) := tV_ok (e2_ok rfl rfl (tx_eq [c] [35]))
  have t3 : tV (e2 pIn (eV 2) (eL F__law_letters aN)) [tS cs, .int (p : Int), tS [c], .none, .none, .none] = some (decide (c ∈ Lc)) := tV_ok (e2_ok rfl (y := tS Lc) rfl (tx_in c Lc))
  have t4 : tV (e2 pIn (eV 2) (eC (.str (Str.ofString "0123456789")))) [tS cs, .int (p : Int), tS [c], .none, .none, .none] = some (decide (c ∈ Dc)) := tV_ok (e2_ok rfl rfl (tx_in c Dc))
  have cutE : ∀ (hi : EF) (T : Nat) (env : List D), env[0]? = some (tS cs) → env[1]? = some (.int (p : Int)) → hi env = some (.int ((p + T : Nat) : Int)) → eSl pSlS (eV 0) (oS (eV 1)) (oS hi) env = some (tS (wd cs p T)) := fun hi T env h0 h1 h => by
    rw [r_sl, r_oS, r_oS, h, r_V, r_V, h0, h1]
    refine (tx_cut (by omega) p (p + T)).trans ?_
    rw [Nat.add_sub_cancel_left]
    rfl
  unfold B__law_one
  rw [r_seq, s2, r_nx, r_seq]
  by_cases c1 : c ∈ Bc
  · have e : one cs p c = (Str.ofString "blank", 1) := if_pos c1
    rw [if_tt (t1.trans (congrArg some (decide_eq_true c1))), e, take_one hN hc]
    rfl
  rw [if_ff (t1.trans (congrArg some (decide_eq_false c1))), r_skip, r_nx, r_seq]
  by_cases c2 : c = 35
  · have e : one cs p c = (Str.ofString "blank", tw (· != 10) cs p) := (if_neg c1).trans (if_pos c2)
    rw [if_tt (t2.trans (congrArg some (decide_eq_true (by rw [c2])))), e]
    have fin : ∀ v : Int, v = ((p + tw (· != 10) cs p : Nat) : Int) → sRet (eTup (aC (eC (.str (Str.ofString "blank"))) (aC (eSl pSlS (eV 0) (oS (eV 1)) (oS (eV 4))) aN))) [tS cs, .int (p : Int), tS [c], .none, .int v, .none] = some (.rt (.tuple [.str (Str.ofString "blank"), tS (wd cs p (tw (· != 10) cs p))])) := fun v hv => by
      subst hv
      exact ret_rt (tup_ok (aC_ok rfl (aC_ok (cutE (eV 4) (tw (· != 10) cs p) _ rfl rfl rfl) rfl)) (two _ _))
    refine then_rt ?_
    rcases tx_find (c := 10) (p := p) (cs := cs) (by omega) with ⟨e, h⟩ | ⟨e, h⟩
    · have s4 : sSet 4 (eM (mSI fun x y i => .int (Txt.find3 x y i)) (eV 0) (aC (eC (.str (Str.ofString "\n"))) (aC (eV 1) aN))) [tS cs, .int (p : Int), tS [c], .none, .none, .none] = some (.nx [tS cs, .int (p : Int), tS [c], .none, .int (-1), .none]) := set_nx (by
        show some (PyData.int (Txt.find3 (tx cs) (tx [10]) (p : Int))) = _
        rw [e])
      rw [r_seq, s4, r_nx, r_seq, if_tt (by rfl)]
      have s5 : sSet 4 (eL lenD (aC (eV 0) aN)) [tS cs, .int (p : Int), tS [c], .none, .int (-1), .none] = some (.nx [tS cs, .int (p : Int), tS [c], .none, .int (cs.length : Int), .none]) := set_nx (eL_ok (aC_ok rfl rfl) (lenT hN))
      rw [s5, r_nx]
      exact fin _ (by unfold tw; omega)
    · have s4 : sSet 4 (eM (mSI fun x y i => .int (Txt.find3 x y i)) (eV 0) (aC (eC (.str (Str.ofString "\n"))) (aC (eV 1) aN))) [tS cs, .int (p : Int), tS [c], .none, .none, .none] = some (.nx [tS cs, .int (p : Int), tS [c], .none, .int ((p + tw (· != 10) cs p : Nat) : Int), .none]) := set_nx (by
        show some (PyData.int (Txt.find3 (tx cs) (tx [10]) (p : Int))) = _
        rw [e]
        rfl)
      have t : tV (e2 pLt (eV 4) (eC (.int 0))) [tS cs, .int (p : Int), tS [c], .none, .int ((p + tw (· != 10) cs p : Nat) : Int), .none] = some false := tV_ok (e2_ok rfl rfl (congrArg (fun b => some (PyData.bool b)) (decide_eq_false (by omega))))
      rw [r_seq, s4, r_nx, r_seq, if_ff t, r_skip, r_nx]
      exact fin _ rfl
  rw [if_ff (t2.trans (congrArg some (decide_eq_false (by simpa using c2)))), r_skip, r_nx, r_seq]
  -- words and numbers
  have long : ∀ (k : Str) (T lim : Nat) (w : Str), lookS k_LONGEST k = some (lim : Int) → (k == Str.ofString "unknown") = false → T ≤ 4000 → p + T ≤ cs.length →
      (∀ env, env = [tS cs, .int (p : Int), tS [c], .none, .none, tS (wd cs p T)] → sSeq (sIf (tV (e2 pLe (eL lenD (aC (eV 5) aN)) (eC (.int (lim : Int))))) (sRet (eTup (aC (eC (.str k)) (aC (eV 5) aN)))) sSkip) (sRet (eTup (aC (eC (.str (Str.ofString "bad"))) (aC (eV 5) aN)))) env = some (.rt (.tuple [.str (kd k T), tS (wd cs p T)]))) := fun k T lim w h1 h2 h3 h4 env he => by
    subst he
    have wl : (wd cs p T).length = T := by
      unfold wd
      rw [List.length_take, List.length_drop]
      omega
    have t : tV (e2 pLe (eL lenD (aC (eV 5) aN)) (eC (.int (lim : Int)))) [tS cs, .int (p : Int), tS [c], .none, .none, tS (wd cs p T)] = some (decide ((T : Int) ≤ (lim : Int))) := by
      have e := tx_lenD (cs := wd cs p T) (by omega)
      rw [wl] at e
      exact tV_ok (e2_ok (eL_ok (aC_ok rfl rfl) e) rfl rfl)
    by_cases q : T ≤ lim
    · have bd : bad k T = false := by
        unfold bad
        rw [h1, h2, Bool.false_or]
        exact decide_eq_false (by omega)
      rw [r_seq, if_tt (t.trans (congrArg some (decide_eq_true (by omega))))]
      unfold kd
      rw [bd, if_neg (by decide)]
      exact then_rt (ret_rt (tup_ok (aC_ok rfl (aC_ok rfl rfl)) (two _ _)))
    · have bd : bad k T = true := by
        unfold bad
        rw [h1, h2, Bool.false_or]
        exact decide_eq_true (by omega)
      rw [r_seq, if_ff (t.trans (congrArg some (decide_eq_false (by omega)))), r_skip, r_nx]
      unfold kd
      rw [bd, if_pos rfl]
      exact ret_rt (tup_ok (aC_ok rfl (aC_ok rfl rfl)) (two _ _))
  by_cases c3 : c ∈ Lc
  · have e : one cs p c = (Str.ofString "word", tw (inP (Lc ++ Dc)) cs p) := (if_neg c1).trans ((if_neg c2).trans (if_pos c3))
    have bd := tw_bound (P := inP (Lc ++ Dc)) (cs := cs) (p := p) (by omega)
    rw [if_tt (t3.trans (congrArg some (decide_eq_true c3))), e]
    refine then_rt ?_
    have s5 : sSet 5 (eSl pSlS (eV 0) (oS (eV 1)) (oS (eL F__law_end (aC (eV 0) (aC (eV 1) (aC (e2 pAdd (eL F__law_letters aN) (eC (.str (Str.ofString "0123456789")))) aN)))))) [tS cs, .int (p : Int), tS [c], .none, .none, .none] = some (.nx [tS cs, .int (p : Int), tS [c], .none, .none, tS (wd cs p (tw (inP (Lc ++ Dc)) cs p))]) :=
      set_nx (cutE _ _ _ rfl rfl (eL_ok (aC_ok rfl (aC_ok rfl (aC_ok (e2_ok (x := tS Lc) (y := tS Dc) rfl rfl (tx_pAdd (by decide +kernel))) rfl))) (le (Lc ++ Dc))))
    rw [r_seq, s5, r_nx]
    exact long (Str.ofString "word") _ 20 (Str.ofString "word") (by decide +kernel) (by decide +kernel) (by omega) bd _ rfl
  rw [if_ff (t3.trans (congrArg some (decide_eq_false c3))), r_skip, r_nx, r_seq]
  by_cases c4 : c ∈ Dc
  · have e : one cs p c = (Str.ofString "number", tw (inP Dc) cs p) := (if_neg c1).trans ((if_neg c2).trans ((if_neg c3).trans (if_pos c4)))
    have bd := tw_bound (P := inP Dc) (cs := cs) (p := p) (by omega)
    rw [if_tt (t4.trans (congrArg some (decide_eq_true c4))), e]
    refine then_rt ?_
    have s5 : sSet 5 (eSl pSlS (eV 0) (oS (eV 1)) (oS (eL F__law_end (aC (eV 0) (aC (eV 1) (aC (eC (.str (Str.ofString "0123456789"))) aN)))))) [tS cs, .int (p : Int), tS [c], .none, .none, .none] = some (.nx [tS cs, .int (p : Int), tS [c], .none, .none, tS (wd cs p (tw (inP Dc) cs p))]) :=
      set_nx (cutE _ _ _ rfl rfl (eL_ok (aC_ok rfl (aC_ok rfl (aC_ok rfl rfl))) (le Dc)))
    rw [r_seq, s5, r_nx]
    exact long (Str.ofString "number") _ 7 (Str.ofString "number") (by decide +kernel) (by decide +kernel) (by omega) bd _ rfl
  rw [if_ff (t4.trans (congrArg some (decide_eq_false c4))), r_skip, r_nx, r_seq]
  have s3 : sSet 3 (eL F__law_sign (aC (eV 0) (aC (eV 1) aN))) [tS cs, .int (p : Int), tS [c], .none, .none, .none] = some (.nx [tS cs, .int (p : Int), tS [c], tS ((sgn cs p).getD []), .none, .none]) := set_nx (eL_ok (aC_ok rfl (aC_ok rfl rfl)) sg)
  rw [s3, r_nx, r_seq]
  cases hs : sgn cs p with
  | none =>
    have e : one cs p c = (Str.ofString "unknown", 1) := by
      refine (if_neg c1).trans ((if_neg c2).trans ((if_neg c3).trans ((if_neg c4).trans ?_)))
      unfold sgn at hs
      rw [hs]
    rw [e, take_one hN hc, if_tt (show _ = some true from tV_ok (e2_ok rfl rfl (tx_eq [] [])))]
    rfl
  | some s =>
    have e : one cs p c = (Str.ofString "sign", s.length) := by
      refine (if_neg c1).trans ((if_neg c2).trans ((if_neg c3).trans ((if_neg c4).trans ?_)))
      unfold sgn at hs
      rw [hs]
    have ms : s ∈ SG := List.mem_of_find?_eq_some hs
    have ws : wd cs p s.length = s := by
      have := List.find?_some hs
      exact of_decide_eq_true this
    have ps := sg_pos hN s ms
    have t : tV (e2 pEq (eV 3) (eC (.str (Str.ofString "")))) [tS cs, .int (p : Int), tS [c], tS s, .none, .none] = some (decide (s = [])) := tV_ok (e2_ok rfl rfl (tx_eq s []))
    rw [e]
    show thenO (sIf _ _ _ [tS cs, .int (p : Int), tS [c], tS s, .none, .none]) _ = some (.rt (.tuple [.str (Str.ofString "sign"), tS (wd cs p s.length)]))
    rw [if_ff (t.trans (congrArg some (decide_eq_false (fun z => by rw [z] at ps; exact absurd ps.1 (by decide))))), r_skip, r_nx, ws]
    exact ret_rt (tup_ok (aC_ok rfl (aC_ok rfl rfl)) (two _ _))
end
end My

namespace My
open PySem L2 Pf
def ln (cs : List Nat) (p : Nat) : Nat := nls (cs.take p) + 1
def cl (cs : List Nat) (p : Nat) : Nat := tl (cs.take p) + 1
def plc (cs : List Nat) (p : Nat) : D := .tuple [.int (ln cs p : Nat), .int (cl cs p : Nat)]
theorem tl_le (ws : List Nat) : tl ws ≤ ws.length := by
  have := tw_le (P := (· != 10)) ws.reverse
  rw [List.length_reverse] at this
  exact this
theorem nls_le (ws : List Nat) : nls ws ≤ ws.length := List.count_le_length
section
variable {cs : List Nat} (hN : cs.length ≤ 4000)
include hN
theorem place_eq {p : Nat} (hp : p ≤ cs.length) : F__law_place [tS cs, .int (p : Int)] = some (plc cs p) := by
  have tk : (cs.take p).length = p := by rw [List.length_take]; omega
  have s2 : sSet 2 (eSl pSlS (eV 0) oN (oS (eV 1))) [tS cs, .int (p : Int), .none, .none] = some (.nx [tS cs, .int (p : Int), tS (cs.take p), .none]) := set_nx (tx_cutTo (by omega) p)
  have s3 : sSet 3 (e2 pAdd (eM (mS1 fun x y => .int (Txt.count x y)) (eV 2) (aC (eC (.str (Str.ofString "\n"))) aN)) (eC (.int 1))) [tS cs, .int (p : Int), tS (cs.take p), .none] = some (.nx [tS cs, .int (p : Int), tS (cs.take p), .int (ln cs p : Nat)]) := by
    refine set_nx (e2_ok (x := .int (Txt.count (tx (cs.take p)) (tx [10]))) rfl rfl ?_)
    rw [tx_count]
    rfl
  have rf : eM (mS1 fun x y => .int (Txt.rfind x y)) (eV 2) (aC (eC (.str (Str.ofString "\n"))) aN) [tS cs, .int (p : Int), tS (cs.take p), .int (ln cs p : Nat)] = some (.int ((p : Int) - (tl (cs.take p) : Int) - 1)) := by
    show some (PyData.int (Txt.rfind (tx (cs.take p)) (tx [10]))) = _
    rw [tx_rfind, tk]
  have e : e2 pAdd (e2 pSub (eV 1) (e2 pAdd (eM (mS1 fun x y => .int (Txt.rfind x y)) (eV 2) (aC (eC (.str (Str.ofString "\n"))) aN)) (eC (.int 1)))) (eC (.int 1)) [tS cs, .int (p : Int), tS (cs.take p), .int (ln cs p : Nat)] = some (.int (cl cs p : Nat)) := by
    refine (e2_ok (e2_ok rfl (e2_ok rf rfl r_addI) r_subI) rfl r_addI : _ = some (PyData.int ((p : Int) - ((p : Int) - (tl (cs.take p) : Int) - 1 + 1) + 1))).trans ?_
    exact congrArg (fun z => some (PyData.int z)) (by unfold cl; omega)
  refine runF_rt rfl ?_
  show B__law_place [tS cs, .int (p : Int), .none, .none] = _
  unfold B__law_place
  rw [r_seq, s2, r_nx, r_seq, s3, r_nx]
  exact ret_rt (tup_ok (aC_ok rfl (aC_ok e rfl)) (by show 2 ≤ 16777216; decide))
theorem tw_pos {P : Nat → Bool} {p c : Nat} (hc : cs[p]? = some c) (h : P c = true) : 1 ≤ tw P cs p := by
  obtain ⟨hl, he⟩ := List.getElem?_eq_some_iff.mp hc
  unfold tw
  rw [List.drop_eq_getElem_cons hl, he, List.takeWhile_cons, if_pos h]
  exact Nat.succ_le_succ (Nat.zero_le _)
theorem tw_wd {P : Nat → Bool} {p : Nat} : ∀ d ∈ wd cs p (tw P cs p), P d = true := fun d hd => by
  have e : wd cs p (tw P cs p) = (cs.drop p).takeWhile P := tw_take _
  rw [e] at hd
  have : ∀ r : List Nat, d ∈ r.takeWhile P → P d = true := by
    intro r
    induction r with
    | nil => intro h; cases h
    | cons x r ih =>
      intro h
      rw [List.takeWhile_cons] at h
      split at h
      · rename_i k
        rcases List.mem_cons.mp h with e | h
        · rw [e]; exact k
        · exact ih h
      · cases h
  exact this _ hd
def kinds : List Str := [Str.ofString "blank", Str.ofString "word", Str.ofString "number", Str.ofString "sign", Str.ofString "unknown"]
theorem one_ok {p c : Nat} (hc : cs[p]? = some c) : 1 ≤ (one cs p c).2 ∧ p + (one cs p c).2 ≤ cs.length ∧ (one cs p c).1 ∈ kinds ∧ (wd cs p (one cs p c).2 = [10] ∨ 10 ∉ wd cs p (one cs p c).2) := by
  have pl := at_lt hc
  have b1 := tw_bound (P := (· != 10)) (cs := cs) (p := p) (by omega)
  have b2 := tw_bound (P := inP (Lc ++ Dc)) (cs := cs) (p := p) (by omega)
  have b3 := tw_bound (P := inP Dc) (cs := cs) (p := p) (by omega)
  have w1 := take_one hN hc
  unfold one
  by_cases c1 : c ∈ Bc
  · rw [if_pos c1]
    refine ⟨Nat.le_refl _, by show p + 1 ≤ _; omega, by decide +kernel, ?_⟩
    show wd cs p 1 = [10] ∨ 10 ∉ wd cs p 1
    rw [w1]
    by_cases k : c = 10
    · rw [k]; exact .inl rfl
    · exact .inr (by simp only [List.mem_singleton]; exact fun e => k e.symm)
  rw [if_neg c1]
  by_cases c2 : c = 35
  · rw [if_pos c2]
    exact ⟨tw_pos hN hc (by rw [c2]; rfl), b1, by show Str.ofString "blank" ∈ kinds; decide +kernel, .inr fun h => absurd (tw_wd hN _ h) (by decide)⟩
  rw [if_neg c2]
  by_cases c3 : c ∈ Lc
  · rw [if_pos c3]
    exact ⟨tw_pos hN hc (decide_eq_true (List.mem_append_left _ c3)), b2, by show Str.ofString "word" ∈ kinds; decide +kernel, .inr fun h => absurd (tw_wd hN _ h) (by decide +kernel)⟩
  rw [if_neg c3]
  by_cases c4 : c ∈ Dc
  · rw [if_pos c4]
    exact ⟨tw_pos hN hc (decide_eq_true c4), b3, by show Str.ofString "number" ∈ kinds; decide +kernel, .inr fun h => absurd (tw_wd hN _ h) (by decide +kernel)⟩
  rw [if_neg c4]
  cases hs : SG.find? fun s => decide ((cs.drop p).take s.length = s) with
  | some s =>
    have ms : s ∈ SG := List.mem_of_find?_eq_some hs
    have ws : wd cs p s.length = s := by
      have := List.find?_some hs
      exact of_decide_eq_true this
    have ps := sg_pos hN s ms
    have l := congrArg List.length ws
    unfold wd at l
    rw [List.length_take, List.length_drop] at l
    refine ⟨ps.1, by show p + s.length ≤ _; omega, by show Str.ofString "sign" ∈ kinds; decide +kernel, .inr ?_⟩
    show 10 ∉ wd cs p s.length
    rw [ws]
    exact ps.2.2
  | none =>
    refine ⟨Nat.le_refl _, by show p + 1 ≤ _; omega, by show Str.ofString "unknown" ∈ kinds; decide +kernel, .inr ?_⟩
    show 10 ∉ wd cs p 1
    rw [w1]
    simp only [List.mem_singleton]
    exact fun e => c1 (by rw [← e]; decide)
def tok (k : Str) (w : List Nat) (l c : Nat) : D := .tuple [.str k, tS w, .int (l : Nat), .int (c : Nat)]
def new (cs : List Nat) (p c : Nat) : List D := if (one cs p c).1 == Str.ofString "blank" then [] else [tok (one cs p c).1 (wd cs p (one cs p c).2) (ln cs p) (cl cs p)]
inductive Run (cs : List Nat) : Nat → List D → List D ⊕ Nat → Prop
  | stop {p : Nat} {acc : List D} : cs.length ≤ p → Run cs p acc (.inl acc)
  | bad {p c : Nat} {acc : List D} : cs[p]? = some c → bad (one cs p c).1 (one cs p c).2 = true → Run cs p acc (.inr p)
  | go {p c : Nat} {acc : List D} {r : List D ⊕ Nat} : cs[p]? = some c → My.bad (one cs p c).1 (one cs p c).2 = false → Run cs (p + (one cs p c).2) (acc ++ new cs p c) r → Run cs p acc r
theorem run_ex : ∀ (n p : Nat) (acc : List D), cs.length ≤ p + n → ∃ r, Run cs p acc r
  | 0, p, acc, h => ⟨_, .stop (by omega)⟩
  | n + 1, p, acc, h => by
    by_cases c0 : cs.length ≤ p
    · exact ⟨_, .stop c0⟩
    obtain ⟨c, hc⟩ := lt_at (cs := cs) (p := p) (by omega)
    cases k : bad (one cs p c).1 (one cs p c).2 with
    | true => exact ⟨_, .bad hc k⟩
    | false =>
      have := (one_ok hN hc).1
      obtain ⟨r, hr⟩ := run_ex n (p + (one cs p c).2) (acc ++ new cs p c) (by omega)
      exact ⟨r, .go hc k hr⟩
theorem wd_len {p n : Nat} (h : p + n ≤ cs.length) : (wd cs p n).length = n := by
  unfold wd
  rw [List.length_take, List.length_drop]
  omega
theorem take_wd (p n : Nat) : cs.take (p + n) = cs.take p ++ wd cs p n := List.take_add
theorem kind_ne {k : Str} (h : k ∈ kinds) : (k == Str.ofString "bad") = false := by
  have : ∀ k ∈ kinds, (k == Str.ofString "bad") = false := by decide +kernel
  exact this k h
theorem new_len (p c : Nat) : (new cs p c).length ≤ 1 := by
  unfold new
  split
  · exact Nat.zero_le _
  · exact Nat.le_refl _
theorem law_run {p : Nat} {acc : List D} {r : List D ⊕ Nat} (h : Run cs p acc r) : p ≤ cs.length → acc.length ≤ p → ∀ (ks : List D) (x3 x4 x5 x6 x7 : D), cs.length ≤ p + ks.length →
    match r with
    | .inl acc' => acc'.length ≤ cs.length ∧ ∃ y3 y4 y5 y6 y7, sFor (gN 3) L__law_words_1 ks [tS cs, .list acc, .int (p : Int), x3, x4, x5, x6, x7] = some (.nx [tS cs, .list acc', .int (cs.length : Int), y3, y4, y5, y6, y7])
    | .inr q => q < cs.length ∧ sFor (gN 3) L__law_words_1 ks [tS cs, .list acc, .int (p : Int), x3, x4, x5, x6, x7] = some (.rt (plc cs q)) := by
  have g : ∀ (p : Nat) (acc : List D) (d x3 x4 x5 x6 x7 : D), gN 3 d [tS cs, .list acc, .int (p : Int), x3, x4, x5, x6, x7] = some [tS cs, .list acc, .int (p : Int), d, x4, x5, x6, x7] := fun _ _ _ _ _ _ _ _ => rfl
  have tc : ∀ (p : Nat) (acc : List D) (x3 x4 x5 x6 x7 : D), tV (e2 pLt (eV 2) (eL lenD (aC (eV 0) aN))) [tS cs, .list acc, .int (p : Int), x3, x4, x5, x6, x7] = some (decide ((p : Int) < (cs.length : Int))) := fun p acc x3 x4 x5 x6 x7 => tV_ok (e2_ok rfl (eL_ok (aC_ok rfl rfl) (lenT hN)) rfl)
  have two : ∀ a b : D, [a, b].length ≤ 16777216 := fun a b => by show 2 ≤ 16777216; decide
  -- one turn up to the test of bad
  have turn : ∀ (p c : Nat) (acc : List D) (x3 x4 x5 x6 x7 : D), cs[p]? = some c → ∀ k n, one cs p c = (k, n) → L__law_words_1 [tS cs, .list acc, .int (p : Int), x3, x4, x5, x6, x7] =
      (sSeq (sIf (tV (e2 pEq (eV 6) (eC (.str (Str.ofString "bad"))))) (sRet (eTup (aC (eV 4) (aC (eV 5) aN)))) sSkip)
        (sSeq (sIf (tV (e2 pNe (eV 6) (eC (.str (Str.ofString "blank"))))) (sApp 1 (eTup (aC (eV 6) (aC (eV 7) (aC (eV 4) (aC (eV 5) aN)))))) sSkip)
          (sSet 2 (e2 pAdd (eV 2) (eL lenD (aC (eV 7) aN)))))) [tS cs, .list acc, .int (p : Int), x3, .int (ln cs p : Nat), .int (cl cs p : Nat), .str (kd k n), tS (wd cs p n)] := fun p c acc x3 x4 x5 x6 x7 hc k n ho => by
    have pl := at_lt hc
    have lo := lo_eq hN hc
    rw [ho] at lo
    have a1 : sAsg (gTpl (gMore (gN 6) (gMore (gN 7) gEmp)) 2) (eL F__law_one (aC (eV 0) (aC (eV 2) aN))) [tS cs, .list acc, .int (p : Int), x3, x4, x5, x6, x7] = some (.nx [tS cs, .list acc, .int (p : Int), x3, x4, x5, .str (kd k n), tS (wd cs p n)]) := by
      rw [r_asg, show eL F__law_one (aC (eV 0) (aC (eV 2) aN)) [tS cs, .list acc, .int (p : Int), x3, x4, x5, x6, x7] = _ from eL_ok (aC_ok rfl (aC_ok rfl rfl)) lo]
      rfl
    have a2 : sAsg (gTpl (gMore (gN 4) (gMore (gN 5) gEmp)) 2) (eL F__law_place (aC (eV 0) (aC (eV 2) aN))) [tS cs, .list acc, .int (p : Int), x3, x4, x5, .str (kd k n), tS (wd cs p n)] = some (.nx [tS cs, .list acc, .int (p : Int), x3, .int (ln cs p : Nat), .int (cl cs p : Nat), .str (kd k n), tS (wd cs p n)]) := by
      rw [r_asg, show eL F__law_place (aC (eV 0) (aC (eV 2) aN)) [tS cs, .list acc, .int (p : Int), x3, x4, x5, .str (kd k n), tS (wd cs p n)] = _ from eL_ok (aC_ok rfl (aC_ok rfl rfl)) (place_eq hN (by omega))]
      rfl
    unfold L__law_words_1
    rw [if_tt ((tc p acc x3 x4 x5 x6 x7).trans (congrArg some (decide_eq_true (by omega)))), r_seq, a1, r_nx, r_seq, a2, r_nx]
  induction h with
  | @stop p acc h0 =>
    intro hp ha ks
    intro x3 x4 x5 x6 x7 hk
    refine ⟨by omega, ?_⟩
    have ep : p = cs.length := by omega
    subst ep
    clear ha h0 hp hk
    induction ks generalizing x3 with
    | nil => exact ⟨x3, x4, x5, x6, x7, rfl⟩
    | cons k ks ih =>
      have b : L__law_words_1 [tS cs, .list acc, .int (cs.length : Int), k, x4, x5, x6, x7] = some (.nx [tS cs, .list acc, .int (cs.length : Int), k, x4, x5, x6, x7]) := by
        unfold L__law_words_1
        rw [if_ff ((tc _ acc k x4 x5 x6 x7).trans (congrArg some (decide_eq_false (by omega))))]
        rfl
      obtain ⟨y3, y4, y5, y6, y7, e⟩ := ih k
      refine ⟨y3, y4, y5, y6, y7, ?_⟩
      simp only [sFor, g, Option.bind_some, b]
      exact e
  | @bad p c acc hc hb =>
    intro hp ha ks x3 x4 x5 x6 x7 hk
    have pl := at_lt hc
    refine ⟨pl, ?_⟩
    cases ks with
    | nil => exact absurd hk (by simp only [List.length_nil]; omega)
    | cons k ks =>
      have t := turn p c acc k x4 x5 x6 x7 hc (one cs p c).1 (one cs p c).2 rfl
      have ek : kd (one cs p c).1 (one cs p c).2 = Str.ofString "bad" := by
        unfold kd
        rw [if_pos hb]
      rw [ek] at t
      have b : L__law_words_1 [tS cs, .list acc, .int (p : Int), k, x4, x5, x6, x7] = some (.rt (plc cs p)) := by
        rw [t, r_seq, if_tt (show _ = some true from tV_ok (e2_ok rfl rfl (pEq_str _ _)))]
        exact then_rt (ret_rt (tup_ok (aC_ok rfl (aC_ok rfl rfl)) (two _ _)))
      simp only [sFor, g, Option.bind_some, b]
  | @go p c acc r hc hb _ ih =>
    intro hp ha ks x3 x4 x5 x6 x7 hk
    have pl := at_lt hc
    obtain ⟨o1, o2, o3, o4⟩ := one_ok hN hc
    cases ks with
    | nil => exact absurd hk (by simp only [List.length_nil]; omega)
    | cons k ks =>
      have t := turn p c acc k x4 x5 x6 x7 hc (one cs p c).1 (one cs p c).2 rfl
      have ek : kd (one cs p c).1 (one cs p c).2 = (one cs p c).1 := by
        unfold kd
        rw [hb, if_neg (by decide)]
      rw [ek] at t
      have nl := new_len hN p c
      have wl := wd_len hN o2
      have b : L__law_words_1 [tS cs, .list acc, .int (p : Int), k, x4, x5, x6, x7] = some (.nx [tS cs, .list (acc ++ new cs p c), .int ((p + (one cs p c).2 : Nat) : Int), k, .int (ln cs p : Nat), .int (cl cs p : Nat), .str (one cs p c).1, tS (wd cs p (one cs p c).2)]) := by
        have l7 : lenD [tS (wd cs p (one cs p c).2)] = some (.int ((one cs p c).2 : Nat)) := by
          rw [tx_lenD (by omega), wl]
        rw [t, r_seq, if_ff (show _ = some false from tV_ok (e2_ok rfl rfl ((pEq_str _ _).trans (by rw [kind_ne hN o3])))), r_skip, r_nx, r_seq]
        have s2 : ∀ ac : List D, sSet 2 (e2 pAdd (eV 2) (eL lenD (aC (eV 7) aN))) [tS cs, .list ac, .int (p : Int), k, .int (ln cs p : Nat), .int (cl cs p : Nat), .str (one cs p c).1, tS (wd cs p (one cs p c).2)] = some (.nx [tS cs, .list ac, .int ((p + (one cs p c).2 : Nat) : Int), k, .int (ln cs p : Nat), .int (cl cs p : Nat), .str (one cs p c).1, tS (wd cs p (one cs p c).2)]) := fun ac => set_nx (e2_ok rfl (eL_ok (aC_ok rfl rfl) l7) rfl)
        have tb : tV (e2 pNe (eV 6) (eC (.str (Str.ofString "blank")))) [tS cs, .list acc, .int (p : Int), k, .int (ln cs p : Nat), .int (cl cs p : Nat), .str (one cs p c).1, tS (wd cs p (one cs p c).2)] = some (!((one cs p c).1 == Str.ofString "blank")) := tV_ok (e2_ok rfl rfl (pNe_str _ _))
        unfold new
        cases kb : (one cs p c).1 == Str.ofString "blank" with
        | true =>
          rw [kb] at tb
          rw [if_ff tb, r_skip, r_nx, s2, if_pos rfl, List.append_nil]
        | false =>
          rw [kb] at tb
          have ap : sApp 1 (eTup (aC (eV 6) (aC (eV 7) (aC (eV 4) (aC (eV 5) aN))))) [tS cs, .list acc, .int (p : Int), k, .int (ln cs p : Nat), .int (cl cs p : Nat), .str (one cs p c).1, tS (wd cs p (one cs p c).2)] = some (.nx [tS cs, .list (acc ++ [tok (one cs p c).1 (wd cs p (one cs p c).2) (ln cs p) (cl cs p)]), .int (p : Int), k, .int (ln cs p : Nat), .int (cl cs p : Nat), .str (one cs p c).1, tS (wd cs p (one cs p c).2)]) :=
            app_nx (tup_ok (aC_ok rfl (aC_ok rfl (aC_ok rfl (aC_ok rfl rfl)))) (by show 4 ≤ 16777216; decide)) rfl (by omega)
          rw [if_tt tb, ap, r_nx, s2, if_neg (by decide)]
      have q := ih o2 (by rw [List.length_append]; omega) ks k (.int (ln cs p : Nat)) (.int (cl cs p : Nat)) (.str (one cs p c).1) (tS (wd cs p (one cs p c).2)) (by simp only [List.length_cons] at hk; omega)
      simp only [sFor, g, Option.bind_some, b]
      cases r with
      | inl a => exact q
      | inr a => exact q
end
end My

namespace My
open PySem L2 Pf
def seX (l c : Nat) : D := .tuple [.str "SourceError", .list [.str "what", .str "column", .str "line"], .list [.str (Str.ofString "unknown character"), .int (c : Nat), .int (l : Nat)]]
def isTok (d : D) : Prop := ∃ k w l c, d = tok k w l c ∧ PyData.strOk k = true ∧ PyData.strOk (tx w) = true
def okC (cs : List Nat) : Prop := ∀ c ∈ cs, c < 1114112
theorem okC_str {w : List Nat} (h : okC w) : PyData.strOk (tx w) = true := by
  unfold PyData.strOk tx
  rw [List.all_toArray, List.all_eq_true]
  exact fun c hc => decide_eq_true (h c hc)
theorem okC_wd {cs : List Nat} (h : okC cs) (p n : Nat) : okC (wd cs p n) := fun c hc => h c (List.mem_of_mem_drop (List.mem_of_mem_take hc))
theorem kinds_ok {k : Str} (h : k ∈ kinds) : PyData.strOk k = true := by
  have : ∀ k ∈ kinds, PyData.strOk k = true := by decide +kernel
  exact this k h
section
variable {cs : List Nat} (hN : cs.length ≤ 4000)
include hN
theorem ln_le (p : Nat) : ln cs p ≤ 4001 := by
  have := nls_le (cs.take p)
  rw [List.length_take] at this
  unfold ln
  omega
theorem cl_le (p : Nat) : cl cs p ≤ 4001 := by
  have := tl_le (cs.take p)
  rw [List.length_take] at this
  unfold cl
  omega
theorem run_tok (hV : okC cs) {p : Nat} {acc : List D} {r : List D ⊕ Nat} (h : Run cs p acc r) : (∀ d ∈ acc, isTok d) → ∀ acc', r = .inl acc' → ∀ d ∈ acc', isTok d := by
  induction h with
  | stop _ => intro ha acc' e; cases e; exact ha
  | bad _ _ => intro ha acc' e; cases e
  | @go p c acc r hc hb _ ih =>
    intro ha
    refine ih fun d hd => ?_
    rcases List.mem_append.mp hd with h | h
    · exact ha d h
    · unfold new at h
      split at h
      · cases h
      · rw [List.mem_singleton] at h
        exact ⟨_, _, _, _, h, kinds_ok (one_ok hN hc).2.2.1, okC_str (okC_wd hV _ _)⟩
theorem prog_run {p : Nat} {acc : List D} {r : List D ⊕ Nat} (h : Run cs p acc r) : p ≤ cs.length → acc.length ≤ p → ∀ (x5 x6 x7 : D),
    match r with
    | .inl acc' => ∃ y5 y6 y7 m, sWh (tV (e2 pLt (eV 2) (eL lenD (aC (eV 0) aN)))) L_words_of_1 m [tS cs, .list acc, .int (p : Int), .int (ln cs p : Nat), .int (cl cs p : Nat), x5, x6, x7] = some (.nx [tS cs, .list acc', .int (cs.length : Int), .int (ln cs cs.length : Nat), .int (cl cs cs.length : Nat), y5, y6, y7])
    | .inr q => ∃ m, sWh (tV (e2 pLt (eV 2) (eL lenD (aC (eV 0) aN)))) L_words_of_1 m [tS cs, .list acc, .int (p : Int), .int (ln cs p : Nat), .int (cl cs p : Nat), x5, x6, x7] = some (.rt (mkX (seX (ln cs q) (cl cs q)))) := by
  have tc : ∀ (p : Nat) (acc : List D) (l c x5 x6 x7 : D), tV (e2 pLt (eV 2) (eL lenD (aC (eV 0) aN))) [tS cs, .list acc, .int (p : Int), l, c, x5, x6, x7] = some (decide ((p : Int) < (cs.length : Int))) := fun p acc l c x5 x6 x7 => tV_ok (e2_ok rfl (eL_ok (aC_ok rfl rfl) (lenT hN)) rfl)
  -- one turn up to the test
  have asg : ∀ (p c : Nat) (acc : List D) (l cc x5 x6 x7 : D), cs[p]? = some c → ∀ k n, one cs p c = (k, n) → sAsg (gTpl (gMore (gN 6) (gMore (gN 7) gEmp)) 2) (eL F_find_piece (aC (eV 0) (aC (eV 2) aN))) [tS cs, .list acc, .int (p : Int), l, cc, x5, x6, x7] = some (.nx [tS cs, .list acc, .int (p : Int), l, cc, x5, .str k, .int (n : Nat)]) := fun p c acc l cc x5 x6 x7 hc k n ho => by
    have fe := fp_eq hN hc
    rw [ho] at fe
    rw [r_asg, show eL F_find_piece (aC (eV 0) (aC (eV 2) aN)) [tS cs, .list acc, .int (p : Int), l, cc, x5, x6, x7] = _ from eL_ok (aC_ok rfl (aC_ok rfl rfl)) fe]
    rfl
  have tst : ∀ (p : Nat) (acc : List D) (l cc x5 : D) (k : Str) (n : Nat), tOrF (tV (e2 pEq (eV 6) (eC (.str (Str.ofString "unknown"))))) (tV (e2 pGt (eV 7) (eGetG k_LONGEST (eV 6) (eV 7)))) [tS cs, .list acc, .int (p : Int), l, cc, x5, .str k, .int (n : Nat)] = some (bad k n) := fun p acc l cc x5 k n => by
    have t1 : tV (e2 pEq (eV 6) (eC (.str (Str.ofString "unknown")))) [tS cs, .list acc, .int (p : Int), l, cc, x5, .str k, .int (n : Nat)] = some (k == Str.ofString "unknown") := tV_ok (e2_ok rfl rfl (pEq_str _ _))
    have t2 : tV (e2 pGt (eV 7) (eGetG k_LONGEST (eV 6) (eV 7))) [tS cs, .list acc, .int (p : Int), l, cc, x5, .str k, .int (n : Nat)] = some (match lookS k_LONGEST k with | some i => decide (i < (n : Int)) | none => false) := by
      have eg : eGetG k_LONGEST (eV 6) (eV 7) [tS cs, .list acc, .int (p : Int), l, cc, x5, .str k, .int (n : Nat)] = some (match lookS k_LONGEST k with | some i => PyData.int i | none => .int (n : Nat)) := rfl
      cases e : lookS k_LONGEST k with
      | some i =>
        rw [e] at eg
        exact tV_ok (e2_ok rfl eg rfl)
      | none =>
        rw [e] at eg
        refine (tV_ok (e2_ok rfl eg r_gtI)).trans ?_
        exact congrArg some (decide_eq_false (by omega))
    unfold tOrF
    rw [t1, Option.bind_some, t2]
    unfold bad
    cases k == Str.ofString "unknown" <;> rfl
  induction h with
  | @stop p acc h0 =>
    intro hp ha x5 x6 x7
    have ep : p = cs.length := by omega
    subst ep
    refine ⟨x5, x6, x7, 1, ?_⟩
    simp only [sWh, tc, decide_eq_false (show ¬ ((cs.length : Int) < (cs.length : Int)) by omega), Option.bind_some]
    rfl
  | @bad p c acc hc hb =>
    intro hp ha x5 x6 x7
    have pl := at_lt hc
    refine ⟨1, ?_⟩
    have l1 := ln_le hN p
    have l2 := cl_le hN p
    have b : L_words_of_1 [tS cs, .list acc, .int (p : Int), .int (ln cs p : Nat), .int (cl cs p : Nat), x5, x6, x7] = some (.rt (mkX (seX (ln cs p) (cl cs p)))) := by
      have rs : sRaise (eSe "SourceError" (aC (eV 3) (aC (eV 4) (aC (eC (.str (Str.ofString "unknown character"))) aN)))) [tS cs, .list acc, .int (p : Int), .int (ln cs p : Nat), .int (cl cs p : Nat), x5, .str (one cs p c).1, .int ((one cs p c).2 : Nat)] = some (.rt (mkX (seX (ln cs p) (cl cs p)))) := by
        have e : eSe "SourceError" (aC (eV 3) (aC (eV 4) (aC (eC (.str (Str.ofString "unknown character"))) aN))) [tS cs, .list acc, .int (p : Int), .int (ln cs p : Nat), .int (cl cs p : Nat), x5, .str (one cs p c).1, .int ((one cs p c).2 : Nat)] = some (seX (ln cs p) (cl cs p)) := by
          show (if ((ln cs p : Nat) : Int).natAbs < 10 ^ 12 ∧ ((cl cs p : Nat) : Int).natAbs < 10 ^ 12 ∧ (Str.ofString "unknown character").length ≤ 1000 then _ else none) = _
          rw [if_pos ⟨by omega, by omega, by decide +kernel⟩]
          rfl
        unfold sRaise
        rw [e]
        rfl
      unfold L_words_of_1
      rw [r_seq, asg p c acc _ _ x5 x6 x7 hc (one cs p c).1 (one cs p c).2 rfl, r_nx, r_seq, if_tt ((tst p acc _ _ x5 _ _).trans (congrArg some hb)), rs]
      rfl
    simp only [sWh, tc, decide_eq_true (show ((p : Int) < (cs.length : Int)) by omega), Option.bind_some, if_true, b]
  | @go p c acc r hc hb _ ih =>
    intro hp ha x5 x6 x7
    have pl := at_lt hc
    obtain ⟨o1, o2, o3, o4⟩ := one_ok hN hc
    have nl := new_len hN p c
    have wl := wd_len hN o2
    have tk := take_wd hN p (one cs p c).2
    have b : L_words_of_1 [tS cs, .list acc, .int (p : Int), .int (ln cs p : Nat), .int (cl cs p : Nat), x5, x6, x7] = some (.nx [tS cs, .list (acc ++ new cs p c), .int ((p + (one cs p c).2 : Nat) : Int), .int (ln cs (p + (one cs p c).2) : Nat), .int (cl cs (p + (one cs p c).2) : Nat), tS (wd cs p (one cs p c).2), .str (one cs p c).1, .int ((one cs p c).2 : Nat)]) := by
      have cut : sSet 5 (eSl pSlS (eV 0) (oS (eV 2)) (oS (e2 pAdd (eV 2) (eV 7)))) [tS cs, .list acc, .int (p : Int), .int (ln cs p : Nat), .int (cl cs p : Nat), x5, .str (one cs p c).1, .int ((one cs p c).2 : Nat)] = some (.nx [tS cs, .list acc, .int (p : Int), .int (ln cs p : Nat), .int (cl cs p : Nat), tS (wd cs p (one cs p c).2), .str (one cs p c).1, .int ((one cs p c).2 : Nat)]) := by
        refine set_nx ?_
        have e1 : e2 pAdd (eV 2) (eV 7) [tS cs, .list acc, .int (p : Int), .int (ln cs p : Nat), .int (cl cs p : Nat), x5, .str (one cs p c).1, .int ((one cs p c).2 : Nat)] = some (.int ((p + (one cs p c).2 : Nat) : Int)) := e2_ok rfl rfl rfl
        rw [r_sl, r_oS, r_oS, e1]
        refine (tx_cut (by omega) p (p + (one cs p c).2)).trans ?_
        rw [Nat.add_sub_cancel_left]
        rfl
      have tb : tV (e2 pNe (eV 6) (eC (.str (Str.ofString "blank")))) [tS cs, .list acc, .int (p : Int), .int (ln cs p : Nat), .int (cl cs p : Nat), tS (wd cs p (one cs p c).2), .str (one cs p c).1, .int ((one cs p c).2 : Nat)] = some (!((one cs p c).1 == Str.ofString "blank")) := tV_ok (e2_ok rfl rfl (pNe_str _ _))
      have md : sIf (tV (e2 pNe (eV 6) (eC (.str (Str.ofString "blank"))))) (sApp 1 (eTup (aC (eV 6) (aC (eV 5) (aC (eV 3) (aC (eV 4) aN)))))) sSkip [tS cs, .list acc, .int (p : Int), .int (ln cs p : Nat), .int (cl cs p : Nat), tS (wd cs p (one cs p c).2), .str (one cs p c).1, .int ((one cs p c).2 : Nat)] = some (.nx [tS cs, .list (acc ++ new cs p c), .int (p : Int), .int (ln cs p : Nat), .int (cl cs p : Nat), tS (wd cs p (one cs p c).2), .str (one cs p c).1, .int ((one cs p c).2 : Nat)]) := by
        unfold new
        cases kb : (one cs p c).1 == Str.ofString "blank" with
        | true =>
          rw [kb] at tb
          rw [if_ff tb, if_pos rfl, List.append_nil]
          rfl
        | false =>
          rw [kb] at tb
          rw [if_tt tb, if_neg (by decide)]
          exact app_nx (tup_ok (aC_ok rfl (aC_ok rfl (aC_ok rfl (aC_ok rfl rfl)))) (by show 4 ≤ 16777216; decide)) rfl (by omega)
      have s2 : sSet 2 (e2 (iOp0 fun a b => .int (a + b)) (eV 2) (eV 7)) [tS cs, .list (acc ++ new cs p c), .int (p : Int), .int (ln cs p : Nat), .int (cl cs p : Nat), tS (wd cs p (one cs p c).2), .str (one cs p c).1, .int ((one cs p c).2 : Nat)] = some (.nx [tS cs, .list (acc ++ new cs p c), .int ((p + (one cs p c).2 : Nat) : Int), .int (ln cs p : Nat), .int (cl cs p : Nat), tS (wd cs p (one cs p c).2), .str (one cs p c).1, .int ((one cs p c).2 : Nat)]) := rfl
      have s4 : sSet 4 (e2 (iOp0 fun a b => .int (a + b)) (eV 4) (eV 7)) [tS cs, .list (acc ++ new cs p c), .int ((p + (one cs p c).2 : Nat) : Int), .int (ln cs p : Nat), .int (cl cs p : Nat), tS (wd cs p (one cs p c).2), .str (one cs p c).1, .int ((one cs p c).2 : Nat)] = some (.nx [tS cs, .list (acc ++ new cs p c), .int ((p + (one cs p c).2 : Nat) : Int), .int (ln cs p : Nat), .int ((cl cs p + (one cs p c).2 : Nat) : Int), tS (wd cs p (one cs p c).2), .str (one cs p c).1, .int ((one cs p c).2 : Nat)]) := rfl
      have tn : tV (e2 pEq (eV 5) (eC (.str (Str.ofString "\n")))) [tS cs, .list (acc ++ new cs p c), .int ((p + (one cs p c).2 : Nat) : Int), .int (ln cs p : Nat), .int ((cl cs p + (one cs p c).2 : Nat) : Int), tS (wd cs p (one cs p c).2), .str (one cs p c).1, .int ((one cs p c).2 : Nat)] = some (decide (wd cs p (one cs p c).2 = [10])) := tV_ok (e2_ok rfl rfl (tx_eq _ [10]))
      unfold L_words_of_1
      rw [r_seq, asg p c acc _ _ x5 x6 x7 hc (one cs p c).1 (one cs p c).2 rfl, r_nx, r_seq, if_ff ((tst p acc _ _ x5 _ _).trans (congrArg some hb)), r_skip, r_nx, r_seq, cut, r_nx, r_seq, md, r_nx, r_seq, s2, r_nx, r_seq, s4, r_nx]
      by_cases w10 : wd cs p (one cs p c).2 = [10]
      · have e1 : ln cs (p + (one cs p c).2) = ln cs p + 1 := by
          unfold ln
          rw [tk, w10, nls_nl]
        have e2 : cl cs (p + (one cs p c).2) = 1 := by
          unfold cl
          rw [tk, w10, tl_nl]
        rw [if_tt (tn.trans (congrArg some (decide_eq_true w10))), e1, e2]
        rfl
      · have h10 : 10 ∉ wd cs p (one cs p c).2 := o4.resolve_left w10
        have e1 : ln cs (p + (one cs p c).2) = ln cs p := by
          unfold ln
          rw [tk, nls_app h10]
        have e2 : cl cs (p + (one cs p c).2) = cl cs p + (one cs p c).2 := by
          unfold cl
          rw [tk, tl_app h10, wl]
          omega
        rw [if_ff (tn.trans (congrArg some (decide_eq_false w10))), e1, e2]
        rfl
    have q := ih o2 (by rw [List.length_append]; omega) (tS (wd cs p (one cs p c).2)) (.str (one cs p c).1) (.int ((one cs p c).2 : Nat))
    cases r with
    | inl a =>
      obtain ⟨y5, y6, y7, m, e⟩ := q
      refine ⟨y5, y6, y7, m + 1, ?_⟩
      simp only [sWh, tc, decide_eq_true (show ((p : Int) < (cs.length : Int)) by omega), Option.bind_some, if_true, b]
      exact e
    | inr a =>
      obtain ⟨m, e⟩ := q
      refine ⟨m + 1, ?_⟩
      simp only [sWh, tc, decide_eq_true (show ((p : Int) < (cs.length : Int)) by omega), Option.bind_some, if_true, b]
      exact e
end
end My

namespace My
open PySem L2 Pf
theorem lookG_hit {k : Str} {ks fs : List D} {y : D} : lookG (.str k :: ks) (y :: fs) k = some y := if_pos rfl
theorem lookG_no {k f : Str} {ks fs : List D} {y : D} (h : ¬ k = f) : lookG (.str k :: ks) (y :: fs) f = lookG ks fs f := if_neg h
theorem pIx_nat {ds : List D} {k : Nat} {d : D} (h : ds[k]? = some d) : pIx (.list ds) (.int (k : Int)) = some d := atI_lit ds k h
theorem tok_ne {k : Str} {w : List Nat} (hk : PyData.strOk k = true) (hw : PyData.strOk (tx w) = true) (l c : Nat) : pNe (tok k w l c) (tok k w l c) = some (.bool false) := by
  have s : scalD (tok k w l c) (tok k w l c) = false := rfl
  have e : PyData.eqv (tok k w l c) (tok k w l c) = true := by
    simp [tok, tS, PyData.eqv, PyData.eqvAll]
  have n : (nd (tok k w l c) && nd (tok k w l c) && SeqAt.shaped (tok k w l c) && SeqAt.shaped (tok k w l c)) = true := by
    have h1 : nd (tok k w l c) = true := rfl
    have h2 : SeqAt.shaped (tok k w l c) = true := by simp [SeqAt.shaped, tok, tS, PyData.canLay0, PyData.canLayAll0, PyData.depth, PyData.depthAll, hk, hw]
    rw [h1, h2]
    rfl
  unfold pNe eqD
  rw [s, if_neg (by decide), if_pos n, e]
  rfl
theorem plc_eq (cs : List Nat) (q : Nat) : pEq (plc cs q) (plc cs q) = some (.bool true) := by
  have s : scalD (plc cs q) (plc cs q) = false := rfl
  have e : PyData.eqv (plc cs q) (plc cs q) = true := by
    simp [plc, PyData.eqv, PyData.eqvAll]
  have n : (nd (plc cs q) && nd (plc cs q) && SeqAt.shaped (plc cs q) && SeqAt.shaped (plc cs q)) = true := by
    have h1 : nd (plc cs q) = true := rfl
    have h2 : SeqAt.shaped (plc cs q) = true := by simp [SeqAt.shaped, plc, PyData.canLay0, PyData.canLayAll0, PyData.depth, PyData.depthAll]
    rw [h1, h2]
    rfl
  unfold pEq eqD
  rw [s, if_neg (by decide), if_pos n, e]
  rfl
def res (cs : List Nat) : List D ⊕ Nat → D
  | .inl acc => .list (acc ++ [tok (Str.ofString "end") [] (ln cs cs.length) (cl cs cs.length)])
  | .inr q => plc cs q
theorem fine_tup (cs : List Nat) (q : Nat) : F__law_fine [plc cs q, plc cs q] = some (.bool true) := by
  refine runF_rt rfl ?_
  show B__law_fine [plc cs q, plc cs q, .none] = _
  unfold B__law_fine
  rw [r_seq, if_tt (show _ = some true from rfl)]
  refine then_rt (ret_rt ?_)
  unfold eAnd
  rw [show eIsi "tuple" (eV 0) [plc cs q, plc cs q, .none] = some (.bool true) from rfl]
  show e2 pEq (eV 0) (eV 1) [plc cs q, plc cs q, .none] = _
  exact e2_ok rfl rfl (plc_eq cs q)
theorem fine_list {xs : List D} (ht : ∀ d ∈ xs, isTok d) (hl : xs.length ≤ 100000) : F__law_fine [.list xs, .list xs] = some (.bool true) := by
  have lp := for_rng (lo := 0) (n := xs.length) (g := gN 2) (body := L__law_fine_1) (env := [.list xs, .list xs, .none]) (fun k e => ∃ x2, e = [.list xs, .list xs, x2]) ⟨.none, rfl⟩ (by
    rintro k e hk ⟨x2, rfl⟩
    rw [Int.zero_add]
    show Stp (L__law_fine_1 [.list xs, .list xs, .int (k : Int)]) _ _ _
    obtain ⟨K, w, l, c, hd, hK, hw⟩ := ht xs[k] (List.getElem_mem hk)
    have ix : pIx (.list xs) (.int (k : Int)) = some (tok K w l c) := by
      rw [← hd]
      exact pIx_nat (List.getElem?_eq_getElem hk)
    have i0 : e2 pIx (eV 0) (eV 2) [.list xs, .list xs, .int (k : Int)] = some (tok K w l c) := e2_ok rfl rfl ix
    have i1 : e2 pIx (eV 1) (eV 2) [.list xs, .list xs, .int (k : Int)] = some (tok K w l c) := e2_ok rfl rfl ix
    have t1 : tNotF (tT (eIsi "tuple" (e2 pIx (eV 0) (eV 2)))) [.list xs, .list xs, .int (k : Int)] = some false := by
      refine tnot_ok (b := true) ?_
      unfold eIsi
      rw [i0]
      rfl
    have t2 : tV (e2 pNe (e2 pIx (eV 0) (eV 2)) (e2 pIx (eV 1) (eV 2))) [.list xs, .list xs, .int (k : Int)] = some false := tV_ok (e2_ok i0 i1 (tok_ne hK hw l c))
    have t3 : tT (eIsi "bool" (e2 pIx (e2 pIx (eV 0) (eV 2)) (eC (.int 2)))) [.list xs, .list xs, .int (k : Int)] = some false := by
      have : e2 pIx (e2 pIx (eV 0) (eV 2)) (eC (.int 2)) [.list xs, .list xs, .int (k : Int)] = some (.int (l : Nat)) := e2_ok i0 rfl rfl
      unfold tT eIsi
      rw [this]
      rfl
    have t4 : tT (eIsi "bool" (e2 pIx (e2 pIx (eV 0) (eV 2)) (eC (.int 3)))) [.list xs, .list xs, .int (k : Int)] = some false := by
      have : e2 pIx (e2 pIx (eV 0) (eV 2)) (eC (.int 3)) [.list xs, .list xs, .int (k : Int)] = some (.int (c : Nat)) := e2_ok i0 rfl rfl
      unfold tT eIsi
      rw [this]
      rfl
    have b : L__law_fine_1 [.list xs, .list xs, .int (k : Int)] = some (.nx [.list xs, .list xs, .int (k : Int)]) := by
      unfold L__law_fine_1
      rw [r_seq, if_ff (tor_ff t1 t2), r_skip, r_nx, if_ff (tor_ff t3 t4)]
      rfl
    rw [b]
    exact ⟨_, rfl⟩)
  obtain ⟨e', h, x2, rfl⟩ := lp
  refine runF_rt rfl ?_
  show B__law_fine [.list xs, .list xs, .none] = _
  have er : aRng1 (aC (eL lenD (aC (eV 1) aN)) aN) [.list xs, .list xs, .none] = some (rngD 0 xs.length) := aRng1_ok (aC_ok (eL_ok (aC_ok rfl rfl) r_lenL) rfl) (by omega)
  have t : tOrF (tNotF (tT (eIsi "list" (eV 0)))) (tV (e2 pNe (eL lenD (aC (eV 0) aN)) (eL lenD (aC (eV 1) aN)))) [.list xs, .list xs, .none] = some false := by
    refine tor_ff rfl (tV_ok (e2_ok (eL_ok (aC_ok rfl rfl) r_lenL) (eL_ok (aC_ok rfl rfl) r_lenL) ?_))
    rw [pNe_int]
    simp
  unfold B__law_fine
  rw [r_seq, if_ff (show _ = some false from rfl), r_skip, r_nx, r_seq, if_ff t, r_skip, r_nx, r_seq, for_run er, h, r_nx]
  rfl
section
variable {cs : List Nat} (hN : cs.length ≤ 4000)
include hN
theorem lwords_eq {r : List D ⊕ Nat} (h : Run cs 0 [] r) : F__law_words [tS cs] = some (res cs r) := by
  have lp := law_run hN h (Nat.zero_le _) (Nat.zero_le _) (rngD 0 (cs.length + 1)) .none .none .none .none .none (by unfold rngD; rw [List.length_map, List.length_range]; omega)
  have s1 : sSet 1 (eLst aN) [tS cs, .none, .none, .none, .none, .none, .none, .none] = some (.nx [tS cs, .list [], .none, .none, .none, .none, .none, .none]) := rfl
  have s2 : sSet 2 (eC (.int 0)) [tS cs, .list [], .none, .none, .none, .none, .none, .none] = some (.nx [tS cs, .list [], .int ((0 : Nat) : Int), .none, .none, .none, .none, .none]) := rfl
  have er : aRng1 (aC (e2 pAdd (eL lenD (aC (eV 0) aN)) (eC (.int 1))) aN) [tS cs, .list [], .int ((0 : Nat) : Int), .none, .none, .none, .none, .none] = some (rngD 0 (cs.length + 1)) :=
    aRng1_ok (aC_ok (e2_ok (eL_ok (aC_ok rfl rfl) (lenT hN)) rfl rfl) rfl) (by omega)
  refine runF_rt rfl ?_
  show B__law_words [tS cs, .none, .none, .none, .none, .none, .none, .none] = _
  unfold B__law_words
  rw [r_seq, s1, r_nx, r_seq, s2, r_nx, r_seq, for_run er]
  cases r with
  | inl acc =>
    obtain ⟨la, y3, y4, y5, y6, y7, e⟩ := lp
    have a2 : sAsg (gTpl (gMore (gN 4) (gMore (gN 5) gEmp)) 2) (eL F__law_place (aC (eV 0) (aC (eL lenD (aC (eV 0) aN)) aN))) [tS cs, .list acc, .int (cs.length : Int), y3, y4, y5, y6, y7] = some (.nx [tS cs, .list acc, .int (cs.length : Int), y3, .int (ln cs cs.length : Nat), .int (cl cs cs.length : Nat), y6, y7]) := by
      rw [r_asg, show eL F__law_place (aC (eV 0) (aC (eL lenD (aC (eV 0) aN)) aN)) [tS cs, .list acc, .int (cs.length : Int), y3, y4, y5, y6, y7] = _ from eL_ok (aC_ok rfl (aC_ok (eL_ok (aC_ok rfl rfl) (lenT hN)) rfl)) (place_eq hN (Nat.le_refl _))]
      rfl
    rw [e, r_nx, r_seq, a2, r_nx]
    refine ret_rt (e2_ok rfl (y := .list [tok (Str.ofString "end") [] (ln cs cs.length) (cl cs cs.length)]) rfl ?_)
    have : acc.length + [tok (Str.ofString "end") [] (ln cs cs.length) (cl cs cs.length)].length ≤ 16777216 := by
      show acc.length + 1 ≤ _
      omega
    show (if _ then _ else none) = _
    rw [if_pos this]
    rfl
  | inr q =>
    obtain ⟨_, e⟩ := lp
    rw [e]
    rfl
theorem words_eq {r : List D ⊕ Nat} (h : Run cs 0 [] r) : F_words_of [tS cs] = some (match r with
    | .inl _ => res cs r
    | .inr q => mkX (seX (ln cs q) (cl cs q))) := by
  have la : ∀ acc', r = .inl acc' → acc'.length ≤ cs.length := fun acc' e => by
    subst e
    exact (law_run hN h (Nat.zero_le _) (Nat.zero_le _) (rngD 0 (cs.length + 1)) .none .none .none .none .none (by unfold rngD; rw [List.length_map, List.length_range]; omega)).1
  have lp := prog_run hN h (Nat.zero_le _) (Nat.zero_le _) .none .none .none
  have s1 : sSet 1 (eLst aN) [tS cs, .none, .none, .none, .none, .none, .none, .none] = some (.nx [tS cs, .list [], .none, .none, .none, .none, .none, .none]) := rfl
  have s2 : sAsg (gTpl (gMore (gN 2) (gMore (gN 3) (gMore (gN 4) gEmp))) 3) (eTup (aC (eC (.int 0)) (aC (eC (.int 1)) (aC (eC (.int 1)) aN)))) [tS cs, .list [], .none, .none, .none, .none, .none, .none] = some (.nx [tS cs, .list [], .int ((0 : Nat) : Int), .int (ln cs 0 : Nat), .int (cl cs 0 : Nat), .none, .none, .none]) := rfl
  refine runF_rt rfl ?_
  show B_words_of [tS cs, .none, .none, .none, .none, .none, .none, .none] = _
  unfold B_words_of
  rw [r_seq, s1, r_nx, r_seq, s2, r_nx, r_seq]
  cases r with
  | inl acc =>
    obtain ⟨y5, y6, y7, m, e⟩ := lp
    have la := la acc rfl
    rw [sWhile_eq e, r_nx, r_seq]
    have ap : sApp 1 (eTup (aC (eC (.str (Str.ofString "end"))) (aC (eC (.str (Str.ofString ""))) (aC (eV 3) (aC (eV 4) aN))))) [tS cs, .list acc, .int (cs.length : Int), .int (ln cs cs.length : Nat), .int (cl cs cs.length : Nat), y5, y6, y7] = some (.nx [tS cs, .list (acc ++ [tok (Str.ofString "end") [] (ln cs cs.length) (cl cs cs.length)]), .int (cs.length : Int), .int (ln cs cs.length : Nat), .int (cl cs cs.length : Nat), y5, y6, y7]) :=
      app_nx (tup_ok (aC_ok rfl (aC_ok rfl (aC_ok rfl (aC_ok rfl rfl)))) (by show 4 ≤ 16777216; decide)) rfl (by omega)
    rw [ap]
    rfl
  | inr q =>
    obtain ⟨m, e⟩ := lp
    rw [sWhile_eq e]
    rfl
theorem asked_eq {r : List D ⊕ Nat} (h : Run cs 0 [] r) : F__law_asked [tS cs] = some (res cs r) := by
  have we := words_eq hN h
  have b : B__law_asked [tS cs, .none] = some (.rt (res cs r)) := by
    unfold B__law_asked sTryMany
    cases r with
    | inl acc =>
      have e : sRet (eL F_words_of (aC (eV 0) aN)) [tS cs, .none] = some (.rt (res cs (.inl acc))) := ret_rt (eL_ok (aC_ok rfl rfl) we)
      rw [e]
      rfl
    | inr q =>
      have e : sRet (eL F_words_of (aC (eV 0) aN)) [tS cs, .none] = some (.rt (mkX (seX (ln cs q) (cl cs q)))) := ret_rt (eL_ok (aC_ok rfl rfl) we)
      rw [e, Option.bind_some]
      simp only [unX_mk]
      have hp : pCls [("SourceError", true)] (seX (ln cs q) (cl cs q)) = some true := if_pos rfl
      unfold pickX
      rw [hp, Option.bind_some, if_pos rfl]
      have env1 : ([tS cs, PyData.none] : List D).set 1 (seX (ln cs q) (cl cs q)) = [tS cs, seX (ln cs q) (cl cs q)] := rfl
      rw [env1]
      have is1 : eIsX 1 "SourceError" true [tS cs, seX (ln cs q) (cl cs q)] = some (.bool true) := by
        show (if (Str.ofString "SourceError") = Str.ofString "SourceError" then some (PyData.bool true) else none) = _
        rw [if_pos rfl]
      have xe : ∀ f : Str, eXfG 1 "SourceError" f [tS cs, seX (ln cs q) (cl cs q)] = lookG [.str "what", .str "column", .str "line"] [.str (Str.ofString "unknown character"), .int (cl cs q : Nat), .int (ln cs q : Nat)] f := fun f => by
        show (if (Str.ofString "SourceError") = Str.ofString "SourceError" then lookG [.str "what", .str "column", .str "line"] [.str (Str.ofString "unknown character"), .int (cl cs q : Nat), .int (ln cs q : Nat)] f else none) = _
        rw [if_pos rfl]
      have fw : eXfG 1 "SourceError" "what" [tS cs, seX (ln cs q) (cl cs q)] = some (.str (Str.ofString "unknown character")) := (xe _).trans lookG_hit
      have fl : eXfG 1 "SourceError" "line" [tS cs, seX (ln cs q) (cl cs q)] = some (.int (ln cs q : Nat)) := (xe _).trans ((lookG_no (by decide)).trans ((lookG_no (by decide)).trans lookG_hit))
      have fc : eXfG 1 "SourceError" "column" [tS cs, seX (ln cs q) (cl cs q)] = some (.int (cl cs q : Nat)) := (xe _).trans ((lookG_no (by decide)).trans lookG_hit)
      have tI : tNotF (tV (eIsX 1 "SourceError" true)) [tS cs, seX (ln cs q) (cl cs q)] = some false := by
        unfold tNotF tV
        rw [is1]
        rfl
      have tW : tV (e2 pNe (eXfG 1 "SourceError" "what") (eC (.str (Str.ofString "unknown character")))) [tS cs, seX (ln cs q) (cl cs q)] = some false := tV_ok (e2_ok fw rfl (by rw [pNe_str, beq_self_eq_true]; rfl))
      unfold sIfR
      have rt : sRet (eTup (aC (eXfG 1 "SourceError" "line") (aC (eXfG 1 "SourceError" "column") aN))) [tS cs, seX (ln cs q) (cl cs q)] = some (.rt (plc cs q)) := ret_rt (tup_ok (aC_ok fl (aC_ok fc rfl)) (by show 2 ≤ 16777216; decide))
      rw [tor_ff tI (tor_ff tI tW), Option.bind_some, if_neg (by decide), rt]
      rfl
  have rf : runF 1 1 2 B__law_asked [tS cs] = some (res cs r) := runF_rt rfl b
  show (runF 1 1 2 B__law_asked [tS cs]).bind _ = _
  rw [rf, Option.bind_some]
  cases r <;> rfl
theorem fine_eq (hV : okC cs) {r : List D ⊕ Nat} (h : Run cs 0 [] r) : F__law_fine [res cs r, res cs r] = some (.bool true) := by
  cases r with
  | inl acc =>
    have la := (law_run hN h (Nat.zero_le _) (Nat.zero_le _) (rngD 0 (cs.length + 1)) .none .none .none .none .none (by unfold rngD; rw [List.length_map, List.length_range]; omega)).1
    refine fine_list (fun d hd => ?_) (by rw [List.length_append]; show _ + 1 ≤ _; omega)
    rcases List.mem_append.mp hd with k | k
    · exact run_tok hN hV h (fun _ z => nomatch z) acc rfl d k
    · rw [List.mem_singleton] at k
      exact ⟨_, _, _, _, k, by decide +kernel, by decide +kernel⟩
  | inr q => exact fine_tup cs q
end
end My

namespace My
open PySem L2 Pf
def cell (ns : List Int) (k : Int) : Int := ns.getD k.toNat 0
theorem cell_eq (ns : List Int) (k : Int) (hk : 0 ≤ k) : F__law_cell [.list (ns.map .int), .int k] = some (.int (cell ns k)) := by
  by_cases c : k < ns.length
  · have h : (ns.map PyData.int)[k.toNat]? = some (.int (cell ns k)) := by
      have : k.toNat < ns.length := by omega
      simp [cell, List.getD, this]
    simp [F__law_cell, runF, B__law_cell, sSeq, sIf, tV, e2, eV, eL, aC, aN, lenD, pLt, iOp0, c, bo, sRet, pIx, atI_of hk h]
  · have : ns.length ≤ k.toNat := by omega
    simp [F__law_cell, runF, B__law_cell, sSeq, sIf, tV, e2, eV, eL, aC, aN, lenD, pLt, iOp0, c, bo, sRet, pIx, sSkip, eC, cell, List.getD, this]
def d1 : Int → List Int → List Int
  | _, [] => []
  | c, s :: ss => c % s :: d1 (c / s) ss
def mix (m : Int) (j : Nat) : Int := (((m * 48271 + 11 + j) % 2147483647) * 69621 + 3) % 2147483647
def d2 : Int → Nat → List Int → List Int
  | _, _, [] => []
  | m, j, s :: ss => mix m j / 7 % s :: d2 (mix m j) (j + 1) ss
def draw (ns : List Int) (k : Int) (sizes : List Int) : List Int :=
  let c := (cell ns k).natAbs
  if (1000000000000000000 : Int) ≤ c then d1 (c - 1000000000000000000) sizes else d2 ((c + 1 + 31 * k) % 2147483647) 0 sizes
def Sz (ss : List Int) : Prop := ∀ s ∈ ss, 0 < s ∧ s < 2 ^ 100
theorem loop1 (a0 a1 a2 x5 x6 : D) : ∀ (ss : List Int) (c : Int) (dr : List Int) (x7 : D), Sz ss → dr.length + ss.length < 16777216 →
    ∃ c' x7', sFor (gN 7) (sSeq (sApp 4 (e2 pMod (eV 3) (eV 7))) (sSet 3 (e2 pDiv (eV 3) (eV 7)))) (ss.map .int) [a0, a1, a2, .int c, .list (dr.map .int), x5, x6, x7] = some (.nx [a0, a1, a2, c', .list ((dr ++ d1 c ss).map .int), x5, x6, x7'])
  | [], c, dr, x7, _, _ => ⟨.int c, x7, by simp [sFor, d1]⟩
  | s :: ss, c, dr, x7, h, hl => by
    have h0 := h s (by simp)
    have hl' : dr.length + (ss.length + 1) < 16777216 := by simpa using hl
    obtain ⟨c', x7', e⟩ := loop1 a0 a1 a2 x5 x6 ss (c / s) (dr ++ [c % s]) (.int s) (fun x hx => h x (by simp [hx])) (by simp; omega)
    refine ⟨c', x7', ?_⟩
    have hz : dr.length < 16777216 := by omega
    simp [sFor, gN, sSeq, sApp, e2, eV, pMod_ok h0.1, pDiv_ok h0.1 h0.2, hz, sSet, d1]
    simpa using e
theorem mix_lt (m : Int) (j : Nat) : 0 ≤ mix m j ∧ mix m j < 2147483647 := by unfold mix; omega
theorem loop2 (a0 a1 a3 : D) (sizes : List Int) (hs : Sz sizes) (hl : sizes.length < 100000) : ∀ (n : Nat) (m : Int) (j : Nat) (dr : List Int) (x6 x7 : D), j + n = sizes.length → 0 ≤ m → m < 2147483647 → dr.length = j →
    ∃ m' x6', sFor (gN 6) (sSeq (sSet 5 (e2 pMod (e2 pAdd (e2 pAdd (e2 pMul (eV 5) (eC (.int 48271))) (eC (.int 11))) (eV 6)) (eC (.int 2147483647))))
  (sSeq (sSet 5 (e2 pMod (e2 pAdd (e2 pMul (eV 5) (eC (.int 69621))) (eC (.int 3))) (eC (.int 2147483647))))
  (sApp 4 (e2 pMod (e2 pDiv (eV 5) (eC (.int 7))) (e2 pIx (eV 2) (eV 6)))))) ((rngD 0 sizes.length).drop j) [a0, a1, .list (sizes.map .int), a3, .list (dr.map .int), .int m, x6, x7] = some (.nx [a0, a1, .list (sizes.map .int), a3, .list ((dr ++ d2 m j (sizes.drop j)).map .int), m', x6', x7])
  | 0, m, j, dr, x6, x7, hj, _, _, _ => by
    have e1 : (rngD 0 sizes.length).drop j = [] := List.drop_eq_nil_of_le (by simp [rngD]; omega)
    have e2 : sizes.drop j = [] := List.drop_eq_nil_of_le (by omega)
    exact ⟨.int m, x6, by rw [e1, e2]; simp [sFor, d2]⟩
  | n + 1, m, j, dr, x6, x7, hj, h0, h1, hd => by
    have hjl : j < sizes.length := by omega
    have e1 : (rngD 0 sizes.length).drop j = .int j :: (rngD 0 sizes.length).drop (j + 1) := drop_get (by simp [rngD, hjl])
    have e3 : sizes.drop j = sizes[j] :: sizes.drop (j + 1) := List.drop_eq_getElem_cons hjl
    have hs0 := hs sizes[j] (List.getElem_mem hjl)
    have ix : atI (sizes.map PyData.int) (j : Int) = some (.int sizes[j]) := atI_lit _ j (by simp [hjl])
    have mm := mix_lt m j
    obtain ⟨m', x6', e⟩ := loop2 a0 a1 a3 sizes hs hl n (mix m j) (j + 1) (dr ++ [mix m j / 7 % sizes[j]]) (.int j) x7 (by omega) mm.1 mm.2 (by simp [hd])
    refine ⟨m', x6', ?_⟩
    rw [e1, e3]
    have hz : dr.length < 16777216 := by omega
    have hz' : j < 16777216 := by omega
    have p1 : pMul (.int m) (.int 48271) = some (.int (m * 48271)) := pMul_ok (by omega) (by omega) (by omega) (by omega)
    have p2 : pMul (.int ((m * 48271 + 11 + j) % 2147483647)) (.int 69621) = some (.int (((m * 48271 + 11 + j) % 2147483647) * 69621)) := pMul_ok (by omega) (by omega) (by omega) (by omega)
    simp [sFor, gN, sSeq, sApp, sSet, e2, eV, eC, p1, p2, pAdd, pMod_ok, pDiv_ok, pIx, ix, hz, hz', hd, hs0.1, d2]
    simpa [mix] using e
theorem pw18 : pPow (.int 10) (.int 18) = some (.int 1000000000000000000) := by
  have c : CPow 10 18 := ⟨by decide, by decide, by decide⟩
  have e : (10 : Int) ^ (18 : Int).toNat = 1000000000000000000 := by decide +kernel
  simp only [pPow, iOp, if_pos c, e]
def tailS : SF := (sSeq (sSet 4 (eLst aN))
  (sSeq (sIf (tV (e2 pGe (eV 3) (e2 pPow (eC (.int 10)) (eC (.int 18))))) (sSeq (sSet 3 (e2 pSub (eV 3) (e2 pPow (eC (.int 10)) (eC (.int 18)))))
  (sSeq (sForE (aSeq (eV 2)) (gN 7) (sSeq (sApp 4 (e2 pMod (eV 3) (eV 7)))
  (sSet 3 (e2 pDiv (eV 3) (eV 7)))))
  (sRet (eV 4))))
  sSkip)
  (sSeq (sSet 5 (e2 pMod (e2 pAdd (e2 pAdd (eV 3) (eC (.int 1))) (e2 pMul (eC (.int 31)) (eV 1))) (eC (.int 2147483647))))
  (sSeq (sForE (aRng1 (aC (eL lenD (aC (eV 2) aN)) aN)) (gN 6) (sSeq (sSet 5 (e2 pMod (e2 pAdd (e2 pAdd (e2 pMul (eV 5) (eC (.int 48271))) (eC (.int 11))) (eV 6)) (eC (.int 2147483647))))
  (sSeq (sSet 5 (e2 pMod (e2 pAdd (e2 pMul (eV 5) (eC (.int 69621))) (eC (.int 3))) (eC (.int 2147483647))))
  (sApp 4 (e2 pMod (e2 pDiv (eV 5) (eC (.int 7))) (e2 pIx (eV 2) (eV 6)))))))
  (sRet (eV 4))))))
theorem hzz (sizes : List Int) (hl : sizes.length < 100000) : ([] : List Int).length + sizes.length < 16777216 := by
  have : ([] : List Int).length = 0 := rfl
  omega
theorem drA0 (ns : List Int) (k c : Int) (sizes : List Int) (hs : Sz sizes) (hl : sizes.length < 100000) :
   ∃ c' x7', sFor (gN 7) (sSeq (sApp 4 (e2 pMod (eV 3) (eV 7))) (sSet 3 (e2 pDiv (eV 3) (eV 7)))) (sizes.map .int) [(.list (ns.map .int)), (.int k), (.list (sizes.map .int)), .int (c - 1000000000000000000), .list [], .none, .none, .none] = some (.nx [(.list (ns.map .int)), (.int k), (.list (sizes.map .int)), c', .list ((d1 (c - 1000000000000000000) sizes).map .int), .none, .none, x7']) := 
   loop1 (.list (ns.map .int)) (.int k) (.list (sizes.map .int)) .none .none sizes (c - 1000000000000000000) [] .none hs (hzz sizes hl)
theorem drA (ns : List Int) (k c : Int) (sizes : List Int) (hs : Sz sizes) (hl : sizes.length < 100000) (hc : c = ((cell ns k).natAbs : Int)) (h' : (1000000000000000000 : Int) ≤ c) :
  tailS [.list (ns.map .int), .int k, .list (sizes.map .int), .int c, .none, .none, .none, .none] = some (.rt (.list ((draw ns k sizes).map .int))) := by
  have pw' := pw18
  obtain ⟨c', x7', e⟩ := drA0 ns k c sizes hs hl
  simp [tailS, sSeq, sSet, eLst, aN, sIf, tV, e2, eV, eC, pw', pGe, iOp0, bo, h', pSub, sForE, aSeq, sRet]
  simp [e, draw, ← hc, h']
theorem drB0 (ns : List Int) (k c m : Int) (sizes : List Int) (hs : Sz sizes) (hl : sizes.length < 100000) (h0 : 0 ≤ m) (h1 : m < 2147483647) :
    ∃ m' x6', sFor (gN 6) (sSeq (sSet 5 (e2 pMod (e2 pAdd (e2 pAdd (e2 pMul (eV 5) (eC (.int 48271))) (eC (.int 11))) (eV 6)) (eC (.int 2147483647))))
  (sSeq (sSet 5 (e2 pMod (e2 pAdd (e2 pMul (eV 5) (eC (.int 69621))) (eC (.int 3))) (eC (.int 2147483647))))
  (sApp 4 (e2 pMod (e2 pDiv (eV 5) (eC (.int 7))) (e2 pIx (eV 2) (eV 6)))))) (rngD 0 sizes.length) [.list (ns.map .int), .int k, .list (sizes.map .int), .int c, .list [], .int m, .none, .none] = some (.nx [.list (ns.map .int), .int k, .list (sizes.map .int), .int c, .list ((d2 m 0 sizes).map .int), m', x6', .none]) :=
  loop2 (.list (ns.map .int)) (.int k) (.int c) sizes hs hl sizes.length m 0 [] .none .none (Nat.zero_add _) h0 h1 rfl
theorem drB (ns : List Int) (k c : Int) (sizes : List Int) (hk : 0 ≤ k) (hk2 : k < 1000000) (hs : Sz sizes) (hl : sizes.length < 100000) (hc : c = ((cell ns k).natAbs : Int)) (h' : ¬ (1000000000000000000 : Int) ≤ c) :
  tailS [.list (ns.map .int), .int k, .list (sizes.map .int), .int c, .none, .none, .none, .none] = some (.rt (.list ((draw ns k sizes).map .int))) := by
  have pw' := pw18
  have e5 : pMul (.int 31) (.int k) = some (.int (31 * k)) := pMul_ok (by omega) (by omega) (by omega) (by omega)
  obtain ⟨m', x6', e⟩ := drB0 ns k c ((c + 1 + 31 * k) % 2147483647) sizes hs hl (by omega) (by omega)
  have hge : pGe (.int c) (.int 1000000000000000000) = some (.bool false) := by
    show some (PyData.bool (decide ((1000000000000000000 : Int) ≤ c))) = _
    rw [decide_eq_false h']
  have er : aRng1 (aC (eL lenD (aC (eV 2) aN)) aN) [.list (ns.map .int), .int k, .list (sizes.map .int), .int c, .list [], .int ((c + 1 + 31 * k) % 2147483647), .none, .none] = some (rngD 0 sizes.length) :=
    aRng1_ok (by simp [aC, eL, lenD, eV, aN]) (by omega)
  have s1 : sSet 4 (eLst aN) [.list (ns.map .int), .int k, .list (sizes.map .int), .int c, .none, .none, .none, .none] = some (.nx [.list (ns.map .int), .int k, .list (sizes.map .int), .int c, .list [], .none, .none, .none]) := rfl
  have s2 : tV (e2 pGe (eV 3) (e2 pPow (eC (.int 10)) (eC (.int 18)))) [.list (ns.map .int), .int k, .list (sizes.map .int), .int c, .list [], .none, .none, .none] = some false :=
    tV_ok (e2_ok rfl (e2_ok rfl rfl pw18) hge)
  have s3 : sSet 5 (e2 pMod (e2 pAdd (e2 pAdd (eV 3) (eC (.int 1))) (e2 pMul (eC (.int 31)) (eV 1))) (eC (.int 2147483647))) [.list (ns.map .int), .int k, .list (sizes.map .int), .int c, .list [], .none, .none, .none] =
      some (.nx [.list (ns.map .int), .int k, .list (sizes.map .int), .int c, .list [], .int ((c + 1 + 31 * k) % 2147483647), .none, .none]) :=
    set_nx (e2_ok (e2_ok (e2_ok rfl rfl rfl) (e2_ok rfl rfl e5) rfl) rfl (pMod_ok (by omega)))
  unfold tailS
  rw [seq_nx s1, seq_nx (show sIf _ _ _ _ = some (.nx _) from (if_ff s2).trans rfl), seq_nx s3, seq_nx (show sForE _ _ _ _ = _ from (for_run er).trans e)]
  rw [ret_rt (show eV 4 _ = _ from rfl)]
  simp only [draw, ← hc]
  rw [if_neg h']
theorem draw_eq (ns : List Int) (k : Int) (sizes : List Int) (hk : 0 ≤ k) (hk2 : k < 1000000) (hs : Sz sizes) (hl : sizes.length < 100000) :
    F__law_draw [.list (ns.map .int), .int k, .list (sizes.map .int)] = some (.list ((draw ns k sizes).map .int)) := by
  have step : ∀ (c : Int), c = ((cell ns k).natAbs : Int) → tailS [.list (ns.map .int), .int k, .list (sizes.map .int), .int c, .none, .none, .none, .none] = some (.rt (.list ((draw ns k sizes).map .int))) := by
    intro c hc
    by_cases h' : (1000000000000000000 : Int) ≤ c
    · exact drA ns k c sizes hs hl hc h'
    · exact drB ns k c sizes hk hk2 hs hl hc h'
  have e0 : B__law_draw = sSeq (sSet 3 (eL F__law_cell (aC (eV 0) (aC (eV 1) aN)))) (sSeq (sIf (tV (e2 pLt (eV 3) (eC (.int 0)))) (sSet 3 (e1 pNeg (eV 3))) sSkip) tailS) := rfl
  refine runF_rt rfl ?_
  show B__law_draw [.list (ns.map .int), .int k, .list (sizes.map .int), .none, .none, .none, .none, .none] = _
  rw [e0]
  have h1 : sSet 3 (eL F__law_cell (aC (eV 0) (aC (eV 1) aN))) [.list (ns.map .int), .int k, .list (sizes.map .int), .none, .none, .none, .none, .none] = some (.nx [.list (ns.map .int), .int k, .list (sizes.map .int), .int (cell ns k), .none, .none, .none, .none]) :=
    set_nx (eL_ok rfl (cell_eq ns k hk))
  rw [seq_nx h1]
  by_cases hn : cell ns k < 0
  · have c : tV (e2 pLt (eV 3) (eC (.int 0))) [.list (ns.map .int), .int k, .list (sizes.map .int), .int (cell ns k), .none, .none, .none, .none] = some true :=
      tV_ok (e2_ok rfl rfl (by show some (PyData.bool (decide (cell ns k < 0))) = _; rw [decide_eq_true hn]))
    have h2 : sIf (tV (e2 pLt (eV 3) (eC (.int 0)))) (sSet 3 (e1 pNeg (eV 3))) sSkip [.list (ns.map .int), .int k, .list (sizes.map .int), .int (cell ns k), .none, .none, .none, .none] = some (.nx [.list (ns.map .int), .int k, .list (sizes.map .int), .int (-cell ns k), .none, .none, .none, .none]) := (if_tt c).trans rfl
    rw [seq_nx h2]
    exact step (-(cell ns k)) (by omega)
  · have c : tV (e2 pLt (eV 3) (eC (.int 0))) [.list (ns.map .int), .int k, .list (sizes.map .int), .int (cell ns k), .none, .none, .none, .none] = some false :=
      tV_ok (e2_ok rfl rfl (by show some (PyData.bool (decide (cell ns k < 0))) = _; rw [decide_eq_false hn]))
    have h2 : sIf (tV (e2 pLt (eV 3) (eC (.int 0)))) (sSet 3 (e1 pNeg (eV 3))) sSkip [.list (ns.map .int), .int k, .list (sizes.map .int), .int (cell ns k), .none, .none, .none, .none] = some (.nx [.list (ns.map .int), .int k, .list (sizes.map .int), .int (cell ns k), .none, .none, .none, .none]) := (if_ff c).trans rfl
    rw [seq_nx h2]
    exact step (cell ns k) (by omega)
theorem d1_ok : ∀ (ss : List Int) (c : Int), Sz ss → (d1 c ss).length = ss.length ∧ ∀ (i : Nat) (x s : Int), (d1 c ss)[i]? = some x → ss[i]? = some s → 0 ≤ x ∧ x < s
  | [], c, _ => ⟨rfl, fun i x s h => by simp [d1] at h⟩
  | s :: ss, c, h => by
    obtain ⟨l, q⟩ := d1_ok ss (c / s) (fun x hx => h x (by simp [hx]))
    refine ⟨by simp [d1, l], fun i x t hx ht => ?_⟩
    cases i with
    | zero =>
      simp [d1] at hx ht
      subst hx ht
      have := (h s (by simp)).1
      exact ⟨Int.emod_nonneg _ (by omega), Int.emod_lt_of_pos _ this⟩
    | succ i => exact q i x t (by simpa [d1] using hx) (by simpa using ht)
theorem d2_ok : ∀ (ss : List Int) (c : Int) (j : Nat), Sz ss → (d2 c j ss).length = ss.length ∧ ∀ (i : Nat) (x s : Int), (d2 c j ss)[i]? = some x → ss[i]? = some s → 0 ≤ x ∧ x < s
  | [], c, j, _ => ⟨rfl, fun i x s h => by simp [d2] at h⟩
  | s :: ss, c, j, h => by
    obtain ⟨l, q⟩ := d2_ok ss (mix c j) (j + 1) (fun x hx => h x (by simp [hx]))
    refine ⟨by simp [d2, l], fun i x t hx ht => ?_⟩
    cases i with
    | zero =>
      simp [d2] at hx ht
      subst hx ht
      have := (h s (by simp)).1
      exact ⟨Int.emod_nonneg _ (by omega), Int.emod_lt_of_pos _ this⟩
    | succ i => exact q i x t (by simpa [d2] using hx) (by simpa using ht)
theorem draw_ok (ns : List Int) (k : Int) (ss : List Int) (h : Sz ss) : (draw ns k ss).length = ss.length ∧ ∀ (i : Nat) (x s : Int), (draw ns k ss)[i]? = some x → ss[i]? = some s → 0 ≤ x ∧ x < s := by
  simp only [draw]
  split
  · exact d1_ok _ _ h
  · exact d2_ok _ _ _ h
end My

namespace My
open PySem L2 Pf
end My

namespace My
open PySem L2 Pf
theorem okC_app {a b : List Nat} (h : okC a) (k : okC b) : okC (a ++ b) := fun c hc => (List.mem_append.mp hc).elim (h c) (k c)
theorem okC_one {c : Nat} (h : c < 1114112) : okC [c] := fun d hd => by
  rw [List.mem_singleton] at hd
  rw [hd]
  exact h
theorem digit_eq {i : Int} (h0 : 0 ≤ i) (h1 : i < 10) : strD [.int i] = some (tS [48 + i.toNat]) := by
  have : i = 0 ∨ i = 1 ∨ i = 2 ∨ i = 3 ∨ i = 4 ∨ i = 5 ∨ i = 6 ∨ i = 7 ∨ i = 8 ∨ i = 9 := by omega
  have e : ∀ i : Int, i.natAbs.log2 < 1920 → Str.ofString (toString i) = tx [48 + i.toNat] → strD [.int i] = some (tS [48 + i.toNat]) := fun i hl h => by
    show (if i.natAbs.log2 < 1920 then some (PyData.str (Str.ofString (toString i))) else none) = _
    rw [if_pos hl, h]
    rfl
  rcases this with rfl | rfl | rfl | rfl | rfl | rfl | rfl | rfl | rfl | rfl <;> exact e _ (by decide +kernel) (by decide +kernel)
theorem let_ix {x : Int} (h0 : 0 ≤ x) (h1 : x < 53) : ∃ c, c < 1114112 ∧ pIx (tS Lc) (.int x) = some (tS [c]) := by
  have l : Lc.length = 53 := by decide +kernel
  obtain ⟨c, hc⟩ := lt_at (cs := Lc) (p := x.toNat) (by omega)
  have ok : ∀ c ∈ Lc, c < 1114112 := by decide +kernel
  refine ⟨c, ok c (List.mem_of_getElem? hc), ?_⟩
  have := tx_ix (cs := Lc) (p := x.toNat) (by omega) hc
  rw [show ((x.toNat : Nat) : Int) = x by omega] at this
  exact this
theorem pick_str {LL : List (List Nat)} (h : ∀ s ∈ LL, s.length ≤ 10 ∧ ∀ c ∈ s, c < 1114112) {i : Int} (h0 : 0 ≤ i) (h1 : i < LL.length) : ∃ w, pIx (.list (LL.map tS)) (.int i) = some (tS w) ∧ w.length ≤ 10 ∧ okC w := by
  have hl : i.toNat < LL.length := by omega
  refine ⟨LL[i.toNat], ?_, (h _ (List.getElem_mem hl)).1, (h _ (List.getElem_mem hl)).2⟩
  have := pIx_nat (ds := LL.map tS) (k := i.toNat) (d := tS LL[i.toNat]) (by rw [List.getElem?_map, List.getElem?_eq_getElem hl]; rfl)
  rw [show ((i.toNat : Nat) : Int) = i by omega] at this
  exact this
def sz : List Int := [12, 24, 53, 53, 53, 53, 10, 22, 13, 9]
theorem sz_ok : Sz sz := fun s hs => by
  have : ∀ s ∈ sz, 0 < s ∧ s < 2 ^ 100 := by decide +kernel
  exact this s hs
theorem SG_ok : ∀ s ∈ SG, s.length ≤ 10 ∧ ∀ c ∈ s, c < 1114112 := by decide +kernel
section
variable (ns : List Int) (k : Int) (hk : 0 ≤ k) (hk2 : k < 1000000) (odd : Bool)
include hk hk2
theorem piece_ok : ∃ w : List Nat, w.length ≤ 400 ∧ okC w ∧ F__law_piece [.list (ns.map .int), .int k, .bool odd] = some (tS w) := by
  have de := draw_eq ns k sz hk hk2 sz_ok (by decide)
  obtain ⟨dl, dq⟩ := draw_ok ns k sz sz_ok
  obtain ⟨ds, hds⟩ : ∃ ds, ds = draw ns k sz := ⟨_, rfl⟩
  rw [← hds] at de dl dq
  -- a digit
  have dig : ∀ (i : Nat) (s : Int), sz[i]? = some s → ∃ x : Int, ds[i]? = some x ∧ 0 ≤ x ∧ x < s := fun i s hs => by
    have hi : i < ds.length := by
      rw [dl]
      exact (List.getElem?_eq_some_iff.mp hs).1
    exact ⟨ds[i], List.getElem?_eq_getElem hi, dq i _ s (List.getElem?_eq_getElem hi) hs⟩
  have ixd : ∀ (i : Nat) (x : Int), ds[i]? = some x → pIx (.list (ds.map .int)) (.int (i : Int)) = some (.int x) := fun i x h => pIx_nat (by rw [List.getElem?_map, h]; rfl)
  obtain ⟨d0, h0, b0⟩ := dig 0 12 rfl
  obtain ⟨d1, h1, b1⟩ := dig 1 24 rfl
  obtain ⟨d2, h2, b2⟩ := dig 2 53 rfl
  obtain ⟨d6, h6, b6⟩ := dig 6 10 rfl
  obtain ⟨d7, h7, b7⟩ := dig 7 22 rfl
  obtain ⟨d8, h8, b8⟩ := dig 8 13 rfl
  obtain ⟨d9, h9, b9⟩ := dig 9 9 rfl
  have i0 := ixd 0 d0 h0
  have i1 := ixd 1 d1 h1
  have i2 := ixd 2 d2 h2
  have i6 := ixd 6 d6 h6
  have i7 := ixd 7 d7 h7
  have i8 := ixd 8 d8 h8
  have i9 := ixd 9 d9 h9
  -- one of the digits 2 to 5
  have i25 : ∀ j : Nat, ∃ x : Int, 0 ≤ x ∧ x < 53 ∧ pIx (.list (ds.map .int)) (.int (2 + (j : Int) % 4)) = some (.int x) := fun j => by
    obtain ⟨x, hx, b⟩ := dig (2 + j % 4) 53 (by
      have : j % 4 = 0 ∨ j % 4 = 1 ∨ j % 4 = 2 ∨ j % 4 = 3 := by omega
      rcases this with h | h | h | h <;> (rw [h]; rfl))
    refine ⟨x, b.1, b.2, ?_⟩
    have := ixd _ _ hx
    rw [show (((2 + j % 4 : Nat)) : Int) = 2 + (j : Int) % 4 by omega] at this
    exact this
  clear ixd dig h0 h1 h2 h6 h7 h8 h9 dq dl hds
  generalize PyData.list (ds.map .int) = DS at de i0 i1 i2 i6 i7 i8 i9 i25
  generalize hNS : PyData.list (ns.map .int) = NS at de
  have suf : ∀ w : List Nat, w.length ≤ 400 → okC w → B__law_piece [NS, .int k, .bool odd, .none, .none, .none, .none, .none, .none] = some (.rt (tS w)) → ∃ w : List Nat, w.length ≤ 400 ∧ okC w ∧ F__law_piece [NS, .int k, .bool odd] = some (tS w) := fun w a b c => ⟨w, a, b, runF_rt rfl c⟩
  have s3 : sSet 3 (eL F__law_draw (aC (eV 0) (aC (eV 1) (aC (eLst (aC (eC (.int 12)) (aC (eC (.int 24)) (aC (eC (.int 53)) (aC (eC (.int 53)) (aC (eC (.int 53)) (aC (eC (.int 53)) (aC (eC (.int 10)) (aC (eC (.int 22)) (aC (eC (.int 13)) (aC (eC (.int 9)) aN))))))))))) aN)))) [NS, .int k, .bool odd, .none, .none, .none, .none, .none, .none] = some (.nx [NS, .int k, .bool odd, DS, .none, .none, .none, .none, .none]) := set_nx (eL_ok (x := [NS, .int k, .list (sz.map .int)]) rfl de)
  have s4 : sSet 4 (e2 pIx (eV 3) (eC (.int 0))) [NS, .int k, .bool odd, DS, .none, .none, .none, .none, .none] = some (.nx [NS, .int k, .bool odd, DS, .int d0, .none, .none, .none, .none]) := set_nx (e2_ok rfl rfl i0)
  have cmp : ∀ (c : Int) , tV (e2 pLt (eV 4) (eC (.int c))) [NS, .int k, .bool odd, DS, .int d0, .none, .none, .none, .none] = some (decide (d0 < c)) := fun c => tV_ok (e2_ok rfl rfl rfl)
  have eqc : ∀ (c : Int) , tV (e2 pEq (eV 4) (eC (.int c))) [NS, .int k, .bool odd, DS, .int d0, .none, .none, .none, .none] = some (d0 == c) := fun c => tV_ok (e2_ok rfl rfl (pEq_int _ _))
  unfold B__law_piece at suf
  rw [r_seq, s3, r_nx, r_seq, s4, r_nx, r_seq] at suf
  by_cases c3 : d0 < 3
  · rw [if_tt ((cmp 3).trans (congrArg some (decide_eq_true c3)))] at suf
    obtain ⟨n, hn, n1⟩ : ∃ n : Nat, (n : Int) = 1 + d1 % (6 + 19 * (d8 % 2)) ∧ n ≤ 30 := by
      have p1 : 0 < 6 + 19 * (d8 % 2) := by omega
      have q0 := Int.emod_nonneg d1 (by omega : 6 + 19 * (d8 % 2) ≠ 0)
      have q1 := Int.emod_lt_of_pos d1 p1
      refine ⟨(1 + d1 % (6 + 19 * (d8 % 2))).toNat, by omega, by omega⟩
    have er : aRng1 (aC (e2 pAdd (eC (.int 1)) (e2 pMod (e2 pIx (eV 3) (eC (.int 1))) (e2 pAdd (eC (.int 6)) (e2 pMul (eC (.int 19)) (e2 pMod (e2 pIx (eV 3) (eC (.int 8))) (eC (.int 2))))))) aN) [NS, .int k, .bool odd, DS, .int d0, tS [], .none, .none, .none] = some (rngD 0 n) := by
      refine aRng1_ok (n := n) (aC_ok ?_ rfl) (by omega)
      rw [hn]
      exact e2_ok rfl (e2_ok (e2_ok rfl rfl i1) (e2_ok rfl (e2_ok rfl (e2_ok (e2_ok rfl rfl i8) rfl (pMod_ok (by decide))) (pMul_sm (by decide) (by decide) (by omega) (by omega))) rfl) (pMod_ok (by omega))) rfl
    have lp := for_rng (lo := 0) (n := n) (g := gN 6) (body := L__law_piece_1) (env := [NS, .int k, .bool odd, DS, .int d0, tS [], .none, .none, .none]) (fun j e => ∃ w x6, e = [NS, .int k, .bool odd, DS, .int d0, tS w, x6, .none, .none] ∧ w.length = j ∧ okC w) ⟨[], .none, rfl, rfl, fun _ h => nomatch h⟩ (by
      rintro j e hj ⟨w, x6, rfl, hw, ok⟩
      rw [Int.zero_add]
      show Stp (L__law_piece_1 [NS, .int k, .bool odd, DS, .int d0, tS w, .int (j : Int), .none, .none]) _ _ _
      obtain ⟨x, x0, x1, hx⟩ := i25 j
      have ex : e2 pIx (eV 3) (e2 pAdd (eC (.int 2)) (e2 pMod (eV 6) (eC (.int 4)))) [NS, .int k, .bool odd, DS, .int d0, tS w, .int (j : Int), .none, .none] = some (.int x) := e2_ok rfl (e2_ok rfl (e2_ok rfl rfl (pMod_ok (by decide))) rfl) hx
      have fin : ∀ c : Nat, c < 1114112 → ∀ f : EF, f [NS, .int k, .bool odd, DS, .int d0, tS w, .int (j : Int), .none, .none] = some (tS [c]) → Stp (sSet 5 (e2 pAdd (eV 5) f) [NS, .int k, .bool odd, DS, .int d0, tS w, .int (j : Int), .none, .none]) (fun e => ∃ w x6, e = [NS, .int k, .bool odd, DS, .int d0, tS w, x6, .none, .none] ∧ w.length = j + 1 ∧ okC w) (fun _ => False) (fun _ => False) := fun c hc f hf => by
        rw [set_nx (e2_ok rfl hf (tx_pAdd (by show w.length + 1 ≤ _; omega)))]
        exact ⟨w ++ [c], _, rfl, by rw [List.length_append, hw]; rfl, okC_app ok (okC_one hc)⟩
      have tb : ∃ b, tAndF (tV (e2 pGt (eV 6) (eC (.int 0)))) (tV (e2 pEq (e2 pMod (e2 pIx (eV 3) (e2 pAdd (eC (.int 2)) (e2 pMod (eV 6) (eC (.int 4))))) (eC (.int 5))) (eC (.int 1)))) [NS, .int k, .bool odd, DS, .int d0, tS w, .int (j : Int), .none, .none] = some b := by
        have t1 : tV (e2 pGt (eV 6) (eC (.int 0))) [NS, .int k, .bool odd, DS, .int d0, tS w, .int (j : Int), .none, .none] = some (decide ((0 : Int) < (j : Int))) := tV_ok (e2_ok rfl rfl rfl)
        have t2 : tV (e2 pEq (e2 pMod (e2 pIx (eV 3) (e2 pAdd (eC (.int 2)) (e2 pMod (eV 6) (eC (.int 4))))) (eC (.int 5))) (eC (.int 1))) [NS, .int k, .bool odd, DS, .int d0, tS w, .int (j : Int), .none, .none] = some (x % 5 == 1) := tV_ok (e2_ok (e2_ok ex rfl (pMod_ok (by decide))) rfl (pEq_int _ _))
        by_cases c : (0 : Int) < (j : Int)
        · exact ⟨_, (tand_tt (t1.trans (congrArg some (decide_eq_true c)))).trans t2⟩
        · exact ⟨false, tand_ff (t1.trans (congrArg some (decide_eq_false c)))⟩
      obtain ⟨b, tb⟩ := tb
      unfold L__law_piece_1
      cases b with
      | true =>
        rw [if_tt tb]
        refine fin (48 + ((d6 + (j : Int)) % 10).toNat) (by omega) _ (eL_ok (aC_ok (e2_ok (e2_ok (e2_ok rfl rfl i6) rfl rfl) rfl (pMod_ok (by decide))) rfl) (digit_eq (by omega) (by omega)))
      | false =>
        rw [if_ff tb]
        have jb : j ≤ 30 := by omega
        have q0 : 0 ≤ (j : Int) / 4 ∧ (j : Int) / 4 ≤ 30 := by omega
        obtain ⟨c, hc, ec⟩ := let_ix (x := (x + (j : Int) / 4 * d1) % 53) (by omega) (by omega)
        exact fin c hc _ (e2_ok (x := tS Lc) rfl (e2_ok (e2_ok ex (e2_ok (e2_ok rfl rfl (pDiv_ok (by decide) (by decide))) (e2_ok rfl rfl i1) (pMul_sm (by omega) (by omega) (by omega) (by omega))) rfl) rfl (pMod_ok (by decide))) ec))
    obtain ⟨e', l1, w, x6, rfl, hw, ok⟩ := lp
    refine suf w (by omega) ok (then_rt ?_)
    rw [r_seq, show sSet 5 (eC (.str (Str.ofString ""))) [NS, .int k, .bool odd, DS, .int d0, .none, .none, .none, .none] = some (.nx [NS, .int k, .bool odd, DS, .int d0, tS [], .none, .none, .none]) from rfl, r_nx, r_seq, for_run er, l1, r_nx]
    rfl
  rw [if_ff ((cmp 3).trans (congrArg some (decide_eq_false c3))), r_skip, r_nx, r_seq] at suf
  by_cases c5 : d0 < 5
  · rw [if_tt ((cmp 5).trans (congrArg some (decide_eq_true c5)))] at suf
    obtain ⟨n, hn, n1⟩ : ∃ n : Nat, (n : Int) = 1 + d9 % (7 + d8 % 3) ∧ n ≤ 30 := by
      have p1 : 0 < 7 + d8 % 3 := by omega
      have q0 := Int.emod_nonneg d9 (by omega : 7 + d8 % 3 ≠ 0)
      have q1 := Int.emod_lt_of_pos d9 p1
      refine ⟨(1 + d9 % (7 + d8 % 3)).toNat, by omega, by omega⟩
    have er : aRng1 (aC (e2 pAdd (eC (.int 1)) (e2 pMod (e2 pIx (eV 3) (eC (.int 9))) (e2 pAdd (eC (.int 7)) (e2 pMod (e2 pIx (eV 3) (eC (.int 8))) (eC (.int 3)))))) aN) [NS, .int k, .bool odd, DS, .int d0, .none, .none, tS [], .none] = some (rngD 0 n) := by
      refine aRng1_ok (n := n) (aC_ok ?_ rfl) (by omega)
      rw [hn]
      exact e2_ok rfl (e2_ok (e2_ok rfl rfl i9) (e2_ok rfl (e2_ok (e2_ok rfl rfl i8) rfl (pMod_ok (by decide))) rfl) (pMod_ok (by omega))) rfl
    have lp := for_rng (lo := 0) (n := n) (g := gN 6) (body := L__law_piece_2) (env := [NS, .int k, .bool odd, DS, .int d0, .none, .none, tS [], .none]) (fun j e => ∃ w x6, e = [NS, .int k, .bool odd, DS, .int d0, .none, x6, tS w, .none] ∧ w.length = j ∧ okC w) ⟨[], .none, rfl, rfl, fun _ h => nomatch h⟩ (by
      rintro j e hj ⟨w, x6, rfl, hw, ok⟩
      rw [Int.zero_add]
      show Stp (L__law_piece_2 [NS, .int k, .bool odd, DS, .int d0, .none, .int (j : Int), tS w, .none]) _ _ _
      have m : pMul (.int (j : Int)) (.int d7) = some (.int ((j : Int) * d7)) := pMul_sm (by omega) (by omega) (by omega) (by omega)
      have st : eL strD (aC (e2 pMod (e2 pAdd (e2 pIx (eV 3) (eC (.int 6))) (e2 pMul (eV 6) (e2 pIx (eV 3) (eC (.int 7))))) (eC (.int 10))) aN) [NS, .int k, .bool odd, DS, .int d0, .none, .int (j : Int), tS w, .none] = some (tS [48 + ((d6 + (j : Int) * d7) % 10).toNat]) :=
        eL_ok (aC_ok (e2_ok (e2_ok (e2_ok rfl rfl i6) (e2_ok rfl (e2_ok rfl rfl i7) m) rfl) rfl (pMod_ok (by decide))) rfl) (digit_eq (by omega) (by omega))
      unfold L__law_piece_2
      rw [set_nx (e2_ok rfl st (tx_pAdd (by show w.length + 1 ≤ _; omega)))]
      exact ⟨w ++ [48 + ((d6 + (j : Int) * d7) % 10).toNat], _, rfl, by rw [List.length_append, hw]; rfl, okC_app ok (okC_one (by omega))⟩)
    obtain ⟨e', l1, w, x6, rfl, hw, ok⟩ := lp
    refine suf w (by omega) ok (then_rt ?_)
    rw [r_seq, show sSet 7 (eC (.str (Str.ofString ""))) [NS, .int k, .bool odd, DS, .int d0, .none, .none, .none, .none] = some (.nx [NS, .int k, .bool odd, DS, .int d0, .none, .none, tS [], .none]) from rfl, r_nx, r_seq, for_run er, l1, r_nx]
    rfl
  rw [if_ff ((cmp 5).trans (congrArg some (decide_eq_false c5))), r_skip, r_nx, r_seq] at suf
  by_cases c8 : d0 < 8
  · rw [if_tt ((cmp 8).trans (congrArg some (decide_eq_true c8)))] at suf
    have lSG : (SG.length : Int) = 22 := by decide +kernel
    obtain ⟨w7, e7, l7, k7⟩ := pick_str SG_ok (i := d7) b7.1 (by omega)
    obtain ⟨w1, e1, l1, k1⟩ := pick_str SG_ok (i := d1 % 22) (by omega) (by omega)
    obtain ⟨w2, e2', l2, k2⟩ := pick_str SG_ok (i := d2 % 22) (by omega) (by omega)
    by_cases q : d0 = 7
    · refine suf (w7 ++ w1 ++ w2) (by rw [List.length_append, List.length_append]; omega) (okC_app (okC_app k7 k1) k2) (then_rt ?_)
      rw [r_seq, set_nx (d := .list (SG.map tS)) (by rfl), r_nx, r_seq]
      show thenO (sIf (tV (e2 pEq (eV 4) (eC (.int 7)))) _ _ [NS, .int k, .bool odd, DS, .int d0, .none, .none, .none, .list (SG.map tS)]) _ = _
      rw [if_tt (show _ = some true from tV_ok (e2_ok rfl rfl (by rw [pEq_int, q]; rfl)))]
      exact then_rt (ret_rt (e2_ok (e2_ok (e2_ok rfl (e2_ok rfl rfl i7) e7) (e2_ok rfl (e2_ok (e2_ok rfl rfl i1) rfl (pMod_ok (by decide))) e1) (tx_pAdd (by omega))) (e2_ok rfl (e2_ok (e2_ok rfl rfl i2) rfl (pMod_ok (by decide))) e2') (tx_pAdd (by rw [List.length_append]; omega))))
    · refine suf w7 (by omega) k7 (then_rt ?_)
      rw [r_seq, set_nx (d := .list (SG.map tS)) (by rfl), r_nx, r_seq]
      show thenO (sIf (tV (e2 pEq (eV 4) (eC (.int 7)))) _ _ [NS, .int k, .bool odd, DS, .int d0, .none, .none, .none, .list (SG.map tS)]) _ = _
      rw [if_ff (show _ = some false from tV_ok (e2_ok rfl rfl (by rw [pEq_int]; exact congrArg (fun b => some (PyData.bool b)) (beq_false_of_ne q)))), r_skip, r_nx]
      exact ret_rt (e2_ok rfl (e2_ok rfl rfl i7) e7)
  rw [if_ff ((cmp 8).trans (congrArg some (decide_eq_false c8))), r_skip, r_nx, r_seq] at suf
  by_cases q8 : d0 = 8
  · rw [if_tt ((eqc 8).trans (by rw [q8]; rfl))] at suf
    exact suf [32] (by decide) (okC_one (by decide)) rfl
  rw [if_ff ((eqc 8).trans (congrArg some (beq_false_of_ne q8))), r_skip, r_nx, r_seq] at suf
  by_cases q9 : d0 = 9
  · rw [if_tt ((eqc 9).trans (by rw [q9]; rfl))] at suf
    obtain ⟨w, e, l, kk⟩ := pick_str (LL := [[10], [9], [32, 32], [10, 10]]) (by decide +kernel) (i := d1 % 4) (by omega) (by show d1 % 4 < ((4 : Nat) : Int); omega)
    exact suf w (by omega) kk (then_rt (ret_rt (e2_ok (x := .list (([[10], [9], [32, 32], [10, 10]] : List (List Nat)).map tS)) rfl (e2_ok (e2_ok rfl rfl i1) rfl (pMod_ok (by decide))) e)))
  rw [if_ff ((eqc 9).trans (congrArg some (beq_false_of_ne q9))), r_skip, r_nx, r_seq] at suf
  by_cases q10 : d0 = 10
  · rw [if_tt ((eqc 10).trans (by rw [q10]; rfl))] at suf
    obtain ⟨w, e, l, kk⟩ := pick_str (LL := ([ "#", "# a\n", "#b := 1", "#\n"] : List Str).map fun s => s.cps.toList) (by decide +kernel) (i := d1 % 4) (by omega) (by show d1 % 4 < ((4 : Nat) : Int); omega)
    exact suf w (by omega) kk (then_rt (ret_rt (e2_ok (x := .list ((([ "#", "# a\n", "#b := 1", "#\n"] : List Str).map fun s => s.cps.toList).map tS)) rfl (e2_ok (e2_ok rfl rfl i1) rfl (pMod_ok (by decide))) e)))
  rw [if_ff ((eqc 10).trans (congrArg some (beq_false_of_ne q10))), r_skip, r_nx, r_seq] at suf
  cases odd with
  | false =>
    rw [if_ff (show tT (eV 2) _ = some false from rfl), r_skip, r_nx] at suf
    exact suf [59] (by decide) (okC_one (by decide)) rfl
  | true =>
    rw [if_tt (show tT (eV 2) _ = some true from rfl)] at suf
    obtain ⟨O, hO⟩ : ∃ O : List Nat, O = (Str.ofString "!&?@$'~^|/\"\\`").cps.toList := ⟨_, rfl⟩
    have lO : O.length = 13 := by rw [hO]; decide +kernel
    have kO : ∀ c ∈ O, c < 1114112 := by rw [hO]; decide +kernel
    obtain ⟨c, hc⟩ := lt_at (cs := O) (p := d8.toNat) (by omega)
    have ix := tx_ix (cs := O) (p := d8.toNat) (by omega) hc
    rw [show ((d8.toNat : Nat) : Int) = d8 by omega] at ix
    refine suf [c] (by show 1 ≤ 400; decide) (okC_one (kO c (List.mem_of_getElem? hc))) (then_rt (ret_rt (e2_ok (x := tS O) ?_ (e2_ok rfl rfl i8) ix)))
    rw [hO]
    rfl
end
end My

namespace My
open PySem L2 Pf
theorem flat_fine {ds : List D} (h : F__law_fine ds = some (.bool true)) : flatF F__law_fine ds = some (.bool true) := by
  unfold flatF
  rw [h]
  rfl
theorem law_true (ns : List Int) (hl : ns.length ≤ 63) : F_law [.list (ns.map .int)] = some (.bool true) := by
  obtain ⟨NS, hNS⟩ : ∃ NS, NS = PyData.list (ns.map .int) := ⟨_, rfl⟩
  have ce := cell_eq ns 0 (by decide)
  have ln0 : lenD [NS] = some (.int (ns.length : Int)) := by rw [hNS, r_lenL, List.length_map]
  have pe := fun k hk hk2 odd => piece_ok ns k hk hk2 odd
  rw [← hNS] at ce ⊢
  simp only [← hNS] at pe
  clear hNS
  generalize cell ns 0 = c0 at ce
  refine runF_rt rfl ?_
  show B_law [NS, .none, .none, .none, .none, .none] = _
  have cel : ∀ env : List D, env[0]? = some NS → eL F__law_cell (aC (eV 0) (aC (eC (.int 0)) aN)) env = some (.int c0) := fun env h => eL_ok (aC_ok h (aC_ok rfl rfl)) ce
  have s1 : sSet 1 (e2 pEq (e2 pMod (eL F__law_cell (aC (eV 0) (aC (eC (.int 0)) aN))) (eC (.int 3))) (eC (.int 1))) [NS, .none, .none, .none, .none, .none] = some (.nx [NS, .bool (c0 % 3 == 1), .none, .none, .none, .none]) := set_nx (e2_ok (e2_ok (cel _ rfl) rfl (pMod_ok (by decide))) rfl (pEq_int _ _))
  generalize (c0 % 3 == 1) = odd at s1
  have s2 : sSet 2 (eC (.str (Str.ofString ""))) [NS, .bool odd, .none, .none, .none, .none] = some (.nx [NS, .bool odd, tS [], .none, .none, .none]) := rfl
  obtain ⟨n, hn⟩ : ∃ n : Nat, n = ((if (63 : Int) < (ns.length : Int) then 63 else (ns.length : Int)) - 1).toNat := ⟨_, rfl⟩
  have n62 : n ≤ 62 := by
    rw [hn]
    split <;> omega
  have er : aRng2 (aC (eC (.int 1)) (aC (eL minD (aC (eL lenD (aC (eV 0) aN)) (aC (eC (.int 63)) aN))) aN)) [NS, .bool odd, tS [], .none, .none, .none] = some (rngD 1 n) := by
    rw [hn]
    refine r_rng2 rfl (eL_ok (aC_ok (eL_ok (aC_ok rfl rfl) ln0) (aC_ok rfl rfl)) r_minI) (by decide) (by decide) ?_ ?_ <;> split <;> omega
  have lp := for_rng (lo := 1) (n := n) (g := gN 3) (body := L_law_2) (env := [NS, .bool odd, tS [], .none, .none, .none]) (fun i e => ∃ w x3, e = [NS, .bool odd, tS w, x3, .none, .none] ∧ w.length ≤ 401 * i ∧ okC w) ⟨[], .none, rfl, Nat.zero_le _, fun _ h => nomatch h⟩ (by
    rintro i e hi ⟨w, x3, rfl, hw, ok⟩
    show Stp (L_law_2 [NS, .bool odd, tS w, .int (1 + (i : Int)), .none, .none]) _ _ _
    obtain ⟨v, lv, kv, ev⟩ := pe (1 + (i : Int)) (by omega) (by omega) odd
    have s : sSet 2 (e2 pAdd (eV 2) (eL F__law_piece (aC (eV 0) (aC (eV 3) (aC (eV 1) aN))))) [NS, .bool odd, tS w, .int (1 + (i : Int)), .none, .none] = some (.nx [NS, .bool odd, tS (w ++ v), .int (1 + (i : Int)), .none, .none]) := set_nx (e2_ok rfl (eL_ok (aC_ok rfl (aC_ok rfl (aC_ok rfl rfl))) ev) (tx_pAdd (by omega)))
    have t : tV (e2 pEq (e2 pMod (e2 pDiv (eL F__law_cell (aC (eV 0) (aC (eC (.int 0)) aN))) (eC (.int 3))) (eC (.int 2))) (eC (.int 0))) [NS, .bool odd, tS (w ++ v), .int (1 + (i : Int)), .none, .none] = some (c0 / 3 % 2 == 0) := tV_ok (e2_ok (e2_ok (e2_ok (cel _ rfl) rfl (pDiv_ok (by decide) (by decide))) rfl (pMod_ok (by decide))) rfl (pEq_int _ _))
    unfold L_law_2
    rw [r_seq, s, r_nx]
    unfold I_law_1
    cases hb : (c0 / 3 % 2 == 0) with
    | true =>
      rw [hb] at t
      rw [if_tt t, set_nx (e2_ok rfl (y := tS [32]) rfl (tx_pAdd (by rw [List.length_append]; show _ + 1 ≤ _; omega)))]
      exact ⟨w ++ v ++ [32], _, rfl, by rw [List.length_append, List.length_append]; show _ + 1 ≤ _; omega, okC_app (okC_app ok kv) (okC_one (by decide))⟩
    | false =>
      rw [hb] at t
      rw [if_ff t]
      exact ⟨w ++ v, _, rfl, by rw [List.length_append]; omega, okC_app ok kv⟩)
  obtain ⟨e', l1, w, x3, rfl, hw, ok⟩ := lp
  -- the text
  have cut : sSet 2 (eSl pSlS (eV 2) oN (oS (eC (.int 4000)))) [NS, .bool odd, tS w, x3, .none, .none] = some (.nx [NS, .bool odd, tS (w.take 4000), x3, .none, .none]) := set_nx (tx_cutTo (by omega) 4000)
  have hN : (w.take 4000).length ≤ 4000 := by rw [List.length_take]; omega
  have hV : okC (w.take 4000) := fun c hc => ok c (List.mem_of_mem_take hc)
  generalize w.take 4000 = cs at cut hN hV
  obtain ⟨r, hr⟩ := run_ex hN cs.length 0 [] (by omega)
  have lw := lwords_eq hN hr
  have ae := asked_eq hN hr
  have fe := flat_fine (fine_eq hN hV hr)
  have fr : isiD "list" (res cs r) = true → ∃ ds, res cs r = .list ds ∧ ds.length ≤ 100000 := fun h => by
    cases r with
    | inl acc =>
      have la := (law_run hN hr (Nat.zero_le _) (Nat.zero_le _) (rngD 0 (cs.length + 1)) .none .none .none .none .none (by unfold rngD; rw [List.length_map, List.length_range]; omega)).1
      exact ⟨_, rfl, by rw [List.length_append]; show _ + 1 ≤ _; omega⟩
    | inr q => cases h
  have nr : isR (res cs r) = false := by cases r <;> rfl
  generalize res cs r = RD at lw ae fe fr nr
  have s4 : sSet 4 (eL F__law_words (aC (eV 2) aN)) [NS, .bool odd, tS cs, x3, .none, .none] = some (.nx [NS, .bool odd, tS cs, x3, RD, .none]) := set_nx (eL_ok (aC_ok rfl rfl) lw)
  have s5 : sSet 5 (eL F__law_asked (aC (eV 2) aN)) [NS, .bool odd, tS cs, x3, RD, .none] = some (.nx [NS, .bool odd, tS cs, x3, RD, RD]) := set_nx (eL_ok (aC_ok rfl rfl) ae)
  have t6 : tNotF (tT (eL (flatF F__law_fine) (aC (eV 5) (aC (eV 4) aN)))) [NS, .bool odd, tS cs, x3, RD, RD] = some false := tnot_ok (b := true) (eL_ok (aC_ok rfl (aC_ok rfl rfl)) fe)
  unfold B_law
  rw [r_seq, s1, r_nx, r_seq, s2, r_nx, r_seq, for_run er, l1, r_nx, r_seq, cut, r_nx, r_seq, s4, r_nx, r_seq, s5, r_nx, r_seq, if_ff t6, r_skip, r_nx, r_seq]
  have t7 : tT (eIsi "list" (eV 5)) [NS, .bool odd, tS cs, x3, RD, RD] = some (isiD "list" RD) := by
    unfold tT eIsi
    show (((some RD : Option D).bind fun d => if isR d = true then none else some (PyData.bool (isiD "list" d)))).bind truth = _
    rw [Option.bind_some, nr]
    rfl
  unfold I_law_3
  cases hi : isiD "list" RD with
  | false =>
    rw [hi] at t7
    rw [if_ff t7, r_skip, r_nx]
    rfl
  | true =>
    rw [hi] at t7
    obtain ⟨ds, e, ld⟩ := fr hi
    have ap : sApp 5 (eTup (aC (eC (.str (Str.ofString "word"))) (aC (eC (.str (Str.ofString "x"))) (aC (eC (.int 1)) (aC (eC (.int 1)) aN))))) [NS, .bool odd, tS cs, x3, RD, RD] = some (.nx [NS, .bool odd, tS cs, x3, RD, .list (ds ++ [.tuple [.str (Str.ofString "word"), .str (Str.ofString "x"), .int 1, .int 1]])]) :=
      app_nx (tup_ok (aC_ok rfl (aC_ok rfl (aC_ok rfl (aC_ok rfl rfl)))) (by show 4 ≤ 16777216; decide)) (by show some RD = _; rw [e]) (by omega)
    rw [if_tt t7, r_seq, ap, r_nx]
    refine then_rt (ret_rt (eL_ok (aC_ok (eL_ok (aC_ok rfl rfl) ae) (aC_ok rfl rfl)) fe))
end My

namespace My
open PySem L2 Pf
theorem walk {l : PySem.W.OpenLaw} {q : Program} {loose : List Str} {XP : (Str → Option Value) → Heap → Prop} {YP : World → Heap → Prop} {d : DefRec} {K : Params → PySem.W.Frag} (hn : l.most = some 63) (hdf : d.params.defaults = [])
    (hY : ∀ (w : World) (h : Heap), YP w h → (K w.params).In h)
    (F : ∀ (w : World) (mg : Str → Option Value) (fa : Addr) (h : Heap), (K w.params).In h → h.Ns mainGlobals mg → mg d.name = some (.ref fa) →
      ∃ fd : FuncData, (∀ (s : Shared) (u : Value), BindsTo s fd ⟨[u], []⟩ [("script", u)]) ∧ ∀ base : Heap, (K w.params).In base → base.Ns mainGlobals mg → L2.FnOk l.prog w (K w.params) mg base L2.CX0 6 fa fd ["script"] (Pf.Pure (K w.params) 1 0 My.F_law)) :
    PySem.W.WalkO q loose XP YP l.row.toRowW d [] (fun f vs => PySem.call f vs) :=
  L2.walk_of (n := 63) (k := 6) (x := "script") (CX := fun _ => L2.CX0) (sp := fun w => Pf.Pure (K w.params) 1 0 My.F_law) hn (by decide) hdf ⟨rfl, by decide, by decide⟩ hY F
    (fun w H a ns hl _ hS => Pf.pure_law (My.law_true ns hl) hS) fun _ _ _ _ _ z => z
end My
open PySem PySem.W PyProof.Rows
set_option maxRecDepth 100000 in
set_option maxHeartbeats 0 in
theorem PySem.Challenge.cw_wardens_k01_words_of_a_source_holds : PySem.Challenge.rw_wardens_k01_words_of_a_source.Holds := by
  w_on; o_law; k_head; (case hw => w_witness2)
  k_fill
  refine My.walk (l := PySem.Challenge.rw_wardens_k01_words_of_a_source) rfl rfl (fun w h Y => PySem.W.kIn_of Y) ?F
  case F =>
    intro w mg fa h KX G hmg
    refine' My.all_mk KX G hmg ?a0 ?l0 ?c0 ?k0 ?a1 ?l1 ?c1 ?k1 ?a2 ?l2 ?c2 ?k2 ?a3 ?l3 ?c3 ?k3 ?a4 ?l4 ?c4 ?k4 ?a5 ?l5 ?c5 ?k5 ?a6 ?l6 ?c6 ?k6 ?a7 ?l7 ?c7 ?k7 ?a8 ?l8 ?c8 ?k8 ?a9 ?l9 ?c9 ?k9 ?a10 ?l10 ?c10 ?k10 ?a11 ?l11 ?c11 ?k11 ?a12 ?l12 ?c12 ?k12 ?a13 ?l13 ?c13 ?k13 ?a14 ?l14 ?c14 ?k14 ?a15 ?l15 ?c15 ?k15 ?z_ValueError ?z_bool ?z_isinstance ?z_len ?z_list ?z_min ?z_range ?z_str ?z_tuple ?gn_SIGNS ?gl_SIGNS ?aW ?s_aC ?s_xL ?s_hbm ?s_sa ?s_eC ?s_tC ?s_kC ?s_ini ?s_n1 ?s_n2 ?s_n3 ?s_sup ?s_sVE ?s_tpa ?s_mro ?s_noS ?s_top ?s_iC ?s_tI ?s_lI ?s_cI ?s_hli ?s_lc ?s_hv ?s_hf ?s_lcc ?s_te ?s_xga ?s_xgg ?s_xhd ?s_xca ?s_xsp ?s_xtk ?s_xmo ?s_kiv ?gc_BLANKS ?gc_DIGITS ?gc_LETTERS ?gn_LONGEST ?gl_LONGEST ?gk_LONGEST ?gs_LONGEST ?ki_SourceError_WardenError ?xe_SourceError_SourceError
    (case a0 => k_is)
    (case l0 => k_is)
    (case c0 => k_is)
    (case k0 => k_is)
    (case a1 => k_is)
    (case l1 => k_is)
    (case c1 => k_is)
    (case k1 => k_is)
    (case a2 => k_is)
    (case l2 => k_is)
    (case c2 => k_is)
    (case k2 => k_is)
    (case a3 => k_is)
    (case l3 => k_is)
    (case c3 => k_is)
    (case k3 => k_is)
    (case a4 => k_is)
    (case l4 => k_is)
    (case c4 => k_is)
    (case k4 => k_is)
    (case a5 => k_is)
    (case l5 => k_is)
    (case c5 => k_is)
    (case k5 => k_is)
    (case a6 => k_is)
    (case l6 => k_is)
    (case c6 => k_is)
    (case k6 => k_is)
    (case a7 => k_is)
    (case l7 => k_is)
    (case c7 => k_is)
    (case k7 => k_is)
    (case a8 => k_is)
    (case l8 => k_is)
    (case c8 => k_is)
    (case k8 => k_is)
    (case a9 => k_is)
    (case l9 => k_is)
    (case c9 => k_is)
    (case k9 => k_is)
    (case a10 => k_is)
    (case l10 => k_is)
    (case c10 => k_is)
    (case k10 => k_is)
    (case a11 => k_is)
    (case l11 => k_is)
    (case c11 => k_is)
    (case k11 => k_is)
    (case a12 => k_is)
    (case l12 => k_is)
    (case c12 => k_is)
    (case k12 => k_is)
    (case a13 => k_is)
    (case l13 => k_is)
    (case c13 => k_is)
    (case k13 => k_is)
    (case a14 => k_is)
    (case l14 => k_is)
    (case c14 => k_is)
    (case k14 => k_is)
    (case a15 => k_is)
    (case l15 => k_is)
    (case c15 => k_is)
    (case k15 => k_is)
    (case z_ValueError => k_is)
    (case z_bool => k_is)
    (case z_isinstance => k_is)
    (case z_len => k_is)
    (case z_list => k_is)
    (case z_min => k_is)
    (case z_range => k_is)
    (case z_str => k_is)
    (case z_tuple => k_is)
    (case gn_SIGNS => k_is)
    (case gl_SIGNS => k_is)
    (case aW => k_is)
    (case s_aC => k_is)
    (case s_xL => k_is)
    (case s_hbm => rfl)
    (case s_sa => k_is)
    (case s_eC => k_is)
    (case s_tC => k_is)
    (case s_kC => k_is)
    (case s_ini => kx_is)
    (case s_n1 => k_is)
    (case s_n2 => k_is)
    (case s_n3 => k_is)
    (case s_sup => ks_is)
    (case s_sVE => k_is)
    (case s_tpa => first | k_is | ks_is)
    (case s_mro => first | k_is | ks_is)
    (case s_noS => k_is)
    (case s_top => first | rfl | decide)
    (case s_iC => k_is)
    (case s_tI => k_is)
    (case s_lI => k_is)
    (case s_cI => k_is)
    (case s_hli => rfl)
    (case s_lc => k_is)
    (case s_hv => rfl)
    (case s_hf => first | rfl | decide)
    (case s_lcc => k_is)
    (case s_te => first | rfl | k_is)
    (case s_xga => first | k_is | kx_is)
    (case s_xgg => k_is)
    (case s_xhd => k_is)
    (case s_xca => k_is)
    (case s_xsp => first | k_is | rfl)
    (case s_xtk => first | k_is | rfl)
    (case s_xmo => first | k_is | ks_is)
    (case s_kiv => first | k_is | rfl | kx_is | ks_is)
    (case gc_BLANKS => k_is)
    (case gc_DIGITS => k_is)
    (case gc_LETTERS => k_is)
    (case gn_LONGEST => k_is)
    (case gl_LONGEST => k_is)
    (case gk_LONGEST => exact ⟨⟨_, _, rfl, rfl⟩, ⟨_, _, rfl, rfl⟩, trivial⟩)
    (case gs_LONGEST => first | rfl | decide | k_is)
    (case ki_SourceError_WardenError => first | k_is | rfl | kx_is | ks_is)
    (case xe_SourceError_SourceError => first | k_is | kx_is | ks_is | rfl)


